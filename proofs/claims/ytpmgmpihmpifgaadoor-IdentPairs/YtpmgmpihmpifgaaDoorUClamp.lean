/-
  What Clamp answers.
-/
import Derived.Test.YtpmgmpihmpifgaaDoorXK1
import Derived.Test.YtpmgmpihmpifgaaDoorULadder
namespace Go.Proofs.YtpmgmpihmpifgaaDoor.Cv
open Go.RowKit
set_option maxRecDepth 100000
set_option linter.unusedSimpArgs false

/-- a key's number, clamped -/
def cl (M : Nat) : Nat := M % 28948022309329048855892746252171976963317496166410141009864396001978282409984 / 8 * 8 + 28948022309329048855892746252171976963317496166410141009864396001978282409984
theorem and248 (x : Int) (h : 0 ≤ x ∧ x < 256) : bits .and .u8 x 248 = x / 8 * 8 := by
  obtain ⟨k, rfl⟩ := Int.eq_ofNat_of_zero_le h.1
  have : ∀ n : Fin 256, bits .and .u8 (n.val : Int) 248 = (n.val : Int) / 8 * 8 := by decide +kernel
  exact this ⟨k, by omega⟩
theorem top64 (x : Int) (h : 0 ≤ x ∧ x < 256) : bits .or .u8 (bits .and .u8 x 127) 64 = x % 64 + 64 := by
  obtain ⟨k, rfl⟩ := Int.eq_ofNat_of_zero_le h.1
  have : ∀ n : Fin 256, bits .or .u8 (bits .and .u8 (n.val : Int) 127) 64 = (n.val : Int) % 64 + 64 := by decide +kernel
  exact this ⟨k, by omega⟩
set_option maxHeartbeats 1000000 in
theorem cl_digit (M i : Nat) (h0 : i ≠ 0) (h1 : i < 31) : (cl M : Int) / 256 ^ i % 256 = (M : Int) / 256 ^ i % 256 := by
  have e : (cl M : Int) = (M : Int) % 28948022309329048855892746252171976963317496166410141009864396001978282409984 / 8 * 8 + 28948022309329048855892746252171976963317496166410141009864396001978282409984 := by unfold cl; omega
  rw [e]
  generalize (M : Int) = m
  rcases (show i = 1 ∨ i = 2 ∨ i = 3 ∨ i = 4 ∨ i = 5 ∨ i = 6 ∨ i = 7 ∨ i = 8 ∨ i = 9 ∨ i = 10 ∨ i = 11 ∨ i = 12 ∨ i = 13 ∨ i = 14 ∨ i = 15 ∨ i = 16 ∨ i = 17 ∨ i = 18 ∨ i = 19 ∨ i = 20 ∨ i = 21 ∨ i = 22 ∨ i = 23 ∨ i = 24 ∨ i = 25 ∨ i = 26 ∨ i = 27 ∨ i = 28 ∨ i = 29 ∨ i = 30 by omega) with rfl | rfl | rfl | rfl | rfl | rfl | rfl | rfl | rfl | rfl | rfl | rfl | rfl | rfl | rfl | rfl | rfl | rfl | rfl | rfl | rfl | rfl | rfl | rfl | rfl | rfl | rfl | rfl | rfl | rfl
  · rw [show (256 : Int) ^ 1 = 256 from by decide]
    omega
  · rw [show (256 : Int) ^ 2 = 65536 from by decide]
    omega
  · rw [show (256 : Int) ^ 3 = 16777216 from by decide]
    omega
  · rw [show (256 : Int) ^ 4 = 4294967296 from by decide]
    omega
  · rw [show (256 : Int) ^ 5 = 1099511627776 from by decide]
    omega
  · rw [show (256 : Int) ^ 6 = 281474976710656 from by decide]
    omega
  · rw [show (256 : Int) ^ 7 = 72057594037927936 from by decide]
    omega
  · rw [show (256 : Int) ^ 8 = 18446744073709551616 from by decide]
    omega
  · rw [show (256 : Int) ^ 9 = 4722366482869645213696 from by decide]
    omega
  · rw [show (256 : Int) ^ 10 = 1208925819614629174706176 from by decide]
    omega
  · rw [show (256 : Int) ^ 11 = 309485009821345068724781056 from by decide]
    omega
  · rw [show (256 : Int) ^ 12 = 79228162514264337593543950336 from by decide]
    omega
  · rw [show (256 : Int) ^ 13 = 20282409603651670423947251286016 from by decide]
    omega
  · rw [show (256 : Int) ^ 14 = 5192296858534827628530496329220096 from by decide]
    omega
  · rw [show (256 : Int) ^ 15 = 1329227995784915872903807060280344576 from by decide]
    omega
  · rw [show (256 : Int) ^ 16 = 340282366920938463463374607431768211456 from by decide]
    omega
  · rw [show (256 : Int) ^ 17 = 87112285931760246646623899502532662132736 from by decide]
    omega
  · rw [show (256 : Int) ^ 18 = 22300745198530623141535718272648361505980416 from by decide]
    omega
  · rw [show (256 : Int) ^ 19 = 5708990770823839524233143877797980545530986496 from by decide]
    omega
  · rw [show (256 : Int) ^ 20 = 1461501637330902918203684832716283019655932542976 from by decide]
    omega
  · rw [show (256 : Int) ^ 21 = 374144419156711147060143317175368453031918731001856 from by decide]
    omega
  · rw [show (256 : Int) ^ 22 = 95780971304118053647396689196894323976171195136475136 from by decide]
    omega
  · rw [show (256 : Int) ^ 23 = 24519928653854221733733552434404946937899825954937634816 from by decide]
    omega
  · rw [show (256 : Int) ^ 24 = 6277101735386680763835789423207666416102355444464034512896 from by decide]
    omega
  · rw [show (256 : Int) ^ 25 = 1606938044258990275541962092341162602522202993782792835301376 from by decide]
    omega
  · rw [show (256 : Int) ^ 26 = 411376139330301510538742295639337626245683966408394965837152256 from by decide]
    omega
  · rw [show (256 : Int) ^ 27 = 105312291668557186697918027683670432318895095400549111254310977536 from by decide]
    omega
  · rw [show (256 : Int) ^ 28 = 26959946667150639794667015087019630673637144422540572481103610249216 from by decide]
    omega
  · rw [show (256 : Int) ^ 29 = 6901746346790563787434755862277025452451108972170386555162524223799296 from by decide]
    omega
  · rw [show (256 : Int) ^ 30 = 1766847064778384329583297500742918515827483896875618958121606201292619776 from by decide]
    omega
theorem cl_first (M : Nat) : (cl M : Int) / 256 ^ 0 % 256 = (M : Int) / 256 ^ 0 % 256 / 8 * 8 := by
  have e : (cl M : Int) = (M : Int) % 28948022309329048855892746252171976963317496166410141009864396001978282409984 / 8 * 8 + 28948022309329048855892746252171976963317496166410141009864396001978282409984 := by unfold cl; omega
  rw [e, Int.pow_zero]
  generalize (M : Int) = m
  omega
theorem cl_last (M : Nat) : (cl M : Int) / 256 ^ 31 % 256 = (M : Int) / 256 ^ 31 % 256 % 64 + 64 := by
  have e : (cl M : Int) = (M : Int) % 28948022309329048855892746252171976963317496166410141009864396001978282409984 / 8 * 8 + 28948022309329048855892746252171976963317496166410141009864396001978282409984 := by unfold cl; omega
  rw [e, show (256 : Int) ^ 31 = 452312848583266388373324160190187140051835877600158453279131187530910662656 from by decide]
  generalize (M : Int) = m
  omega
theorem kc_get (n : Int) (i : Nat) (hi : i < 32) : (kc (digs n 32))[i]? = some (.int .u8 (n / 256 ^ i % 256)) := by
  have h1 : i < (digs n 32).length := by rw [digs_len]; exact hi
  have h2 := digs_getD n i hi
  unfold kc
  simp [h1]
  rw [← h2]
  simp [List.getD, h1]
theorem clamp_cells (M : Nat) : (((kc (digs (M : Int) 32)).setIfInBounds 0 (.int .u8 ((M : Int) / 256 ^ 0 % 256 / 8 * 8))).setIfInBounds 31 (.int .u8 ((M : Int) / 256 ^ 31 % 256 % 64 + 64))) = kc (digs (cl M : Int) 32) := by
  apply Array.ext
  · simp [kc_size, digs_len]
  · intro i h1 h2
    have hi : i < 32 := by rw [kc_size, digs_len] at h2; exact h2
    have e2 := kc_get (cl M : Int) i hi
    have e1 := kc_get (M : Int) i hi
    rw [Array.getElem?_eq_getElem h2] at e2
    rw [Array.getElem_setIfInBounds, Array.getElem_setIfInBounds, Option.some.inj e2]
    by_cases h31 : i = 31
    · subst h31
      rw [if_pos rfl, cl_last]
    · rw [if_neg (fun e => h31 e.symm)]
      by_cases h0 : i = 0
      · subst h0
        rw [if_pos rfl, cl_first]
      · rw [if_neg (fun e => h0 e.symm), cl_digit M i h0 (by omega)]
        have hs : i < (kc (digs (M : Int) 32)).size := by rw [kc_size, digs_len]; exact hi
        rw [Array.getElem?_eq_getElem hs] at e1
        exact Option.some.inj e1
    · rw [kc_size, digs_len]
      exact hi
    · rw [Array.size_setIfInBounds, kc_size, digs_len]
      exact hi

theorem kc32 (n : Int) (k : Nat) : (kc (digs n k)).size = 32 := by rw [kc_size, digs_len]
def Z32 : Array Value := #[.int .u8 0, .int .u8 0, .int .u8 0, .int .u8 0, .int .u8 0, .int .u8 0, .int .u8 0, .int .u8 0, .int .u8 0, .int .u8 0, .int .u8 0, .int .u8 0, .int .u8 0, .int .u8 0, .int .u8 0, .int .u8 0, .int .u8 0, .int .u8 0, .int .u8 0, .int .u8 0, .int .u8 0, .int .u8 0, .int .u8 0, .int .u8 0, .int .u8 0, .int .u8 0, .int .u8 0, .int .u8 0, .int .u8 0, .int .u8 0, .int .u8 0, .int .u8 0]
theorem Z32_size : Z32.size = 32 := rfl

set_option maxHeartbeats 2000000 in
theorem clamp_ok (M : Nat) (w : World) : Calls Tryd.prog 62 #[.agg (kc (digs (M : Int) 32))] w (fun r w' => r = .returned (.agg (kc (digs (cl M : Int) 32))) ∧ Gr w w') := by
  go_enter Tryd.func62, Tryd.ntmps62
  go_upto_region 1 with fail
  have hB := ((Bl.nil w).new (kc (digs (M : Int) 32)) 25).new #[.int .u8 0, .int .u8 0, .int .u8 0, .int .u8 0, .int .u8 0, .int .u8 0, .int .u8 0, .int .u8 0, .int .u8 0, .int .u8 0, .int .u8 0, .int .u8 0, .int .u8 0, .int .u8 0, .int .u8 0, .int .u8 0, .int .u8 0, .int .u8 0, .int .u8 0, .int .u8 0, .int .u8 0, .int .u8 0, .int .u8 0, .int .u8 0, .int .u8 0, .int .u8 0, .int .u8 0, .int .u8 0, .int .u8 0, .int .u8 0, .int .u8 0, .int .u8 0] 25
  simp only [size_alloc, List.nil_append, List.cons_append] at hB
  generalize World.alloc _ _ = v1_ at *
  replace hB : Bl w [⟨w.heap.size, kc (digs (M : Int) 32), 25⟩, ⟨w.heap.size + 1, Z32, 25⟩] v1_ := hB
  have k0 := key_cell (KB.of (hB.get 0 (x := ⟨w.heap.size, kc (digs (M : Int) 32), 25⟩) rfl)) 0 (by omega)
  have k31 := key_cell (KB.of (hB.get 0 (x := ⟨w.heap.size, kc (digs (M : Int) 32), 25⟩) rfl)) 31 (by omega)
  have f0 := KB.froz (KB.of (hB.get 0 (x := ⟨w.heap.size, kc (digs (M : Int) 32), 25⟩) rfl)) 0
  have f31 := KB.froz (KB.of (hB.get 0 (x := ⟨w.heap.size, kc (digs (M : Int) 32), 25⟩) rfl)) 31
  have r0 : 0 ≤ (M : Int) / 256 ^ 0 % 256 ∧ (M : Int) / 256 ^ 0 % 256 < 256 := by omega
  have r31 : 0 ≤ (M : Int) / 256 ^ 31 % 256 ∧ (M : Int) / 256 ^ 31 % 256 < 256 := by omega
  have hC := hide (clamp_cells M)
  generalize (M : Int) / 256 ^ 0 % 256 = x0 at k0 r0 hC
  generalize (M : Int) / 256 ^ 31 % 256 = x31 at k31 r31 hC
  replace hB := hide hB
  go_upto_region 4 with fail
  replace hB := unhide hB
  replace hB := ((hB.cell 0 rfl 0 (.int .u8 (bits .and .u8 x0 248))).cell 0 rfl 31 (.int .u8 (bits .and .u8 x31 127))).cell 0 rfl 31 (.int .u8 (bits .or .u8 (bits .and .u8 x31 127) 64))
  simp only [List.set_cons_zero, List.getElem?_cons_zero, Option.some.injEq, Array.setIfInBounds_setIfInBounds] at hB
  generalize World.setCell _ _ _ = v2_ at *
  rw [and248 x0 r0, top64 x31 r31, unhide hC] at hB
  clear k0 k31 f0 f31 r0 r31 hC
  refine wp_region_lit ?_
  refine list_val (.agg (kc (digs (cl M : Int) 32))) (by kernel_rfl) (exec_arr _ 25 (.tmp 1) rfl w.heap.size (by kernel_rfl) (kc (digs (cl M : Int) 32)) 25 _ (hB.get 0 (x := ⟨w.heap.size, (kc (digs (cl M : Int) 32)), 25⟩) rfl) Tryd.underlying25 rfl (by rw [Tryd.infoKey, kc32])) ?_
  simp only [nrm]
  refine list_store 25 (.tmp 2) (.tmp 15) (w.heap.size + 1) (kc (digs (cl M : Int) 32)) 25 Z32 (by kernel_rfl) rfl (by kernel_rfl) (by kernel_rfl) (hB.get 1 (x := ⟨w.heap.size + 1, Z32, 25⟩) rfl) (by rw [Tryd.infoKey, kc32]) (Z32_size.trans (kc32 (cl M : Int) 32).symm) (kc_one _) ?_
  replace hB := hB.set 1 (x := ⟨w.heap.size + 1, Z32, 25⟩) rfl (kc (digs (cl M : Int) 32))
  simp only [List.set_cons_zero, List.set_cons_succ] at hB
  generalize World.setRow _ _ _ = v3_ at *
  simp only [nrm]
  refine wpList_nil ?_
  go_wp2_with fail
  exact bodyPost_ret (v := .agg (kc (digs (cl M : Int) 32))) (results_cell_row Tryd.results62 _ _ (w.heap.size + 1) 25 (kc (digs (cl M : Int) 32)) (0, 0) _ rfl (hB.get 1 (x := ⟨w.heap.size + 1, (kc (digs (cl M : Int) 32)), 25⟩) rfl) Tryd.underlying25 rfl (by rw [Tryd.infoKey, kc32])) rfl ⟨rfl, hB.gr⟩
end Go.Proofs.YtpmgmpihmpifgaaDoor.Cv


