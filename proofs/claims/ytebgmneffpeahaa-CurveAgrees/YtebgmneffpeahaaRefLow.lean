/-
  The reference's Low.
-/
import Derived.Test.YtebgmneffpeahaaRefDigits
import Derived.Test.YtebgmneffpeahaaAgree
namespace Go.Proofs.Ytebgmneffpeahaa
open Go.RowKit
set_option maxRecDepth 100000
set_option linter.unusedSimpArgs false

def l8 : List Nat := [51, 50, 53, 54, 48, 54, 50, 53, 48, 57, 49, 54, 53, 53, 55, 52, 51, 49, 55, 57, 53, 57, 56, 51, 54, 50, 54, 51, 53, 54, 49, 49, 48, 54, 51, 49, 50, 57, 52, 48, 48, 56, 49, 49, 53, 55, 50, 55, 56, 52, 56, 56, 48, 53, 53, 54, 48, 48, 50, 51, 51, 56, 55, 49, 54, 55, 57, 50, 55, 50, 51, 51, 53, 48, 52]
def l9 : List Nat := [51, 57, 51, 56, 50, 51, 53, 55, 50, 51, 53, 52, 56, 57, 54, 49, 52, 53, 56, 49, 55, 50, 51, 48, 54, 48, 55, 56, 49, 53, 53, 51, 48, 50, 49, 49, 49, 50, 53, 50, 57, 57, 49, 49, 55, 49, 57, 52, 52, 48, 54, 57, 56, 49, 55, 54, 56, 56, 50, 56, 56, 53, 56, 53, 51, 57, 54, 51, 52, 52, 53, 55, 48, 53, 56, 50, 51]
def s8 : ByteArray := ⟨#[51, 50, 53, 54, 48, 54, 50, 53, 48, 57, 49, 54, 53, 53, 55, 52, 51, 49, 55, 57, 53, 57, 56, 51, 54, 50, 54, 51, 53, 54, 49, 49, 48, 54, 51, 49, 50, 57, 52, 48, 48, 56, 49, 49, 53, 55, 50, 55, 56, 52, 56, 56, 48, 53, 53, 54, 48, 48, 50, 51, 51, 56, 55, 49, 54, 55, 57, 50, 55, 50, 51, 51, 53, 48, 52]⟩
def s9 : ByteArray := ⟨#[51, 57, 51, 56, 50, 51, 53, 55, 50, 51, 53, 52, 56, 57, 54, 49, 52, 53, 56, 49, 55, 50, 51, 48, 54, 48, 55, 56, 49, 53, 53, 51, 48, 50, 49, 49, 49, 50, 53, 50, 57, 57, 49, 49, 55, 49, 57, 52, 52, 48, 54, 57, 56, 49, 55, 54, 56, 56, 50, 56, 56, 53, 56, 53, 51, 57, 54, 51, 52, 52, 53, 55, 48, 53, 56, 50, 51]⟩
theorem s8_get (k : Nat) (h : k < s8.size) : (s8[k]'h).toNat = l8.getD k 0 := by
  have : ∀ k : Fin 75, (s8[k.val]'(by have := k.isLt; exact this)).toNat = l8.getD k.val 0 := by decide +kernel
  exact this ⟨k, h⟩
theorem s9_get (k : Nat) (h : k < s9.size) : (s9[k]'h).toNat = l9.getD k 0 := by
  have : ∀ k : Fin 77, (s9[k.val]'(by have := k.isLt; exact this)).toNat = l9.getD k.val 0 := by decide +kernel
  exact this ⟨k, h⟩
theorem l8_dig (k : Nat) (h : k < 75) : 48 ≤ l8.getD k 0 ∧ l8.getD k 0 ≤ 57 := by
  have : ∀ k : Fin 75, 48 ≤ l8.getD k.val 0 ∧ l8.getD k.val 0 ≤ 57 := by decide +kernel
  exact this ⟨k, h⟩
theorem l9_dig (k : Nat) (h : k < 77) : 48 ≤ l9.getD k 0 ∧ l9.getD k 0 ≤ 57 := by
  have : ∀ k : Fin 77, 48 ≤ l9.getD k.val 0 ∧ l9.getD k.val 0 ≤ 57 := by decide +kernel
  exact this ⟨k, h⟩
theorem dv8 : dv (fun k => l8.getD k 0) 75 = 325606250916557431795983626356110631294008115727848805560023387167927233504 := by decide +kernel
theorem dv9 : dv (fun k => l9.getD k 0) 77 = 39382357235489614581723060781553021112529911719440698176882885853963445705823 := by decide +kernel
theorem dig8_ok (w : World) : Calls Try.prog 28 #[.string s8] w (RetN 325606250916557431795983626356110631294008115727848805560023387167927233504 w) := by
  have := digits_ok s8 75 (fun k => l8.getD k 0) rfl (by omega) s8_get l8_dig w
  rw [dv8] at this
  exact this
theorem dig9_ok (w : World) : Calls Try.prog 28 #[.string s9] w (RetN 39382357235489614581723060781553021112529911719440698176882885853963445705823 w) := by
  have := digits_ok s9 77 (fun k => l9.getD k 0) rfl (by omega) s9_get l9_dig w
  rw [dv9] at this
  exact this
theorem key_diff {n m : Int} (hn : 0 ≤ n ∧ n < 115792089237316195423570985008687907853269984665640564039457584007913129639936) (hm : 0 ≤ m ∧ m < 115792089237316195423570985008687907853269984665640564039457584007913129639936) (h : n ≠ m) (w : World) : Sem.run Try.prog (Op.equalIn 10000 23 (.agg (kc (digs n 32))) (.agg (kc (digs m 32)))) w = .ok false w := by
  rw [key_eq _ _ (digs_len _ _) (digs_len _ _) w]
  have : digs n 32 ≠ digs m 32 := fun e => h (digs_inj n m hn hm e)
  simp [this]

set_option maxHeartbeats 2000000 in
theorem rlow_0 (U : Nat) (hU : U < 115792089237316195423570985008687907853269984665640564039457584007913129639936) (hV : (U : Int) % 57896044618658097711785492504343953926634992332820282019728792003956564819968 % pp = 0) (w : World) :
    Calls Try.prog 11 #[.agg (kc (digs (U : Int) 32))] w (fun r w' => r = .returned (.bool true) ∧ Gr w w') := by
  replace hU := hide hU
  replace hV := hide hV
  go_enter Try.func11, Try.ntmps11
  go_upto_region 1 with fail
  have hB := (Bl.nil w).new (kc (digs (U : Int) 32)) 23
  simp only [List.nil_append] at hB
  generalize World.alloc _ _ = v1_ at *
  refine wp_region_lit ?_
  refine list_val (.agg (kc (digs (U : Int) 32))) (by kernel_rfl) (exec_arr _ 23 (.tmp 1) rfl w.heap.size (by kernel_rfl) (kc (digs (U : Int) 32)) 23 _ (hB.get 0 (x := ⟨w.heap.size, (kc (digs (U : Int) 32)), 23⟩) rfl) Try.underlying23 rfl (by rw [Try.infoKey, kc32])) ?_
  simp only [Act.put, List.setIfInBounds_toArray, List.set_cons_zero, List.set_cons_succ, List.getElem_toArray, List.getElem_cons_zero, List.getElem_cons_succ]
  refine list_call 20 #[.agg (kc (digs (U : Int) 32))] (by kernel_rfl) (by kernel_rfl) ((rFrom_ok U (unhide hU) _).mono ?_)
  rintro r v2_ ⟨c1, rfl, hc1, hg⟩
  refine ⟨_, rfl, ?_⟩
  replace hB := hB.more hg
  clear hg
  simp only [Act.put, List.setIfInBounds_toArray, List.set_cons_zero, List.set_cons_succ, List.getElem_toArray, List.getElem_cons_zero, List.getElem_cons_succ]
  refine list_call 26 #[.agg c1] (by kernel_rfl) (by kernel_rfl) ((nbytes_nc hc1 _).mono ?_)
  rintro r v3_ ⟨rfl, hg⟩
  refine ⟨_, rfl, ?_⟩
  rw [unhide hV]
  replace hB := hB.more hg
  clear hg
  simp only [Act.put, List.setIfInBounds_toArray, List.set_cons_zero, List.set_cons_succ, List.getElem_toArray, List.getElem_cons_zero, List.getElem_cons_succ]
  refine wpList_step fun K hK => ?_
  replace hK := hide hK
  go_simp
  refine unhide hK _ _ ?_
  clear hK K
  replace hB := hB.new #[.int .u8 0, .int .u8 0, .int .u8 0, .int .u8 0, .int .u8 0, .int .u8 0, .int .u8 0, .int .u8 0, .int .u8 0, .int .u8 0, .int .u8 0, .int .u8 0, .int .u8 0, .int .u8 0, .int .u8 0, .int .u8 0, .int .u8 0, .int .u8 0, .int .u8 0, .int .u8 0, .int .u8 0, .int .u8 0, .int .u8 0, .int .u8 0, .int .u8 0, .int .u8 0, .int .u8 0, .int .u8 0, .int .u8 0, .int .u8 0, .int .u8 0, .int .u8 0] 23
  simp only [List.cons_append, List.nil_append] at hB
  generalize v3_.heap.size = g1_3 at *
  generalize World.alloc _ _ = v4_ at *
  replace hB : Bl w [⟨w.heap.size, (kc (digs (U : Int) 32)), 23⟩, ⟨g1_3, Z32, 23⟩] v4_ := hB
  refine list_store 23 (.tmp 3) (.tmp 6) g1_3 (kc (digs (0 : Int) 32)) 23 Z32 (by kernel_rfl) rfl (by kernel_rfl) (by kernel_rfl) (hB.get 1 (x := ⟨g1_3, Z32, 23⟩) rfl) (by rw [Try.infoKey, kc32]) (Z32_size.trans (kc32 (0 : Int) 32).symm) (kc_one _) ?_
  replace hB := hB.set 1 (x := ⟨g1_3, Z32, 23⟩) rfl (kc (digs (0 : Int) 32))
  simp only [List.set_cons_zero, List.set_cons_succ] at hB
  generalize World.setRow _ _ _ = v5_ at *
  simp only [Act.put, List.setIfInBounds_toArray, List.set_cons_zero, List.set_cons_succ, List.getElem_toArray, List.getElem_cons_zero, List.getElem_cons_succ]
  refine wpList_nil ?_
  go_upto_region 2 with fail
  refine any_start (S := fun v => v.heap[g1_3]? = some (.cells (kc (digs (0 : Int) 32)) 23 (0, 0)) ∧ True) (by kernel_rfl) ?_
  replace hB := hB.drew
  generalize World.drew _ = v6_ at *
  simp only [List.size_toArray, List.length_cons, List.length_nil, Array.replicate, List.replicate]
  refine any_take (i := 0) (v := (.agg (kc (digs (0 : Int) 32)))) #[false, false, false, false, false, false, false, false, false, false, false, false, false, false, false, false, false, false, false, false, false, false, false, false, false, false, false, false, false, false, false, false, false, false, false] rfl (by kernel_rfl) (by kernel_rfl) (by kernel_rfl) (by kernel_rfl) (fun _ _ _ h => h) (.inl ⟨by kernel_rfl, fun x_ hu => exec_arr x_ 23 (.tmp 3) rfl g1_3 (by kernel_rfl) (kc (digs (0 : Int) 32)) 23 _ hu.1 Try.underlying23 rfl (by rw [Try.infoKey, kc32])⟩) ⟨(hB.get 1 (x := ⟨g1_3, (kc (digs (0 : Int) 32)), 23⟩) rfl), trivial⟩ ?_
  simp only [Act.put, List.setIfInBounds_toArray, List.set_cons_zero, List.set_cons_succ, List.getElem_toArray, List.getElem_cons_zero, List.getElem_cons_succ]
  refine any_take (i := 1) (v := (.agg (kc (digs ((0 : Nat) : Int) 32)))) #[true, false, false, false, false, false, false, false, false, false, false, false, false, false, false, false, false, false, false, false, false, false, false, false, false, false, false, false, false, false, false, false, false, false, false] rfl (by kernel_rfl) (by kernel_rfl) (by kernel_rfl) (by kernel_rfl) (fun _ _ _ h => h) (.inl ⟨by kernel_rfl, fun x_ hu => by kernel_rfl⟩) ⟨(hB.get 1 (x := ⟨g1_3, (kc (digs (0 : Int) 32)), 23⟩) rfl), trivial⟩ ?_
  simp only [Act.put, List.setIfInBounds_toArray, List.set_cons_zero, List.set_cons_succ, List.getElem_toArray, List.getElem_cons_zero, List.getElem_cons_succ]
  refine any_one (i := 2) (by kernel_rfl) rfl (fun K hK => ?_)
  refine step_callw (by kernel_rfl) 20 #[.agg (kc (digs ((0 : Nat) : Int) 32))] (by kernel_rfl) ((rFrom_ok 0 (by decide) _).mono ?_)
  rintro r v7_ ⟨c2, rfl, hc2, hg⟩
  refine ⟨_, rfl, ?_⟩
  replace hc2 : NC 0 c2 := NC.same hc2 rfl
  replace hB := hB.more hg
  clear hg
  refine hK.out _ _ ⟨(hB.get 1 (x := ⟨g1_3, (kc (digs (0 : Int) 32)), 23⟩) rfl), trivial⟩ (fun _ => ?_)
  clear hK K
  simp only [Act.put, List.setIfInBounds_toArray, List.set_cons_zero, List.set_cons_succ, List.getElem_toArray, List.getElem_cons_zero, List.getElem_cons_succ]
  refine any_one (i := 3) (by kernel_rfl) rfl (fun K hK => ?_)
  refine step_callw (by kernel_rfl) 26 #[.agg c2] (by kernel_rfl) ((nbytes_nc hc2 _).mono ?_)
  rintro r v8_ ⟨rfl, hg⟩
  refine ⟨_, rfl, ?_⟩
  rw [show (0 : Int) % pp = 0 from by decide]
  replace hB := hB.more hg
  clear hg
  refine hK.out _ _ ⟨(hB.get 1 (x := ⟨g1_3, (kc (digs (0 : Int) 32)), 23⟩) rfl), trivial⟩ (fun _ => ?_)
  clear hK K
  simp only [Act.put, List.setIfInBounds_toArray, List.set_cons_zero, List.set_cons_succ, List.getElem_toArray, List.getElem_cons_zero, List.getElem_cons_succ]
  refine any_take (i := 4) (v := (.bool true)) #[true, true, true, true, false, false, false, false, false, false, false, false, false, false, false, false, false, false, false, false, false, false, false, false, false, false, false, false, false, false, false, false, false, false, false] rfl (by kernel_rfl) (by kernel_rfl) (by kernel_rfl) (by kernel_rfl) (fun _ _ _ h => h) (.inl ⟨by kernel_rfl, fun x_ hu => by have e := key_same (0 : Int); go_simp⟩) ⟨(hB.get 1 (x := ⟨g1_3, (kc (digs (0 : Int) 32)), 23⟩) rfl), trivial⟩ ?_
  simp only [Act.put, List.setIfInBounds_toArray, List.set_cons_zero, List.set_cons_succ, List.getElem_toArray, List.getElem_cons_zero, List.getElem_cons_succ]
  refine any_take (i := 5) (v := (.bool true)) #[true, true, true, true, true, false, false, false, false, false, false, false, false, false, false, false, false, false, false, false, false, false, false, false, false, false, false, false, false, false, false, false, false, false, false] rfl (by kernel_rfl) (by kernel_rfl) (by kernel_rfl) (by kernel_rfl) (fun _ _ _ h => h) (.inl ⟨by kernel_rfl, fun x_ hu => by kernel_rfl⟩) ⟨(hB.get 1 (x := ⟨g1_3, (kc (digs (0 : Int) 32)), 23⟩) rfl), trivial⟩ ?_
  simp only [Act.put, List.setIfInBounds_toArray, List.set_cons_zero, List.set_cons_succ, List.getElem_toArray, List.getElem_cons_zero, List.getElem_cons_succ]
  refine any_take (i := 6) (v := undef) #[true, true, true, true, true, true, false, false, false, false, false, false, false, false, false, false, false, false, false, false, false, false, false, false, false, false, false, false, false, false, false, false, false, false, false] rfl (by kernel_rfl) (by kernel_rfl) (by kernel_rfl) (by kernel_rfl) (fun _ _ _ h => h) (.inr ⟨by kernel_rfl, rfl⟩) ⟨(hB.get 1 (x := ⟨g1_3, (kc (digs (0 : Int) 32)), 23⟩) rfl), trivial⟩ ?_
  simp only [Act.put, List.setIfInBounds_toArray, List.set_cons_zero, List.set_cons_succ, List.getElem_toArray, List.getElem_cons_zero, List.getElem_cons_succ]
  refine any_take (i := 7) (v := undef) #[true, true, true, true, true, true, true, false, false, false, false, false, false, false, false, false, false, false, false, false, false, false, false, false, false, false, false, false, false, false, false, false, false, false, false] rfl (by kernel_rfl) (by kernel_rfl) (by kernel_rfl) (by kernel_rfl) (fun _ _ _ h => h) (.inr ⟨by kernel_rfl, rfl⟩) ⟨(hB.get 1 (x := ⟨g1_3, (kc (digs (0 : Int) 32)), 23⟩) rfl), trivial⟩ ?_
  simp only [Act.put, List.setIfInBounds_toArray, List.set_cons_zero, List.set_cons_succ, List.getElem_toArray, List.getElem_cons_zero, List.getElem_cons_succ]
  refine any_take (i := 8) (v := undef) #[true, true, true, true, true, true, true, true, false, false, false, false, false, false, false, false, false, false, false, false, false, false, false, false, false, false, false, false, false, false, false, false, false, false, false] rfl (by kernel_rfl) (by kernel_rfl) (by kernel_rfl) (by kernel_rfl) (fun _ _ _ h => h) (.inr ⟨by kernel_rfl, rfl⟩) ⟨(hB.get 1 (x := ⟨g1_3, (kc (digs (0 : Int) 32)), 23⟩) rfl), trivial⟩ ?_
  simp only [Act.put, List.setIfInBounds_toArray, List.set_cons_zero, List.set_cons_succ, List.getElem_toArray, List.getElem_cons_zero, List.getElem_cons_succ]
  refine any_take (i := 9) (v := undef) #[true, true, true, true, true, true, true, true, true, false, false, false, false, false, false, false, false, false, false, false, false, false, false, false, false, false, false, false, false, false, false, false, false, false, false] rfl (by kernel_rfl) (by kernel_rfl) (by kernel_rfl) (by kernel_rfl) (fun _ _ _ h => h) (.inr ⟨by kernel_rfl, rfl⟩) ⟨(hB.get 1 (x := ⟨g1_3, (kc (digs (0 : Int) 32)), 23⟩) rfl), trivial⟩ ?_
  simp only [Act.put, List.setIfInBounds_toArray, List.set_cons_zero, List.set_cons_succ, List.getElem_toArray, List.getElem_cons_zero, List.getElem_cons_succ]
  refine any_take (i := 10) (v := undef) #[true, true, true, true, true, true, true, true, true, true, false, false, false, false, false, false, false, false, false, false, false, false, false, false, false, false, false, false, false, false, false, false, false, false, false] rfl (by kernel_rfl) (by kernel_rfl) (by kernel_rfl) (by kernel_rfl) (fun _ _ _ h => h) (.inr ⟨by kernel_rfl, rfl⟩) ⟨(hB.get 1 (x := ⟨g1_3, (kc (digs (0 : Int) 32)), 23⟩) rfl), trivial⟩ ?_
  simp only [Act.put, List.setIfInBounds_toArray, List.set_cons_zero, List.set_cons_succ, List.getElem_toArray, List.getElem_cons_zero, List.getElem_cons_succ]
  refine any_take (i := 11) (v := (.bool true)) #[true, true, true, true, true, true, true, true, true, true, true, false, false, false, false, false, false, false, false, false, false, false, false, false, false, false, false, false, false, false, false, false, false, false, false] rfl (by kernel_rfl) (by kernel_rfl) (by kernel_rfl) (by kernel_rfl) (fun _ _ _ h => h) (.inl ⟨by kernel_rfl, fun x_ hu => by kernel_rfl⟩) ⟨(hB.get 1 (x := ⟨g1_3, (kc (digs (0 : Int) 32)), 23⟩) rfl), trivial⟩ ?_
  simp only [Act.put, List.setIfInBounds_toArray, List.set_cons_zero, List.set_cons_succ, List.getElem_toArray, List.getElem_cons_zero, List.getElem_cons_succ]
  refine any_take (i := 12) (v := (.bool true)) #[true, true, true, true, true, true, true, true, true, true, true, true, false, false, false, false, false, false, false, false, false, false, false, false, false, false, false, false, false, false, false, false, false, false, false] rfl (by kernel_rfl) (by kernel_rfl) (by kernel_rfl) (by kernel_rfl) (fun _ _ _ h => h) (.inl ⟨by kernel_rfl, fun x_ hu => by kernel_rfl⟩) ⟨(hB.get 1 (x := ⟨g1_3, (kc (digs (0 : Int) 32)), 23⟩) rfl), trivial⟩ ?_
  simp only [Act.put, List.setIfInBounds_toArray, List.set_cons_zero, List.set_cons_succ, List.getElem_toArray, List.getElem_cons_zero, List.getElem_cons_succ]
  refine any_take (i := 13) (v := undef) #[true, true, true, true, true, true, true, true, true, true, true, true, true, false, false, false, false, false, false, false, false, false, false, false, false, false, false, false, false, false, false, false, false, false, false] rfl (by kernel_rfl) (by kernel_rfl) (by kernel_rfl) (by kernel_rfl) (fun _ _ _ h => h) (.inr ⟨by kernel_rfl, rfl⟩) ⟨(hB.get 1 (x := ⟨g1_3, (kc (digs (0 : Int) 32)), 23⟩) rfl), trivial⟩ ?_
  simp only [Act.put, List.setIfInBounds_toArray, List.set_cons_zero, List.set_cons_succ, List.getElem_toArray, List.getElem_cons_zero, List.getElem_cons_succ]
  refine any_take (i := 14) (v := undef) #[true, true, true, true, true, true, true, true, true, true, true, true, true, true, false, false, false, false, false, false, false, false, false, false, false, false, false, false, false, false, false, false, false, false, false] rfl (by kernel_rfl) (by kernel_rfl) (by kernel_rfl) (by kernel_rfl) (fun _ _ _ h => h) (.inr ⟨by kernel_rfl, rfl⟩) ⟨(hB.get 1 (x := ⟨g1_3, (kc (digs (0 : Int) 32)), 23⟩) rfl), trivial⟩ ?_
  simp only [Act.put, List.setIfInBounds_toArray, List.set_cons_zero, List.set_cons_succ, List.getElem_toArray, List.getElem_cons_zero, List.getElem_cons_succ]
  refine any_take (i := 15) (v := undef) #[true, true, true, true, true, true, true, true, true, true, true, true, true, true, true, false, false, false, false, false, false, false, false, false, false, false, false, false, false, false, false, false, false, false, false] rfl (by kernel_rfl) (by kernel_rfl) (by kernel_rfl) (by kernel_rfl) (fun _ _ _ h => h) (.inr ⟨by kernel_rfl, rfl⟩) ⟨(hB.get 1 (x := ⟨g1_3, (kc (digs (0 : Int) 32)), 23⟩) rfl), trivial⟩ ?_
  simp only [Act.put, List.setIfInBounds_toArray, List.set_cons_zero, List.set_cons_succ, List.getElem_toArray, List.getElem_cons_zero, List.getElem_cons_succ]
  refine any_take (i := 16) (v := undef) #[true, true, true, true, true, true, true, true, true, true, true, true, true, true, true, true, false, false, false, false, false, false, false, false, false, false, false, false, false, false, false, false, false, false, false] rfl (by kernel_rfl) (by kernel_rfl) (by kernel_rfl) (by kernel_rfl) (fun _ _ _ h => h) (.inr ⟨by kernel_rfl, rfl⟩) ⟨(hB.get 1 (x := ⟨g1_3, (kc (digs (0 : Int) 32)), 23⟩) rfl), trivial⟩ ?_
  simp only [Act.put, List.setIfInBounds_toArray, List.set_cons_zero, List.set_cons_succ, List.getElem_toArray, List.getElem_cons_zero, List.getElem_cons_succ]
  refine any_take (i := 17) (v := undef) #[true, true, true, true, true, true, true, true, true, true, true, true, true, true, true, true, true, false, false, false, false, false, false, false, false, false, false, false, false, false, false, false, false, false, false] rfl (by kernel_rfl) (by kernel_rfl) (by kernel_rfl) (by kernel_rfl) (fun _ _ _ h => h) (.inr ⟨by kernel_rfl, rfl⟩) ⟨(hB.get 1 (x := ⟨g1_3, (kc (digs (0 : Int) 32)), 23⟩) rfl), trivial⟩ ?_
  simp only [Act.put, List.setIfInBounds_toArray, List.set_cons_zero, List.set_cons_succ, List.getElem_toArray, List.getElem_cons_zero, List.getElem_cons_succ]
  refine any_take (i := 18) (v := undef) #[true, true, true, true, true, true, true, true, true, true, true, true, true, true, true, true, true, true, false, false, false, false, false, false, false, false, false, false, false, false, false, false, false, false, false] rfl (by kernel_rfl) (by kernel_rfl) (by kernel_rfl) (by kernel_rfl) (fun _ _ _ h => h) (.inr ⟨by kernel_rfl, rfl⟩) ⟨(hB.get 1 (x := ⟨g1_3, (kc (digs (0 : Int) 32)), 23⟩) rfl), trivial⟩ ?_
  simp only [Act.put, List.setIfInBounds_toArray, List.set_cons_zero, List.set_cons_succ, List.getElem_toArray, List.getElem_cons_zero, List.getElem_cons_succ]
  refine any_take (i := 19) (v := undef) #[true, true, true, true, true, true, true, true, true, true, true, true, true, true, true, true, true, true, true, false, false, false, false, false, false, false, false, false, false, false, false, false, false, false, false] rfl (by kernel_rfl) (by kernel_rfl) (by kernel_rfl) (by kernel_rfl) (fun _ _ _ h => h) (.inr ⟨by kernel_rfl, rfl⟩) ⟨(hB.get 1 (x := ⟨g1_3, (kc (digs (0 : Int) 32)), 23⟩) rfl), trivial⟩ ?_
  simp only [Act.put, List.setIfInBounds_toArray, List.set_cons_zero, List.set_cons_succ, List.getElem_toArray, List.getElem_cons_zero, List.getElem_cons_succ]
  refine any_take (i := 20) (v := undef) #[true, true, true, true, true, true, true, true, true, true, true, true, true, true, true, true, true, true, true, true, false, false, false, false, false, false, false, false, false, false, false, false, false, false, false] rfl (by kernel_rfl) (by kernel_rfl) (by kernel_rfl) (by kernel_rfl) (fun _ _ _ h => h) (.inr ⟨by kernel_rfl, rfl⟩) ⟨(hB.get 1 (x := ⟨g1_3, (kc (digs (0 : Int) 32)), 23⟩) rfl), trivial⟩ ?_
  simp only [Act.put, List.setIfInBounds_toArray, List.set_cons_zero, List.set_cons_succ, List.getElem_toArray, List.getElem_cons_zero, List.getElem_cons_succ]
  refine any_take (i := 21) (v := (.bool true)) #[true, true, true, true, true, true, true, true, true, true, true, true, true, true, true, true, true, true, true, true, true, false, false, false, false, false, false, false, false, false, false, false, false, false, false] rfl (by kernel_rfl) (by kernel_rfl) (by kernel_rfl) (by kernel_rfl) (fun _ _ _ h => h) (.inl ⟨by kernel_rfl, fun x_ hu => by kernel_rfl⟩) ⟨(hB.get 1 (x := ⟨g1_3, (kc (digs (0 : Int) 32)), 23⟩) rfl), trivial⟩ ?_
  simp only [Act.put, List.setIfInBounds_toArray, List.set_cons_zero, List.set_cons_succ, List.getElem_toArray, List.getElem_cons_zero, List.getElem_cons_succ]
  refine any_take (i := 22) (v := (.bool true)) #[true, true, true, true, true, true, true, true, true, true, true, true, true, true, true, true, true, true, true, true, true, true, false, false, false, false, false, false, false, false, false, false, false, false, false] rfl (by kernel_rfl) (by kernel_rfl) (by kernel_rfl) (by kernel_rfl) (fun _ _ _ h => h) (.inl ⟨by kernel_rfl, fun x_ hu => by kernel_rfl⟩) ⟨(hB.get 1 (x := ⟨g1_3, (kc (digs (0 : Int) 32)), 23⟩) rfl), trivial⟩ ?_
  simp only [Act.put, List.setIfInBounds_toArray, List.set_cons_zero, List.set_cons_succ, List.getElem_toArray, List.getElem_cons_zero, List.getElem_cons_succ]
  refine any_take (i := 23) (v := undef) #[true, true, true, true, true, true, true, true, true, true, true, true, true, true, true, true, true, true, true, true, true, true, true, false, false, false, false, false, false, false, false, false, false, false, false] rfl (by kernel_rfl) (by kernel_rfl) (by kernel_rfl) (by kernel_rfl) (fun _ _ _ h => h) (.inr ⟨by kernel_rfl, rfl⟩) ⟨(hB.get 1 (x := ⟨g1_3, (kc (digs (0 : Int) 32)), 23⟩) rfl), trivial⟩ ?_
  simp only [Act.put, List.setIfInBounds_toArray, List.set_cons_zero, List.set_cons_succ, List.getElem_toArray, List.getElem_cons_zero, List.getElem_cons_succ]
  refine any_take (i := 24) (v := undef) #[true, true, true, true, true, true, true, true, true, true, true, true, true, true, true, true, true, true, true, true, true, true, true, true, false, false, false, false, false, false, false, false, false, false, false] rfl (by kernel_rfl) (by kernel_rfl) (by kernel_rfl) (by kernel_rfl) (fun _ _ _ h => h) (.inr ⟨by kernel_rfl, rfl⟩) ⟨(hB.get 1 (x := ⟨g1_3, (kc (digs (0 : Int) 32)), 23⟩) rfl), trivial⟩ ?_
  simp only [Act.put, List.setIfInBounds_toArray, List.set_cons_zero, List.set_cons_succ, List.getElem_toArray, List.getElem_cons_zero, List.getElem_cons_succ]
  refine any_take (i := 25) (v := undef) #[true, true, true, true, true, true, true, true, true, true, true, true, true, true, true, true, true, true, true, true, true, true, true, true, true, false, false, false, false, false, false, false, false, false, false] rfl (by kernel_rfl) (by kernel_rfl) (by kernel_rfl) (by kernel_rfl) (fun _ _ _ h => h) (.inr ⟨by kernel_rfl, rfl⟩) ⟨(hB.get 1 (x := ⟨g1_3, (kc (digs (0 : Int) 32)), 23⟩) rfl), trivial⟩ ?_
  simp only [Act.put, List.setIfInBounds_toArray, List.set_cons_zero, List.set_cons_succ, List.getElem_toArray, List.getElem_cons_zero, List.getElem_cons_succ]
  refine any_take (i := 26) (v := undef) #[true, true, true, true, true, true, true, true, true, true, true, true, true, true, true, true, true, true, true, true, true, true, true, true, true, true, false, false, false, false, false, false, false, false, false] rfl (by kernel_rfl) (by kernel_rfl) (by kernel_rfl) (by kernel_rfl) (fun _ _ _ h => h) (.inr ⟨by kernel_rfl, rfl⟩) ⟨(hB.get 1 (x := ⟨g1_3, (kc (digs (0 : Int) 32)), 23⟩) rfl), trivial⟩ ?_
  simp only [Act.put, List.setIfInBounds_toArray, List.set_cons_zero, List.set_cons_succ, List.getElem_toArray, List.getElem_cons_zero, List.getElem_cons_succ]
  refine any_take (i := 27) (v := (.bool true)) #[true, true, true, true, true, true, true, true, true, true, true, true, true, true, true, true, true, true, true, true, true, true, true, true, true, true, true, false, false, false, false, false, false, false, false] rfl (by kernel_rfl) (by kernel_rfl) (by kernel_rfl) (by kernel_rfl) (fun _ _ _ h => h) (.inl ⟨by kernel_rfl, fun x_ hu => by kernel_rfl⟩) ⟨(hB.get 1 (x := ⟨g1_3, (kc (digs (0 : Int) 32)), 23⟩) rfl), trivial⟩ ?_
  simp only [Act.put, List.setIfInBounds_toArray, List.set_cons_zero, List.set_cons_succ, List.getElem_toArray, List.getElem_cons_zero, List.getElem_cons_succ]
  refine any_take (i := 28) (v := (.bool true)) #[true, true, true, true, true, true, true, true, true, true, true, true, true, true, true, true, true, true, true, true, true, true, true, true, true, true, true, true, false, false, false, false, false, false, false] rfl (by kernel_rfl) (by kernel_rfl) (by kernel_rfl) (by kernel_rfl) (fun _ _ _ h => h) (.inl ⟨by kernel_rfl, fun x_ hu => by kernel_rfl⟩) ⟨(hB.get 1 (x := ⟨g1_3, (kc (digs (0 : Int) 32)), 23⟩) rfl), trivial⟩ ?_
  simp only [Act.put, List.setIfInBounds_toArray, List.set_cons_zero, List.set_cons_succ, List.getElem_toArray, List.getElem_cons_zero, List.getElem_cons_succ]
  refine any_take (i := 29) (v := undef) #[true, true, true, true, true, true, true, true, true, true, true, true, true, true, true, true, true, true, true, true, true, true, true, true, true, true, true, true, true, false, false, false, false, false, false] rfl (by kernel_rfl) (by kernel_rfl) (by kernel_rfl) (by kernel_rfl) (fun _ _ _ h => h) (.inr ⟨by kernel_rfl, rfl⟩) ⟨(hB.get 1 (x := ⟨g1_3, (kc (digs (0 : Int) 32)), 23⟩) rfl), trivial⟩ ?_
  simp only [Act.put, List.setIfInBounds_toArray, List.set_cons_zero, List.set_cons_succ, List.getElem_toArray, List.getElem_cons_zero, List.getElem_cons_succ]
  refine any_take (i := 30) (v := undef) #[true, true, true, true, true, true, true, true, true, true, true, true, true, true, true, true, true, true, true, true, true, true, true, true, true, true, true, true, true, true, false, false, false, false, false] rfl (by kernel_rfl) (by kernel_rfl) (by kernel_rfl) (by kernel_rfl) (fun _ _ _ h => h) (.inr ⟨by kernel_rfl, rfl⟩) ⟨(hB.get 1 (x := ⟨g1_3, (kc (digs (0 : Int) 32)), 23⟩) rfl), trivial⟩ ?_
  simp only [Act.put, List.setIfInBounds_toArray, List.set_cons_zero, List.set_cons_succ, List.getElem_toArray, List.getElem_cons_zero, List.getElem_cons_succ]
  refine any_take (i := 31) (v := undef) #[true, true, true, true, true, true, true, true, true, true, true, true, true, true, true, true, true, true, true, true, true, true, true, true, true, true, true, true, true, true, true, false, false, false, false] rfl (by kernel_rfl) (by kernel_rfl) (by kernel_rfl) (by kernel_rfl) (fun _ _ _ h => h) (.inr ⟨by kernel_rfl, rfl⟩) ⟨(hB.get 1 (x := ⟨g1_3, (kc (digs (0 : Int) 32)), 23⟩) rfl), trivial⟩ ?_
  simp only [Act.put, List.setIfInBounds_toArray, List.set_cons_zero, List.set_cons_succ, List.getElem_toArray, List.getElem_cons_zero, List.getElem_cons_succ]
  refine any_take (i := 32) (v := undef) #[true, true, true, true, true, true, true, true, true, true, true, true, true, true, true, true, true, true, true, true, true, true, true, true, true, true, true, true, true, true, true, true, false, false, false] rfl (by kernel_rfl) (by kernel_rfl) (by kernel_rfl) (by kernel_rfl) (fun _ _ _ h => h) (.inr ⟨by kernel_rfl, rfl⟩) ⟨(hB.get 1 (x := ⟨g1_3, (kc (digs (0 : Int) 32)), 23⟩) rfl), trivial⟩ ?_
  simp only [Act.put, List.setIfInBounds_toArray, List.set_cons_zero, List.set_cons_succ, List.getElem_toArray, List.getElem_cons_zero, List.getElem_cons_succ]
  refine any_take (i := 33) (v := (.bool true)) #[true, true, true, true, true, true, true, true, true, true, true, true, true, true, true, true, true, true, true, true, true, true, true, true, true, true, true, true, true, true, true, true, true, false, false] rfl (by kernel_rfl) (by kernel_rfl) (by kernel_rfl) (by kernel_rfl) (fun _ _ _ h => h) (.inl ⟨by kernel_rfl, fun x_ hu => by kernel_rfl⟩) ⟨(hB.get 1 (x := ⟨g1_3, (kc (digs (0 : Int) 32)), 23⟩) rfl), trivial⟩ ?_
  simp only [Act.put, List.setIfInBounds_toArray, List.set_cons_zero, List.set_cons_succ, List.getElem_toArray, List.getElem_cons_zero, List.getElem_cons_succ]
  refine any_one (i := 34) (by kernel_rfl) rfl (fun K hK => ?_)
  replace hK := hide hK
  go_simp
  refine (unhide hK).out _ _ ⟨(hB.get 1 (x := ⟨g1_3, (kc (digs (0 : Int) 32)), 23⟩) rfl), trivial⟩ (fun _ => ?_)
  clear hK K
  refine any_done (by kernel_rfl) ?_
  have hG := hide hB.gr
  clear hB
  go_wp2_with fail
  refine bodyPost_ret (v := .bool true) ?_ rfl ⟨rfl, unhide hG⟩
  simp [results, Try.results11, go_sem]

set_option maxHeartbeats 2000000 in
theorem rlow_1 (U : Nat) (hU : U < 115792089237316195423570985008687907853269984665640564039457584007913129639936) (hV : (U : Int) % 57896044618658097711785492504343953926634992332820282019728792003956564819968 % pp = 1) (w : World) :
    Calls Try.prog 11 #[.agg (kc (digs (U : Int) 32))] w (fun r w' => r = .returned (.bool true) ∧ Gr w w') := by
  replace hU := hide hU
  replace hV := hide hV
  go_enter Try.func11, Try.ntmps11
  go_upto_region 1 with fail
  have hB := (Bl.nil w).new (kc (digs (U : Int) 32)) 23
  simp only [List.nil_append] at hB
  generalize World.alloc _ _ = v1_ at *
  refine wp_region_lit ?_
  refine list_val (.agg (kc (digs (U : Int) 32))) (by kernel_rfl) (exec_arr _ 23 (.tmp 1) rfl w.heap.size (by kernel_rfl) (kc (digs (U : Int) 32)) 23 _ (hB.get 0 (x := ⟨w.heap.size, (kc (digs (U : Int) 32)), 23⟩) rfl) Try.underlying23 rfl (by rw [Try.infoKey, kc32])) ?_
  simp only [Act.put, List.setIfInBounds_toArray, List.set_cons_zero, List.set_cons_succ, List.getElem_toArray, List.getElem_cons_zero, List.getElem_cons_succ]
  refine list_call 20 #[.agg (kc (digs (U : Int) 32))] (by kernel_rfl) (by kernel_rfl) ((rFrom_ok U (unhide hU) _).mono ?_)
  rintro r v2_ ⟨c1, rfl, hc1, hg⟩
  refine ⟨_, rfl, ?_⟩
  replace hB := hB.more hg
  clear hg
  simp only [Act.put, List.setIfInBounds_toArray, List.set_cons_zero, List.set_cons_succ, List.getElem_toArray, List.getElem_cons_zero, List.getElem_cons_succ]
  refine list_call 26 #[.agg c1] (by kernel_rfl) (by kernel_rfl) ((nbytes_nc hc1 _).mono ?_)
  rintro r v3_ ⟨rfl, hg⟩
  refine ⟨_, rfl, ?_⟩
  rw [unhide hV]
  replace hB := hB.more hg
  clear hg
  simp only [Act.put, List.setIfInBounds_toArray, List.set_cons_zero, List.set_cons_succ, List.getElem_toArray, List.getElem_cons_zero, List.getElem_cons_succ]
  refine wpList_step fun K hK => ?_
  replace hK := hide hK
  go_simp
  refine unhide hK _ _ ?_
  clear hK K
  replace hB := hB.new #[.int .u8 0, .int .u8 0, .int .u8 0, .int .u8 0, .int .u8 0, .int .u8 0, .int .u8 0, .int .u8 0, .int .u8 0, .int .u8 0, .int .u8 0, .int .u8 0, .int .u8 0, .int .u8 0, .int .u8 0, .int .u8 0, .int .u8 0, .int .u8 0, .int .u8 0, .int .u8 0, .int .u8 0, .int .u8 0, .int .u8 0, .int .u8 0, .int .u8 0, .int .u8 0, .int .u8 0, .int .u8 0, .int .u8 0, .int .u8 0, .int .u8 0, .int .u8 0] 23
  simp only [List.cons_append, List.nil_append] at hB
  generalize v3_.heap.size = g1_3 at *
  generalize World.alloc _ _ = v4_ at *
  replace hB : Bl w [⟨w.heap.size, (kc (digs (U : Int) 32)), 23⟩, ⟨g1_3, Z32, 23⟩] v4_ := hB
  refine list_store 23 (.tmp 3) (.tmp 6) g1_3 (kc (digs (1 : Int) 32)) 23 Z32 (by kernel_rfl) rfl (by kernel_rfl) (by kernel_rfl) (hB.get 1 (x := ⟨g1_3, Z32, 23⟩) rfl) (by rw [Try.infoKey, kc32]) (Z32_size.trans (kc32 (1 : Int) 32).symm) (kc_one _) ?_
  replace hB := hB.set 1 (x := ⟨g1_3, Z32, 23⟩) rfl (kc (digs (1 : Int) 32))
  simp only [List.set_cons_zero, List.set_cons_succ] at hB
  generalize World.setRow _ _ _ = v5_ at *
  simp only [Act.put, List.setIfInBounds_toArray, List.set_cons_zero, List.set_cons_succ, List.getElem_toArray, List.getElem_cons_zero, List.getElem_cons_succ]
  refine wpList_nil ?_
  go_upto_region 2 with fail
  refine any_start (S := fun v => v.heap[g1_3]? = some (.cells (kc (digs (1 : Int) 32)) 23 (0, 0)) ∧ True) (by kernel_rfl) ?_
  replace hB := hB.drew
  generalize World.drew _ = v6_ at *
  simp only [List.size_toArray, List.length_cons, List.length_nil, Array.replicate, List.replicate]
  refine any_take (i := 0) (v := (.agg (kc (digs (1 : Int) 32)))) #[false, false, false, false, false, false, false, false, false, false, false, false, false, false, false, false, false, false, false, false, false, false, false, false, false, false, false, false, false, false, false, false, false, false, false] rfl (by kernel_rfl) (by kernel_rfl) (by kernel_rfl) (by kernel_rfl) (fun _ _ _ h => h) (.inl ⟨by kernel_rfl, fun x_ hu => exec_arr x_ 23 (.tmp 3) rfl g1_3 (by kernel_rfl) (kc (digs (1 : Int) 32)) 23 _ hu.1 Try.underlying23 rfl (by rw [Try.infoKey, kc32])⟩) ⟨(hB.get 1 (x := ⟨g1_3, (kc (digs (1 : Int) 32)), 23⟩) rfl), trivial⟩ ?_
  simp only [Act.put, List.setIfInBounds_toArray, List.set_cons_zero, List.set_cons_succ, List.getElem_toArray, List.getElem_cons_zero, List.getElem_cons_succ]
  refine any_take (i := 1) (v := (.agg (kc (digs ((0 : Nat) : Int) 32)))) #[true, false, false, false, false, false, false, false, false, false, false, false, false, false, false, false, false, false, false, false, false, false, false, false, false, false, false, false, false, false, false, false, false, false, false] rfl (by kernel_rfl) (by kernel_rfl) (by kernel_rfl) (by kernel_rfl) (fun _ _ _ h => h) (.inl ⟨by kernel_rfl, fun x_ hu => by kernel_rfl⟩) ⟨(hB.get 1 (x := ⟨g1_3, (kc (digs (1 : Int) 32)), 23⟩) rfl), trivial⟩ ?_
  simp only [Act.put, List.setIfInBounds_toArray, List.set_cons_zero, List.set_cons_succ, List.getElem_toArray, List.getElem_cons_zero, List.getElem_cons_succ]
  refine any_one (i := 2) (by kernel_rfl) rfl (fun K hK => ?_)
  refine step_callw (by kernel_rfl) 20 #[.agg (kc (digs ((0 : Nat) : Int) 32))] (by kernel_rfl) ((rFrom_ok 0 (by decide) _).mono ?_)
  rintro r v7_ ⟨c2, rfl, hc2, hg⟩
  refine ⟨_, rfl, ?_⟩
  replace hc2 : NC 0 c2 := NC.same hc2 rfl
  replace hB := hB.more hg
  clear hg
  refine hK.out _ _ ⟨(hB.get 1 (x := ⟨g1_3, (kc (digs (1 : Int) 32)), 23⟩) rfl), trivial⟩ (fun _ => ?_)
  clear hK K
  simp only [Act.put, List.setIfInBounds_toArray, List.set_cons_zero, List.set_cons_succ, List.getElem_toArray, List.getElem_cons_zero, List.getElem_cons_succ]
  refine any_one (i := 3) (by kernel_rfl) rfl (fun K hK => ?_)
  refine step_callw (by kernel_rfl) 26 #[.agg c2] (by kernel_rfl) ((nbytes_nc hc2 _).mono ?_)
  rintro r v8_ ⟨rfl, hg⟩
  refine ⟨_, rfl, ?_⟩
  rw [show (0 : Int) % pp = 0 from by decide]
  replace hB := hB.more hg
  clear hg
  refine hK.out _ _ ⟨(hB.get 1 (x := ⟨g1_3, (kc (digs (1 : Int) 32)), 23⟩) rfl), trivial⟩ (fun _ => ?_)
  clear hK K
  simp only [Act.put, List.setIfInBounds_toArray, List.set_cons_zero, List.set_cons_succ, List.getElem_toArray, List.getElem_cons_zero, List.getElem_cons_succ]
  refine any_take (i := 4) (v := (.bool false)) #[true, true, true, true, false, false, false, false, false, false, false, false, false, false, false, false, false, false, false, false, false, false, false, false, false, false, false, false, false, false, false, false, false, false, false] rfl (by kernel_rfl) (by kernel_rfl) (by kernel_rfl) (by kernel_rfl) (fun _ _ _ h => h) (.inl ⟨by kernel_rfl, fun x_ hu => by have e := key_diff (n := 1) (m := 0) (by omega) (by omega) (by decide); go_simp⟩) ⟨(hB.get 1 (x := ⟨g1_3, (kc (digs (1 : Int) 32)), 23⟩) rfl), trivial⟩ ?_
  simp only [Act.put, List.setIfInBounds_toArray, List.set_cons_zero, List.set_cons_succ, List.getElem_toArray, List.getElem_cons_zero, List.getElem_cons_succ]
  refine any_take (i := 5) (v := (.bool false)) #[true, true, true, true, true, false, false, false, false, false, false, false, false, false, false, false, false, false, false, false, false, false, false, false, false, false, false, false, false, false, false, false, false, false, false] rfl (by kernel_rfl) (by kernel_rfl) (by kernel_rfl) (by kernel_rfl) (fun _ _ _ h => h) (.inl ⟨by kernel_rfl, fun x_ hu => by kernel_rfl⟩) ⟨(hB.get 1 (x := ⟨g1_3, (kc (digs (1 : Int) 32)), 23⟩) rfl), trivial⟩ ?_
  simp only [Act.put, List.setIfInBounds_toArray, List.set_cons_zero, List.set_cons_succ, List.getElem_toArray, List.getElem_cons_zero, List.getElem_cons_succ]
  refine any_take (i := 6) (v := (.agg (kc (digs (1 : Int) 32)))) #[true, true, true, true, true, true, false, false, false, false, false, false, false, false, false, false, false, false, false, false, false, false, false, false, false, false, false, false, false, false, false, false, false, false, false] rfl (by kernel_rfl) (by kernel_rfl) (by kernel_rfl) (by kernel_rfl) (fun _ _ _ h => h) (.inl ⟨by kernel_rfl, fun x_ hu => exec_arr x_ 23 (.tmp 3) rfl g1_3 (by kernel_rfl) (kc (digs (1 : Int) 32)) 23 _ hu.1 Try.underlying23 rfl (by rw [Try.infoKey, kc32])⟩) ⟨(hB.get 1 (x := ⟨g1_3, (kc (digs (1 : Int) 32)), 23⟩) rfl), trivial⟩ ?_
  simp only [Act.put, List.setIfInBounds_toArray, List.set_cons_zero, List.set_cons_succ, List.getElem_toArray, List.getElem_cons_zero, List.getElem_cons_succ]
  refine any_take (i := 7) (v := (.agg (kc (digs ((1 : Nat) : Int) 32)))) #[true, true, true, true, true, true, true, false, false, false, false, false, false, false, false, false, false, false, false, false, false, false, false, false, false, false, false, false, false, false, false, false, false, false, false] rfl (by kernel_rfl) (by kernel_rfl) (by kernel_rfl) (by kernel_rfl) (fun _ _ _ h => h) (.inl ⟨by kernel_rfl, fun x_ hu => by kernel_rfl⟩) ⟨(hB.get 1 (x := ⟨g1_3, (kc (digs (1 : Int) 32)), 23⟩) rfl), trivial⟩ ?_
  simp only [Act.put, List.setIfInBounds_toArray, List.set_cons_zero, List.set_cons_succ, List.getElem_toArray, List.getElem_cons_zero, List.getElem_cons_succ]
  refine any_one (i := 8) (by kernel_rfl) rfl (fun K hK => ?_)
  refine step_callw (by kernel_rfl) 20 #[.agg (kc (digs ((1 : Nat) : Int) 32))] (by kernel_rfl) ((rFrom_ok 1 (by decide) _).mono ?_)
  rintro r v9_ ⟨c3, rfl, hc3, hg⟩
  refine ⟨_, rfl, ?_⟩
  replace hc3 : NC 1 c3 := NC.same hc3 rfl
  replace hB := hB.more hg
  clear hg
  refine hK.out _ _ ⟨(hB.get 1 (x := ⟨g1_3, (kc (digs (1 : Int) 32)), 23⟩) rfl), trivial⟩ (fun _ => ?_)
  clear hK K
  simp only [Act.put, List.setIfInBounds_toArray, List.set_cons_zero, List.set_cons_succ, List.getElem_toArray, List.getElem_cons_zero, List.getElem_cons_succ]
  refine any_one (i := 9) (by kernel_rfl) rfl (fun K hK => ?_)
  refine step_callw (by kernel_rfl) 26 #[.agg c3] (by kernel_rfl) ((nbytes_nc hc3 _).mono ?_)
  rintro r v10_ ⟨rfl, hg⟩
  refine ⟨_, rfl, ?_⟩
  rw [show (1 : Int) % pp = 1 from by decide]
  replace hB := hB.more hg
  clear hg
  refine hK.out _ _ ⟨(hB.get 1 (x := ⟨g1_3, (kc (digs (1 : Int) 32)), 23⟩) rfl), trivial⟩ (fun _ => ?_)
  clear hK K
  simp only [Act.put, List.setIfInBounds_toArray, List.set_cons_zero, List.set_cons_succ, List.getElem_toArray, List.getElem_cons_zero, List.getElem_cons_succ]
  refine any_take (i := 10) (v := (.bool true)) #[true, true, true, true, true, true, true, true, true, true, false, false, false, false, false, false, false, false, false, false, false, false, false, false, false, false, false, false, false, false, false, false, false, false, false] rfl (by kernel_rfl) (by kernel_rfl) (by kernel_rfl) (by kernel_rfl) (fun _ _ _ h => h) (.inl ⟨by kernel_rfl, fun x_ hu => by have e := key_same (1 : Int); go_simp⟩) ⟨(hB.get 1 (x := ⟨g1_3, (kc (digs (1 : Int) 32)), 23⟩) rfl), trivial⟩ ?_
  simp only [Act.put, List.setIfInBounds_toArray, List.set_cons_zero, List.set_cons_succ, List.getElem_toArray, List.getElem_cons_zero, List.getElem_cons_succ]
  refine any_take (i := 11) (v := (.bool true)) #[true, true, true, true, true, true, true, true, true, true, true, false, false, false, false, false, false, false, false, false, false, false, false, false, false, false, false, false, false, false, false, false, false, false, false] rfl (by kernel_rfl) (by kernel_rfl) (by kernel_rfl) (by kernel_rfl) (fun _ _ _ h => h) (.inl ⟨by kernel_rfl, fun x_ hu => by kernel_rfl⟩) ⟨(hB.get 1 (x := ⟨g1_3, (kc (digs (1 : Int) 32)), 23⟩) rfl), trivial⟩ ?_
  simp only [Act.put, List.setIfInBounds_toArray, List.set_cons_zero, List.set_cons_succ, List.getElem_toArray, List.getElem_cons_zero, List.getElem_cons_succ]
  refine any_take (i := 12) (v := (.bool true)) #[true, true, true, true, true, true, true, true, true, true, true, true, false, false, false, false, false, false, false, false, false, false, false, false, false, false, false, false, false, false, false, false, false, false, false] rfl (by kernel_rfl) (by kernel_rfl) (by kernel_rfl) (by kernel_rfl) (fun _ _ _ h => h) (.inl ⟨by kernel_rfl, fun x_ hu => by kernel_rfl⟩) ⟨(hB.get 1 (x := ⟨g1_3, (kc (digs (1 : Int) 32)), 23⟩) rfl), trivial⟩ ?_
  simp only [Act.put, List.setIfInBounds_toArray, List.set_cons_zero, List.set_cons_succ, List.getElem_toArray, List.getElem_cons_zero, List.getElem_cons_succ]
  refine any_take (i := 13) (v := undef) #[true, true, true, true, true, true, true, true, true, true, true, true, true, false, false, false, false, false, false, false, false, false, false, false, false, false, false, false, false, false, false, false, false, false, false] rfl (by kernel_rfl) (by kernel_rfl) (by kernel_rfl) (by kernel_rfl) (fun _ _ _ h => h) (.inr ⟨by kernel_rfl, rfl⟩) ⟨(hB.get 1 (x := ⟨g1_3, (kc (digs (1 : Int) 32)), 23⟩) rfl), trivial⟩ ?_
  simp only [Act.put, List.setIfInBounds_toArray, List.set_cons_zero, List.set_cons_succ, List.getElem_toArray, List.getElem_cons_zero, List.getElem_cons_succ]
  refine any_take (i := 14) (v := undef) #[true, true, true, true, true, true, true, true, true, true, true, true, true, true, false, false, false, false, false, false, false, false, false, false, false, false, false, false, false, false, false, false, false, false, false] rfl (by kernel_rfl) (by kernel_rfl) (by kernel_rfl) (by kernel_rfl) (fun _ _ _ h => h) (.inr ⟨by kernel_rfl, rfl⟩) ⟨(hB.get 1 (x := ⟨g1_3, (kc (digs (1 : Int) 32)), 23⟩) rfl), trivial⟩ ?_
  simp only [Act.put, List.setIfInBounds_toArray, List.set_cons_zero, List.set_cons_succ, List.getElem_toArray, List.getElem_cons_zero, List.getElem_cons_succ]
  refine any_take (i := 15) (v := undef) #[true, true, true, true, true, true, true, true, true, true, true, true, true, true, true, false, false, false, false, false, false, false, false, false, false, false, false, false, false, false, false, false, false, false, false] rfl (by kernel_rfl) (by kernel_rfl) (by kernel_rfl) (by kernel_rfl) (fun _ _ _ h => h) (.inr ⟨by kernel_rfl, rfl⟩) ⟨(hB.get 1 (x := ⟨g1_3, (kc (digs (1 : Int) 32)), 23⟩) rfl), trivial⟩ ?_
  simp only [Act.put, List.setIfInBounds_toArray, List.set_cons_zero, List.set_cons_succ, List.getElem_toArray, List.getElem_cons_zero, List.getElem_cons_succ]
  refine any_take (i := 16) (v := undef) #[true, true, true, true, true, true, true, true, true, true, true, true, true, true, true, true, false, false, false, false, false, false, false, false, false, false, false, false, false, false, false, false, false, false, false] rfl (by kernel_rfl) (by kernel_rfl) (by kernel_rfl) (by kernel_rfl) (fun _ _ _ h => h) (.inr ⟨by kernel_rfl, rfl⟩) ⟨(hB.get 1 (x := ⟨g1_3, (kc (digs (1 : Int) 32)), 23⟩) rfl), trivial⟩ ?_
  simp only [Act.put, List.setIfInBounds_toArray, List.set_cons_zero, List.set_cons_succ, List.getElem_toArray, List.getElem_cons_zero, List.getElem_cons_succ]
  refine any_take (i := 17) (v := undef) #[true, true, true, true, true, true, true, true, true, true, true, true, true, true, true, true, true, false, false, false, false, false, false, false, false, false, false, false, false, false, false, false, false, false, false] rfl (by kernel_rfl) (by kernel_rfl) (by kernel_rfl) (by kernel_rfl) (fun _ _ _ h => h) (.inr ⟨by kernel_rfl, rfl⟩) ⟨(hB.get 1 (x := ⟨g1_3, (kc (digs (1 : Int) 32)), 23⟩) rfl), trivial⟩ ?_
  simp only [Act.put, List.setIfInBounds_toArray, List.set_cons_zero, List.set_cons_succ, List.getElem_toArray, List.getElem_cons_zero, List.getElem_cons_succ]
  refine any_take (i := 18) (v := undef) #[true, true, true, true, true, true, true, true, true, true, true, true, true, true, true, true, true, true, false, false, false, false, false, false, false, false, false, false, false, false, false, false, false, false, false] rfl (by kernel_rfl) (by kernel_rfl) (by kernel_rfl) (by kernel_rfl) (fun _ _ _ h => h) (.inr ⟨by kernel_rfl, rfl⟩) ⟨(hB.get 1 (x := ⟨g1_3, (kc (digs (1 : Int) 32)), 23⟩) rfl), trivial⟩ ?_
  simp only [Act.put, List.setIfInBounds_toArray, List.set_cons_zero, List.set_cons_succ, List.getElem_toArray, List.getElem_cons_zero, List.getElem_cons_succ]
  refine any_take (i := 19) (v := undef) #[true, true, true, true, true, true, true, true, true, true, true, true, true, true, true, true, true, true, true, false, false, false, false, false, false, false, false, false, false, false, false, false, false, false, false] rfl (by kernel_rfl) (by kernel_rfl) (by kernel_rfl) (by kernel_rfl) (fun _ _ _ h => h) (.inr ⟨by kernel_rfl, rfl⟩) ⟨(hB.get 1 (x := ⟨g1_3, (kc (digs (1 : Int) 32)), 23⟩) rfl), trivial⟩ ?_
  simp only [Act.put, List.setIfInBounds_toArray, List.set_cons_zero, List.set_cons_succ, List.getElem_toArray, List.getElem_cons_zero, List.getElem_cons_succ]
  refine any_take (i := 20) (v := undef) #[true, true, true, true, true, true, true, true, true, true, true, true, true, true, true, true, true, true, true, true, false, false, false, false, false, false, false, false, false, false, false, false, false, false, false] rfl (by kernel_rfl) (by kernel_rfl) (by kernel_rfl) (by kernel_rfl) (fun _ _ _ h => h) (.inr ⟨by kernel_rfl, rfl⟩) ⟨(hB.get 1 (x := ⟨g1_3, (kc (digs (1 : Int) 32)), 23⟩) rfl), trivial⟩ ?_
  simp only [Act.put, List.setIfInBounds_toArray, List.set_cons_zero, List.set_cons_succ, List.getElem_toArray, List.getElem_cons_zero, List.getElem_cons_succ]
  refine any_take (i := 21) (v := (.bool true)) #[true, true, true, true, true, true, true, true, true, true, true, true, true, true, true, true, true, true, true, true, true, false, false, false, false, false, false, false, false, false, false, false, false, false, false] rfl (by kernel_rfl) (by kernel_rfl) (by kernel_rfl) (by kernel_rfl) (fun _ _ _ h => h) (.inl ⟨by kernel_rfl, fun x_ hu => by kernel_rfl⟩) ⟨(hB.get 1 (x := ⟨g1_3, (kc (digs (1 : Int) 32)), 23⟩) rfl), trivial⟩ ?_
  simp only [Act.put, List.setIfInBounds_toArray, List.set_cons_zero, List.set_cons_succ, List.getElem_toArray, List.getElem_cons_zero, List.getElem_cons_succ]
  refine any_take (i := 22) (v := (.bool true)) #[true, true, true, true, true, true, true, true, true, true, true, true, true, true, true, true, true, true, true, true, true, true, false, false, false, false, false, false, false, false, false, false, false, false, false] rfl (by kernel_rfl) (by kernel_rfl) (by kernel_rfl) (by kernel_rfl) (fun _ _ _ h => h) (.inl ⟨by kernel_rfl, fun x_ hu => by kernel_rfl⟩) ⟨(hB.get 1 (x := ⟨g1_3, (kc (digs (1 : Int) 32)), 23⟩) rfl), trivial⟩ ?_
  simp only [Act.put, List.setIfInBounds_toArray, List.set_cons_zero, List.set_cons_succ, List.getElem_toArray, List.getElem_cons_zero, List.getElem_cons_succ]
  refine any_take (i := 23) (v := undef) #[true, true, true, true, true, true, true, true, true, true, true, true, true, true, true, true, true, true, true, true, true, true, true, false, false, false, false, false, false, false, false, false, false, false, false] rfl (by kernel_rfl) (by kernel_rfl) (by kernel_rfl) (by kernel_rfl) (fun _ _ _ h => h) (.inr ⟨by kernel_rfl, rfl⟩) ⟨(hB.get 1 (x := ⟨g1_3, (kc (digs (1 : Int) 32)), 23⟩) rfl), trivial⟩ ?_
  simp only [Act.put, List.setIfInBounds_toArray, List.set_cons_zero, List.set_cons_succ, List.getElem_toArray, List.getElem_cons_zero, List.getElem_cons_succ]
  refine any_take (i := 24) (v := undef) #[true, true, true, true, true, true, true, true, true, true, true, true, true, true, true, true, true, true, true, true, true, true, true, true, false, false, false, false, false, false, false, false, false, false, false] rfl (by kernel_rfl) (by kernel_rfl) (by kernel_rfl) (by kernel_rfl) (fun _ _ _ h => h) (.inr ⟨by kernel_rfl, rfl⟩) ⟨(hB.get 1 (x := ⟨g1_3, (kc (digs (1 : Int) 32)), 23⟩) rfl), trivial⟩ ?_
  simp only [Act.put, List.setIfInBounds_toArray, List.set_cons_zero, List.set_cons_succ, List.getElem_toArray, List.getElem_cons_zero, List.getElem_cons_succ]
  refine any_take (i := 25) (v := undef) #[true, true, true, true, true, true, true, true, true, true, true, true, true, true, true, true, true, true, true, true, true, true, true, true, true, false, false, false, false, false, false, false, false, false, false] rfl (by kernel_rfl) (by kernel_rfl) (by kernel_rfl) (by kernel_rfl) (fun _ _ _ h => h) (.inr ⟨by kernel_rfl, rfl⟩) ⟨(hB.get 1 (x := ⟨g1_3, (kc (digs (1 : Int) 32)), 23⟩) rfl), trivial⟩ ?_
  simp only [Act.put, List.setIfInBounds_toArray, List.set_cons_zero, List.set_cons_succ, List.getElem_toArray, List.getElem_cons_zero, List.getElem_cons_succ]
  refine any_take (i := 26) (v := undef) #[true, true, true, true, true, true, true, true, true, true, true, true, true, true, true, true, true, true, true, true, true, true, true, true, true, true, false, false, false, false, false, false, false, false, false] rfl (by kernel_rfl) (by kernel_rfl) (by kernel_rfl) (by kernel_rfl) (fun _ _ _ h => h) (.inr ⟨by kernel_rfl, rfl⟩) ⟨(hB.get 1 (x := ⟨g1_3, (kc (digs (1 : Int) 32)), 23⟩) rfl), trivial⟩ ?_
  simp only [Act.put, List.setIfInBounds_toArray, List.set_cons_zero, List.set_cons_succ, List.getElem_toArray, List.getElem_cons_zero, List.getElem_cons_succ]
  refine any_take (i := 27) (v := (.bool true)) #[true, true, true, true, true, true, true, true, true, true, true, true, true, true, true, true, true, true, true, true, true, true, true, true, true, true, true, false, false, false, false, false, false, false, false] rfl (by kernel_rfl) (by kernel_rfl) (by kernel_rfl) (by kernel_rfl) (fun _ _ _ h => h) (.inl ⟨by kernel_rfl, fun x_ hu => by kernel_rfl⟩) ⟨(hB.get 1 (x := ⟨g1_3, (kc (digs (1 : Int) 32)), 23⟩) rfl), trivial⟩ ?_
  simp only [Act.put, List.setIfInBounds_toArray, List.set_cons_zero, List.set_cons_succ, List.getElem_toArray, List.getElem_cons_zero, List.getElem_cons_succ]
  refine any_take (i := 28) (v := (.bool true)) #[true, true, true, true, true, true, true, true, true, true, true, true, true, true, true, true, true, true, true, true, true, true, true, true, true, true, true, true, false, false, false, false, false, false, false] rfl (by kernel_rfl) (by kernel_rfl) (by kernel_rfl) (by kernel_rfl) (fun _ _ _ h => h) (.inl ⟨by kernel_rfl, fun x_ hu => by kernel_rfl⟩) ⟨(hB.get 1 (x := ⟨g1_3, (kc (digs (1 : Int) 32)), 23⟩) rfl), trivial⟩ ?_
  simp only [Act.put, List.setIfInBounds_toArray, List.set_cons_zero, List.set_cons_succ, List.getElem_toArray, List.getElem_cons_zero, List.getElem_cons_succ]
  refine any_take (i := 29) (v := undef) #[true, true, true, true, true, true, true, true, true, true, true, true, true, true, true, true, true, true, true, true, true, true, true, true, true, true, true, true, true, false, false, false, false, false, false] rfl (by kernel_rfl) (by kernel_rfl) (by kernel_rfl) (by kernel_rfl) (fun _ _ _ h => h) (.inr ⟨by kernel_rfl, rfl⟩) ⟨(hB.get 1 (x := ⟨g1_3, (kc (digs (1 : Int) 32)), 23⟩) rfl), trivial⟩ ?_
  simp only [Act.put, List.setIfInBounds_toArray, List.set_cons_zero, List.set_cons_succ, List.getElem_toArray, List.getElem_cons_zero, List.getElem_cons_succ]
  refine any_take (i := 30) (v := undef) #[true, true, true, true, true, true, true, true, true, true, true, true, true, true, true, true, true, true, true, true, true, true, true, true, true, true, true, true, true, true, false, false, false, false, false] rfl (by kernel_rfl) (by kernel_rfl) (by kernel_rfl) (by kernel_rfl) (fun _ _ _ h => h) (.inr ⟨by kernel_rfl, rfl⟩) ⟨(hB.get 1 (x := ⟨g1_3, (kc (digs (1 : Int) 32)), 23⟩) rfl), trivial⟩ ?_
  simp only [Act.put, List.setIfInBounds_toArray, List.set_cons_zero, List.set_cons_succ, List.getElem_toArray, List.getElem_cons_zero, List.getElem_cons_succ]
  refine any_take (i := 31) (v := undef) #[true, true, true, true, true, true, true, true, true, true, true, true, true, true, true, true, true, true, true, true, true, true, true, true, true, true, true, true, true, true, true, false, false, false, false] rfl (by kernel_rfl) (by kernel_rfl) (by kernel_rfl) (by kernel_rfl) (fun _ _ _ h => h) (.inr ⟨by kernel_rfl, rfl⟩) ⟨(hB.get 1 (x := ⟨g1_3, (kc (digs (1 : Int) 32)), 23⟩) rfl), trivial⟩ ?_
  simp only [Act.put, List.setIfInBounds_toArray, List.set_cons_zero, List.set_cons_succ, List.getElem_toArray, List.getElem_cons_zero, List.getElem_cons_succ]
  refine any_take (i := 32) (v := undef) #[true, true, true, true, true, true, true, true, true, true, true, true, true, true, true, true, true, true, true, true, true, true, true, true, true, true, true, true, true, true, true, true, false, false, false] rfl (by kernel_rfl) (by kernel_rfl) (by kernel_rfl) (by kernel_rfl) (fun _ _ _ h => h) (.inr ⟨by kernel_rfl, rfl⟩) ⟨(hB.get 1 (x := ⟨g1_3, (kc (digs (1 : Int) 32)), 23⟩) rfl), trivial⟩ ?_
  simp only [Act.put, List.setIfInBounds_toArray, List.set_cons_zero, List.set_cons_succ, List.getElem_toArray, List.getElem_cons_zero, List.getElem_cons_succ]
  refine any_take (i := 33) (v := (.bool true)) #[true, true, true, true, true, true, true, true, true, true, true, true, true, true, true, true, true, true, true, true, true, true, true, true, true, true, true, true, true, true, true, true, true, false, false] rfl (by kernel_rfl) (by kernel_rfl) (by kernel_rfl) (by kernel_rfl) (fun _ _ _ h => h) (.inl ⟨by kernel_rfl, fun x_ hu => by kernel_rfl⟩) ⟨(hB.get 1 (x := ⟨g1_3, (kc (digs (1 : Int) 32)), 23⟩) rfl), trivial⟩ ?_
  simp only [Act.put, List.setIfInBounds_toArray, List.set_cons_zero, List.set_cons_succ, List.getElem_toArray, List.getElem_cons_zero, List.getElem_cons_succ]
  refine any_one (i := 34) (by kernel_rfl) rfl (fun K hK => ?_)
  replace hK := hide hK
  go_simp
  refine (unhide hK).out _ _ ⟨(hB.get 1 (x := ⟨g1_3, (kc (digs (1 : Int) 32)), 23⟩) rfl), trivial⟩ (fun _ => ?_)
  clear hK K
  refine any_done (by kernel_rfl) ?_
  have hG := hide hB.gr
  clear hB
  go_wp2_with fail
  refine bodyPost_ret (v := .bool true) ?_ rfl ⟨rfl, unhide hG⟩
  simp [results, Try.results11, go_sem]

set_option maxHeartbeats 2000000 in
theorem rlow_2 (U : Nat) (hU : U < 115792089237316195423570985008687907853269984665640564039457584007913129639936) (hV : (U : Int) % 57896044618658097711785492504343953926634992332820282019728792003956564819968 % pp = 57896044618658097711785492504343953926634992332820282019728792003956564819948) (w : World) :
    Calls Try.prog 11 #[.agg (kc (digs (U : Int) 32))] w (fun r w' => r = .returned (.bool true) ∧ Gr w w') := by
  replace hU := hide hU
  replace hV := hide hV
  go_enter Try.func11, Try.ntmps11
  go_upto_region 1 with fail
  have hB := (Bl.nil w).new (kc (digs (U : Int) 32)) 23
  simp only [List.nil_append] at hB
  generalize World.alloc _ _ = v1_ at *
  refine wp_region_lit ?_
  refine list_val (.agg (kc (digs (U : Int) 32))) (by kernel_rfl) (exec_arr _ 23 (.tmp 1) rfl w.heap.size (by kernel_rfl) (kc (digs (U : Int) 32)) 23 _ (hB.get 0 (x := ⟨w.heap.size, (kc (digs (U : Int) 32)), 23⟩) rfl) Try.underlying23 rfl (by rw [Try.infoKey, kc32])) ?_
  simp only [Act.put, List.setIfInBounds_toArray, List.set_cons_zero, List.set_cons_succ, List.getElem_toArray, List.getElem_cons_zero, List.getElem_cons_succ]
  refine list_call 20 #[.agg (kc (digs (U : Int) 32))] (by kernel_rfl) (by kernel_rfl) ((rFrom_ok U (unhide hU) _).mono ?_)
  rintro r v2_ ⟨c1, rfl, hc1, hg⟩
  refine ⟨_, rfl, ?_⟩
  replace hB := hB.more hg
  clear hg
  simp only [Act.put, List.setIfInBounds_toArray, List.set_cons_zero, List.set_cons_succ, List.getElem_toArray, List.getElem_cons_zero, List.getElem_cons_succ]
  refine list_call 26 #[.agg c1] (by kernel_rfl) (by kernel_rfl) ((nbytes_nc hc1 _).mono ?_)
  rintro r v3_ ⟨rfl, hg⟩
  refine ⟨_, rfl, ?_⟩
  rw [unhide hV]
  replace hB := hB.more hg
  clear hg
  simp only [Act.put, List.setIfInBounds_toArray, List.set_cons_zero, List.set_cons_succ, List.getElem_toArray, List.getElem_cons_zero, List.getElem_cons_succ]
  refine wpList_step fun K hK => ?_
  replace hK := hide hK
  go_simp
  refine unhide hK _ _ ?_
  clear hK K
  replace hB := hB.new #[.int .u8 0, .int .u8 0, .int .u8 0, .int .u8 0, .int .u8 0, .int .u8 0, .int .u8 0, .int .u8 0, .int .u8 0, .int .u8 0, .int .u8 0, .int .u8 0, .int .u8 0, .int .u8 0, .int .u8 0, .int .u8 0, .int .u8 0, .int .u8 0, .int .u8 0, .int .u8 0, .int .u8 0, .int .u8 0, .int .u8 0, .int .u8 0, .int .u8 0, .int .u8 0, .int .u8 0, .int .u8 0, .int .u8 0, .int .u8 0, .int .u8 0, .int .u8 0] 23
  simp only [List.cons_append, List.nil_append] at hB
  generalize v3_.heap.size = g1_3 at *
  generalize World.alloc _ _ = v4_ at *
  replace hB : Bl w [⟨w.heap.size, (kc (digs (U : Int) 32)), 23⟩, ⟨g1_3, Z32, 23⟩] v4_ := hB
  refine list_store 23 (.tmp 3) (.tmp 6) g1_3 (kc (digs (57896044618658097711785492504343953926634992332820282019728792003956564819948 : Int) 32)) 23 Z32 (by kernel_rfl) rfl (by kernel_rfl) (by kernel_rfl) (hB.get 1 (x := ⟨g1_3, Z32, 23⟩) rfl) (by rw [Try.infoKey, kc32]) (Z32_size.trans (kc32 (57896044618658097711785492504343953926634992332820282019728792003956564819948 : Int) 32).symm) (kc_one _) ?_
  replace hB := hB.set 1 (x := ⟨g1_3, Z32, 23⟩) rfl (kc (digs (57896044618658097711785492504343953926634992332820282019728792003956564819948 : Int) 32))
  simp only [List.set_cons_zero, List.set_cons_succ] at hB
  generalize World.setRow _ _ _ = v5_ at *
  simp only [Act.put, List.setIfInBounds_toArray, List.set_cons_zero, List.set_cons_succ, List.getElem_toArray, List.getElem_cons_zero, List.getElem_cons_succ]
  refine wpList_nil ?_
  go_upto_region 2 with fail
  refine any_start (S := fun v => v.heap[g1_3]? = some (.cells (kc (digs (57896044618658097711785492504343953926634992332820282019728792003956564819948 : Int) 32)) 23 (0, 0)) ∧ True) (by kernel_rfl) ?_
  replace hB := hB.drew
  generalize World.drew _ = v6_ at *
  simp only [List.size_toArray, List.length_cons, List.length_nil, Array.replicate, List.replicate]
  refine any_take (i := 0) (v := (.agg (kc (digs (57896044618658097711785492504343953926634992332820282019728792003956564819948 : Int) 32)))) #[false, false, false, false, false, false, false, false, false, false, false, false, false, false, false, false, false, false, false, false, false, false, false, false, false, false, false, false, false, false, false, false, false, false, false] rfl (by kernel_rfl) (by kernel_rfl) (by kernel_rfl) (by kernel_rfl) (fun _ _ _ h => h) (.inl ⟨by kernel_rfl, fun x_ hu => exec_arr x_ 23 (.tmp 3) rfl g1_3 (by kernel_rfl) (kc (digs (57896044618658097711785492504343953926634992332820282019728792003956564819948 : Int) 32)) 23 _ hu.1 Try.underlying23 rfl (by rw [Try.infoKey, kc32])⟩) ⟨(hB.get 1 (x := ⟨g1_3, (kc (digs (57896044618658097711785492504343953926634992332820282019728792003956564819948 : Int) 32)), 23⟩) rfl), trivial⟩ ?_
  simp only [Act.put, List.setIfInBounds_toArray, List.set_cons_zero, List.set_cons_succ, List.getElem_toArray, List.getElem_cons_zero, List.getElem_cons_succ]
  refine any_take (i := 1) (v := (.agg (kc (digs ((0 : Nat) : Int) 32)))) #[true, false, false, false, false, false, false, false, false, false, false, false, false, false, false, false, false, false, false, false, false, false, false, false, false, false, false, false, false, false, false, false, false, false, false] rfl (by kernel_rfl) (by kernel_rfl) (by kernel_rfl) (by kernel_rfl) (fun _ _ _ h => h) (.inl ⟨by kernel_rfl, fun x_ hu => by kernel_rfl⟩) ⟨(hB.get 1 (x := ⟨g1_3, (kc (digs (57896044618658097711785492504343953926634992332820282019728792003956564819948 : Int) 32)), 23⟩) rfl), trivial⟩ ?_
  simp only [Act.put, List.setIfInBounds_toArray, List.set_cons_zero, List.set_cons_succ, List.getElem_toArray, List.getElem_cons_zero, List.getElem_cons_succ]
  refine any_one (i := 2) (by kernel_rfl) rfl (fun K hK => ?_)
  refine step_callw (by kernel_rfl) 20 #[.agg (kc (digs ((0 : Nat) : Int) 32))] (by kernel_rfl) ((rFrom_ok 0 (by decide) _).mono ?_)
  rintro r v7_ ⟨c2, rfl, hc2, hg⟩
  refine ⟨_, rfl, ?_⟩
  replace hc2 : NC 0 c2 := NC.same hc2 rfl
  replace hB := hB.more hg
  clear hg
  refine hK.out _ _ ⟨(hB.get 1 (x := ⟨g1_3, (kc (digs (57896044618658097711785492504343953926634992332820282019728792003956564819948 : Int) 32)), 23⟩) rfl), trivial⟩ (fun _ => ?_)
  clear hK K
  simp only [Act.put, List.setIfInBounds_toArray, List.set_cons_zero, List.set_cons_succ, List.getElem_toArray, List.getElem_cons_zero, List.getElem_cons_succ]
  refine any_one (i := 3) (by kernel_rfl) rfl (fun K hK => ?_)
  refine step_callw (by kernel_rfl) 26 #[.agg c2] (by kernel_rfl) ((nbytes_nc hc2 _).mono ?_)
  rintro r v8_ ⟨rfl, hg⟩
  refine ⟨_, rfl, ?_⟩
  rw [show (0 : Int) % pp = 0 from by decide]
  replace hB := hB.more hg
  clear hg
  refine hK.out _ _ ⟨(hB.get 1 (x := ⟨g1_3, (kc (digs (57896044618658097711785492504343953926634992332820282019728792003956564819948 : Int) 32)), 23⟩) rfl), trivial⟩ (fun _ => ?_)
  clear hK K
  simp only [Act.put, List.setIfInBounds_toArray, List.set_cons_zero, List.set_cons_succ, List.getElem_toArray, List.getElem_cons_zero, List.getElem_cons_succ]
  refine any_take (i := 4) (v := (.bool false)) #[true, true, true, true, false, false, false, false, false, false, false, false, false, false, false, false, false, false, false, false, false, false, false, false, false, false, false, false, false, false, false, false, false, false, false] rfl (by kernel_rfl) (by kernel_rfl) (by kernel_rfl) (by kernel_rfl) (fun _ _ _ h => h) (.inl ⟨by kernel_rfl, fun x_ hu => by have e := key_diff (n := 57896044618658097711785492504343953926634992332820282019728792003956564819948) (m := 0) (by omega) (by omega) (by decide); go_simp⟩) ⟨(hB.get 1 (x := ⟨g1_3, (kc (digs (57896044618658097711785492504343953926634992332820282019728792003956564819948 : Int) 32)), 23⟩) rfl), trivial⟩ ?_
  simp only [Act.put, List.setIfInBounds_toArray, List.set_cons_zero, List.set_cons_succ, List.getElem_toArray, List.getElem_cons_zero, List.getElem_cons_succ]
  refine any_take (i := 5) (v := (.bool false)) #[true, true, true, true, true, false, false, false, false, false, false, false, false, false, false, false, false, false, false, false, false, false, false, false, false, false, false, false, false, false, false, false, false, false, false] rfl (by kernel_rfl) (by kernel_rfl) (by kernel_rfl) (by kernel_rfl) (fun _ _ _ h => h) (.inl ⟨by kernel_rfl, fun x_ hu => by kernel_rfl⟩) ⟨(hB.get 1 (x := ⟨g1_3, (kc (digs (57896044618658097711785492504343953926634992332820282019728792003956564819948 : Int) 32)), 23⟩) rfl), trivial⟩ ?_
  simp only [Act.put, List.setIfInBounds_toArray, List.set_cons_zero, List.set_cons_succ, List.getElem_toArray, List.getElem_cons_zero, List.getElem_cons_succ]
  refine any_take (i := 6) (v := (.agg (kc (digs (57896044618658097711785492504343953926634992332820282019728792003956564819948 : Int) 32)))) #[true, true, true, true, true, true, false, false, false, false, false, false, false, false, false, false, false, false, false, false, false, false, false, false, false, false, false, false, false, false, false, false, false, false, false] rfl (by kernel_rfl) (by kernel_rfl) (by kernel_rfl) (by kernel_rfl) (fun _ _ _ h => h) (.inl ⟨by kernel_rfl, fun x_ hu => exec_arr x_ 23 (.tmp 3) rfl g1_3 (by kernel_rfl) (kc (digs (57896044618658097711785492504343953926634992332820282019728792003956564819948 : Int) 32)) 23 _ hu.1 Try.underlying23 rfl (by rw [Try.infoKey, kc32])⟩) ⟨(hB.get 1 (x := ⟨g1_3, (kc (digs (57896044618658097711785492504343953926634992332820282019728792003956564819948 : Int) 32)), 23⟩) rfl), trivial⟩ ?_
  simp only [Act.put, List.setIfInBounds_toArray, List.set_cons_zero, List.set_cons_succ, List.getElem_toArray, List.getElem_cons_zero, List.getElem_cons_succ]
  refine any_take (i := 7) (v := (.agg (kc (digs ((1 : Nat) : Int) 32)))) #[true, true, true, true, true, true, true, false, false, false, false, false, false, false, false, false, false, false, false, false, false, false, false, false, false, false, false, false, false, false, false, false, false, false, false] rfl (by kernel_rfl) (by kernel_rfl) (by kernel_rfl) (by kernel_rfl) (fun _ _ _ h => h) (.inl ⟨by kernel_rfl, fun x_ hu => by kernel_rfl⟩) ⟨(hB.get 1 (x := ⟨g1_3, (kc (digs (57896044618658097711785492504343953926634992332820282019728792003956564819948 : Int) 32)), 23⟩) rfl), trivial⟩ ?_
  simp only [Act.put, List.setIfInBounds_toArray, List.set_cons_zero, List.set_cons_succ, List.getElem_toArray, List.getElem_cons_zero, List.getElem_cons_succ]
  refine any_one (i := 8) (by kernel_rfl) rfl (fun K hK => ?_)
  refine step_callw (by kernel_rfl) 20 #[.agg (kc (digs ((1 : Nat) : Int) 32))] (by kernel_rfl) ((rFrom_ok 1 (by decide) _).mono ?_)
  rintro r v9_ ⟨c3, rfl, hc3, hg⟩
  refine ⟨_, rfl, ?_⟩
  replace hc3 : NC 1 c3 := NC.same hc3 rfl
  replace hB := hB.more hg
  clear hg
  refine hK.out _ _ ⟨(hB.get 1 (x := ⟨g1_3, (kc (digs (57896044618658097711785492504343953926634992332820282019728792003956564819948 : Int) 32)), 23⟩) rfl), trivial⟩ (fun _ => ?_)
  clear hK K
  simp only [Act.put, List.setIfInBounds_toArray, List.set_cons_zero, List.set_cons_succ, List.getElem_toArray, List.getElem_cons_zero, List.getElem_cons_succ]
  refine any_one (i := 9) (by kernel_rfl) rfl (fun K hK => ?_)
  refine step_callw (by kernel_rfl) 26 #[.agg c3] (by kernel_rfl) ((nbytes_nc hc3 _).mono ?_)
  rintro r v10_ ⟨rfl, hg⟩
  refine ⟨_, rfl, ?_⟩
  rw [show (1 : Int) % pp = 1 from by decide]
  replace hB := hB.more hg
  clear hg
  refine hK.out _ _ ⟨(hB.get 1 (x := ⟨g1_3, (kc (digs (57896044618658097711785492504343953926634992332820282019728792003956564819948 : Int) 32)), 23⟩) rfl), trivial⟩ (fun _ => ?_)
  clear hK K
  simp only [Act.put, List.setIfInBounds_toArray, List.set_cons_zero, List.set_cons_succ, List.getElem_toArray, List.getElem_cons_zero, List.getElem_cons_succ]
  refine any_take (i := 10) (v := (.bool false)) #[true, true, true, true, true, true, true, true, true, true, false, false, false, false, false, false, false, false, false, false, false, false, false, false, false, false, false, false, false, false, false, false, false, false, false] rfl (by kernel_rfl) (by kernel_rfl) (by kernel_rfl) (by kernel_rfl) (fun _ _ _ h => h) (.inl ⟨by kernel_rfl, fun x_ hu => by have e := key_diff (n := 57896044618658097711785492504343953926634992332820282019728792003956564819948) (m := 1) (by omega) (by omega) (by decide); go_simp⟩) ⟨(hB.get 1 (x := ⟨g1_3, (kc (digs (57896044618658097711785492504343953926634992332820282019728792003956564819948 : Int) 32)), 23⟩) rfl), trivial⟩ ?_
  simp only [Act.put, List.setIfInBounds_toArray, List.set_cons_zero, List.set_cons_succ, List.getElem_toArray, List.getElem_cons_zero, List.getElem_cons_succ]
  refine any_take (i := 11) (v := (.bool false)) #[true, true, true, true, true, true, true, true, true, true, true, false, false, false, false, false, false, false, false, false, false, false, false, false, false, false, false, false, false, false, false, false, false, false, false] rfl (by kernel_rfl) (by kernel_rfl) (by kernel_rfl) (by kernel_rfl) (fun _ _ _ h => h) (.inl ⟨by kernel_rfl, fun x_ hu => by kernel_rfl⟩) ⟨(hB.get 1 (x := ⟨g1_3, (kc (digs (57896044618658097711785492504343953926634992332820282019728792003956564819948 : Int) 32)), 23⟩) rfl), trivial⟩ ?_
  simp only [Act.put, List.setIfInBounds_toArray, List.set_cons_zero, List.set_cons_succ, List.getElem_toArray, List.getElem_cons_zero, List.getElem_cons_succ]
  refine any_take (i := 12) (v := (.bool false)) #[true, true, true, true, true, true, true, true, true, true, true, true, false, false, false, false, false, false, false, false, false, false, false, false, false, false, false, false, false, false, false, false, false, false, false] rfl (by kernel_rfl) (by kernel_rfl) (by kernel_rfl) (by kernel_rfl) (fun _ _ _ h => h) (.inl ⟨by kernel_rfl, fun x_ hu => by kernel_rfl⟩) ⟨(hB.get 1 (x := ⟨g1_3, (kc (digs (57896044618658097711785492504343953926634992332820282019728792003956564819948 : Int) 32)), 23⟩) rfl), trivial⟩ ?_
  simp only [Act.put, List.setIfInBounds_toArray, List.set_cons_zero, List.set_cons_succ, List.getElem_toArray, List.getElem_cons_zero, List.getElem_cons_succ]
  refine any_take (i := 13) (v := (.agg (kc (digs (57896044618658097711785492504343953926634992332820282019728792003956564819948 : Int) 32)))) #[true, true, true, true, true, true, true, true, true, true, true, true, true, false, false, false, false, false, false, false, false, false, false, false, false, false, false, false, false, false, false, false, false, false, false] rfl (by kernel_rfl) (by kernel_rfl) (by kernel_rfl) (by kernel_rfl) (fun _ _ _ h => h) (.inl ⟨by kernel_rfl, fun x_ hu => exec_arr x_ 23 (.tmp 3) rfl g1_3 (by kernel_rfl) (kc (digs (57896044618658097711785492504343953926634992332820282019728792003956564819948 : Int) 32)) 23 _ hu.1 Try.underlying23 rfl (by rw [Try.infoKey, kc32])⟩) ⟨(hB.get 1 (x := ⟨g1_3, (kc (digs (57896044618658097711785492504343953926634992332820282019728792003956564819948 : Int) 32)), 23⟩) rfl), trivial⟩ ?_
  simp only [Act.put, List.setIfInBounds_toArray, List.set_cons_zero, List.set_cons_succ, List.getElem_toArray, List.getElem_cons_zero, List.getElem_cons_succ]
  refine any_take (i := 14) (v := (.agg (kc (digs ((0 : Nat) : Int) 32)))) #[true, true, true, true, true, true, true, true, true, true, true, true, true, true, false, false, false, false, false, false, false, false, false, false, false, false, false, false, false, false, false, false, false, false, false] rfl (by kernel_rfl) (by kernel_rfl) (by kernel_rfl) (by kernel_rfl) (fun _ _ _ h => h) (.inl ⟨by kernel_rfl, fun x_ hu => by kernel_rfl⟩) ⟨(hB.get 1 (x := ⟨g1_3, (kc (digs (57896044618658097711785492504343953926634992332820282019728792003956564819948 : Int) 32)), 23⟩) rfl), trivial⟩ ?_
  simp only [Act.put, List.setIfInBounds_toArray, List.set_cons_zero, List.set_cons_succ, List.getElem_toArray, List.getElem_cons_zero, List.getElem_cons_succ]
  refine any_take (i := 16) (v := (.agg (kc (digs ((1 : Nat) : Int) 32)))) #[true, true, true, true, true, true, true, true, true, true, true, true, true, true, true, false, false, false, false, false, false, false, false, false, false, false, false, false, false, false, false, false, false, false, false] rfl (by kernel_rfl) (by kernel_rfl) (by kernel_rfl) (by kernel_rfl) (fun _ _ _ h => h) (.inl ⟨by kernel_rfl, fun x_ hu => by kernel_rfl⟩) ⟨(hB.get 1 (x := ⟨g1_3, (kc (digs (57896044618658097711785492504343953926634992332820282019728792003956564819948 : Int) 32)), 23⟩) rfl), trivial⟩ ?_
  simp only [Act.put, List.setIfInBounds_toArray, List.set_cons_zero, List.set_cons_succ, List.getElem_toArray, List.getElem_cons_zero, List.getElem_cons_succ]
  refine any_one (i := 15) (by kernel_rfl) rfl (fun K hK => ?_)
  refine step_callw (by kernel_rfl) 20 #[.agg (kc (digs ((0 : Nat) : Int) 32))] (by kernel_rfl) ((rFrom_ok 0 (by decide) _).mono ?_)
  rintro r v11_ ⟨c4, rfl, hc4, hg⟩
  refine ⟨_, rfl, ?_⟩
  replace hc4 : NC 0 c4 := NC.same hc4 rfl
  replace hB := hB.more hg
  clear hg
  refine hK.out _ _ ⟨(hB.get 1 (x := ⟨g1_3, (kc (digs (57896044618658097711785492504343953926634992332820282019728792003956564819948 : Int) 32)), 23⟩) rfl), trivial⟩ (fun _ => ?_)
  clear hK K
  simp only [Act.put, List.setIfInBounds_toArray, List.set_cons_zero, List.set_cons_succ, List.getElem_toArray, List.getElem_cons_zero, List.getElem_cons_succ]
  refine any_one (i := 17) (by kernel_rfl) rfl (fun K hK => ?_)
  refine step_callw (by kernel_rfl) 20 #[.agg (kc (digs ((1 : Nat) : Int) 32))] (by kernel_rfl) ((rFrom_ok 1 (by decide) _).mono ?_)
  rintro r v12_ ⟨c5, rfl, hc5, hg⟩
  refine ⟨_, rfl, ?_⟩
  replace hc5 : NC 1 c5 := NC.same hc5 rfl
  replace hB := hB.more hg
  clear hg
  refine hK.out _ _ ⟨(hB.get 1 (x := ⟨g1_3, (kc (digs (57896044618658097711785492504343953926634992332820282019728792003956564819948 : Int) 32)), 23⟩) rfl), trivial⟩ (fun _ => ?_)
  clear hK K
  simp only [Act.put, List.setIfInBounds_toArray, List.set_cons_zero, List.set_cons_succ, List.getElem_toArray, List.getElem_cons_zero, List.getElem_cons_succ]
  refine any_one (i := 18) (by kernel_rfl) rfl (fun K hK => ?_)
  refine step_callw (by kernel_rfl) 22 #[.agg c4, .agg c5] (by kernel_rfl) ((nsub_nc hc4 hc5 _).mono ?_)
  rintro r v13_ ⟨c6, rfl, hc6, hg⟩
  refine ⟨_, rfl, ?_⟩
  replace hc6 : NC 57896044618658097711785492504343953926634992332820282019728792003956564819948 c6 := NC.same hc6 (by decide)
  replace hB := hB.more hg
  clear hg
  refine hK.out _ _ ⟨(hB.get 1 (x := ⟨g1_3, (kc (digs (57896044618658097711785492504343953926634992332820282019728792003956564819948 : Int) 32)), 23⟩) rfl), trivial⟩ (fun _ => ?_)
  clear hK K
  simp only [Act.put, List.setIfInBounds_toArray, List.set_cons_zero, List.set_cons_succ, List.getElem_toArray, List.getElem_cons_zero, List.getElem_cons_succ]
  refine any_one (i := 19) (by kernel_rfl) rfl (fun K hK => ?_)
  refine step_callw (by kernel_rfl) 26 #[.agg c6] (by kernel_rfl) ((nbytes_nc hc6 _).mono ?_)
  rintro r v14_ ⟨rfl, hg⟩
  refine ⟨_, rfl, ?_⟩
  rw [show (57896044618658097711785492504343953926634992332820282019728792003956564819948 : Int) % pp = 57896044618658097711785492504343953926634992332820282019728792003956564819948 from by decide]
  replace hB := hB.more hg
  clear hg
  refine hK.out _ _ ⟨(hB.get 1 (x := ⟨g1_3, (kc (digs (57896044618658097711785492504343953926634992332820282019728792003956564819948 : Int) 32)), 23⟩) rfl), trivial⟩ (fun _ => ?_)
  clear hK K
  simp only [Act.put, List.setIfInBounds_toArray, List.set_cons_zero, List.set_cons_succ, List.getElem_toArray, List.getElem_cons_zero, List.getElem_cons_succ]
  refine any_take (i := 20) (v := (.bool true)) #[true, true, true, true, true, true, true, true, true, true, true, true, true, true, true, true, true, true, true, true, false, false, false, false, false, false, false, false, false, false, false, false, false, false, false] rfl (by kernel_rfl) (by kernel_rfl) (by kernel_rfl) (by kernel_rfl) (fun _ _ _ h => h) (.inl ⟨by kernel_rfl, fun x_ hu => by have e := key_same (57896044618658097711785492504343953926634992332820282019728792003956564819948 : Int); go_simp⟩) ⟨(hB.get 1 (x := ⟨g1_3, (kc (digs (57896044618658097711785492504343953926634992332820282019728792003956564819948 : Int) 32)), 23⟩) rfl), trivial⟩ ?_
  simp only [Act.put, List.setIfInBounds_toArray, List.set_cons_zero, List.set_cons_succ, List.getElem_toArray, List.getElem_cons_zero, List.getElem_cons_succ]
  refine any_take (i := 21) (v := (.bool true)) #[true, true, true, true, true, true, true, true, true, true, true, true, true, true, true, true, true, true, true, true, true, false, false, false, false, false, false, false, false, false, false, false, false, false, false] rfl (by kernel_rfl) (by kernel_rfl) (by kernel_rfl) (by kernel_rfl) (fun _ _ _ h => h) (.inl ⟨by kernel_rfl, fun x_ hu => by kernel_rfl⟩) ⟨(hB.get 1 (x := ⟨g1_3, (kc (digs (57896044618658097711785492504343953926634992332820282019728792003956564819948 : Int) 32)), 23⟩) rfl), trivial⟩ ?_
  simp only [Act.put, List.setIfInBounds_toArray, List.set_cons_zero, List.set_cons_succ, List.getElem_toArray, List.getElem_cons_zero, List.getElem_cons_succ]
  refine any_take (i := 22) (v := (.bool true)) #[true, true, true, true, true, true, true, true, true, true, true, true, true, true, true, true, true, true, true, true, true, true, false, false, false, false, false, false, false, false, false, false, false, false, false] rfl (by kernel_rfl) (by kernel_rfl) (by kernel_rfl) (by kernel_rfl) (fun _ _ _ h => h) (.inl ⟨by kernel_rfl, fun x_ hu => by kernel_rfl⟩) ⟨(hB.get 1 (x := ⟨g1_3, (kc (digs (57896044618658097711785492504343953926634992332820282019728792003956564819948 : Int) 32)), 23⟩) rfl), trivial⟩ ?_
  simp only [Act.put, List.setIfInBounds_toArray, List.set_cons_zero, List.set_cons_succ, List.getElem_toArray, List.getElem_cons_zero, List.getElem_cons_succ]
  refine any_take (i := 23) (v := undef) #[true, true, true, true, true, true, true, true, true, true, true, true, true, true, true, true, true, true, true, true, true, true, true, false, false, false, false, false, false, false, false, false, false, false, false] rfl (by kernel_rfl) (by kernel_rfl) (by kernel_rfl) (by kernel_rfl) (fun _ _ _ h => h) (.inr ⟨by kernel_rfl, rfl⟩) ⟨(hB.get 1 (x := ⟨g1_3, (kc (digs (57896044618658097711785492504343953926634992332820282019728792003956564819948 : Int) 32)), 23⟩) rfl), trivial⟩ ?_
  simp only [Act.put, List.setIfInBounds_toArray, List.set_cons_zero, List.set_cons_succ, List.getElem_toArray, List.getElem_cons_zero, List.getElem_cons_succ]
  refine any_take (i := 24) (v := undef) #[true, true, true, true, true, true, true, true, true, true, true, true, true, true, true, true, true, true, true, true, true, true, true, true, false, false, false, false, false, false, false, false, false, false, false] rfl (by kernel_rfl) (by kernel_rfl) (by kernel_rfl) (by kernel_rfl) (fun _ _ _ h => h) (.inr ⟨by kernel_rfl, rfl⟩) ⟨(hB.get 1 (x := ⟨g1_3, (kc (digs (57896044618658097711785492504343953926634992332820282019728792003956564819948 : Int) 32)), 23⟩) rfl), trivial⟩ ?_
  simp only [Act.put, List.setIfInBounds_toArray, List.set_cons_zero, List.set_cons_succ, List.getElem_toArray, List.getElem_cons_zero, List.getElem_cons_succ]
  refine any_take (i := 25) (v := undef) #[true, true, true, true, true, true, true, true, true, true, true, true, true, true, true, true, true, true, true, true, true, true, true, true, true, false, false, false, false, false, false, false, false, false, false] rfl (by kernel_rfl) (by kernel_rfl) (by kernel_rfl) (by kernel_rfl) (fun _ _ _ h => h) (.inr ⟨by kernel_rfl, rfl⟩) ⟨(hB.get 1 (x := ⟨g1_3, (kc (digs (57896044618658097711785492504343953926634992332820282019728792003956564819948 : Int) 32)), 23⟩) rfl), trivial⟩ ?_
  simp only [Act.put, List.setIfInBounds_toArray, List.set_cons_zero, List.set_cons_succ, List.getElem_toArray, List.getElem_cons_zero, List.getElem_cons_succ]
  refine any_take (i := 26) (v := undef) #[true, true, true, true, true, true, true, true, true, true, true, true, true, true, true, true, true, true, true, true, true, true, true, true, true, true, false, false, false, false, false, false, false, false, false] rfl (by kernel_rfl) (by kernel_rfl) (by kernel_rfl) (by kernel_rfl) (fun _ _ _ h => h) (.inr ⟨by kernel_rfl, rfl⟩) ⟨(hB.get 1 (x := ⟨g1_3, (kc (digs (57896044618658097711785492504343953926634992332820282019728792003956564819948 : Int) 32)), 23⟩) rfl), trivial⟩ ?_
  simp only [Act.put, List.setIfInBounds_toArray, List.set_cons_zero, List.set_cons_succ, List.getElem_toArray, List.getElem_cons_zero, List.getElem_cons_succ]
  refine any_take (i := 27) (v := (.bool true)) #[true, true, true, true, true, true, true, true, true, true, true, true, true, true, true, true, true, true, true, true, true, true, true, true, true, true, true, false, false, false, false, false, false, false, false] rfl (by kernel_rfl) (by kernel_rfl) (by kernel_rfl) (by kernel_rfl) (fun _ _ _ h => h) (.inl ⟨by kernel_rfl, fun x_ hu => by kernel_rfl⟩) ⟨(hB.get 1 (x := ⟨g1_3, (kc (digs (57896044618658097711785492504343953926634992332820282019728792003956564819948 : Int) 32)), 23⟩) rfl), trivial⟩ ?_
  simp only [Act.put, List.setIfInBounds_toArray, List.set_cons_zero, List.set_cons_succ, List.getElem_toArray, List.getElem_cons_zero, List.getElem_cons_succ]
  refine any_take (i := 28) (v := (.bool true)) #[true, true, true, true, true, true, true, true, true, true, true, true, true, true, true, true, true, true, true, true, true, true, true, true, true, true, true, true, false, false, false, false, false, false, false] rfl (by kernel_rfl) (by kernel_rfl) (by kernel_rfl) (by kernel_rfl) (fun _ _ _ h => h) (.inl ⟨by kernel_rfl, fun x_ hu => by kernel_rfl⟩) ⟨(hB.get 1 (x := ⟨g1_3, (kc (digs (57896044618658097711785492504343953926634992332820282019728792003956564819948 : Int) 32)), 23⟩) rfl), trivial⟩ ?_
  simp only [Act.put, List.setIfInBounds_toArray, List.set_cons_zero, List.set_cons_succ, List.getElem_toArray, List.getElem_cons_zero, List.getElem_cons_succ]
  refine any_take (i := 29) (v := undef) #[true, true, true, true, true, true, true, true, true, true, true, true, true, true, true, true, true, true, true, true, true, true, true, true, true, true, true, true, true, false, false, false, false, false, false] rfl (by kernel_rfl) (by kernel_rfl) (by kernel_rfl) (by kernel_rfl) (fun _ _ _ h => h) (.inr ⟨by kernel_rfl, rfl⟩) ⟨(hB.get 1 (x := ⟨g1_3, (kc (digs (57896044618658097711785492504343953926634992332820282019728792003956564819948 : Int) 32)), 23⟩) rfl), trivial⟩ ?_
  simp only [Act.put, List.setIfInBounds_toArray, List.set_cons_zero, List.set_cons_succ, List.getElem_toArray, List.getElem_cons_zero, List.getElem_cons_succ]
  refine any_take (i := 30) (v := undef) #[true, true, true, true, true, true, true, true, true, true, true, true, true, true, true, true, true, true, true, true, true, true, true, true, true, true, true, true, true, true, false, false, false, false, false] rfl (by kernel_rfl) (by kernel_rfl) (by kernel_rfl) (by kernel_rfl) (fun _ _ _ h => h) (.inr ⟨by kernel_rfl, rfl⟩) ⟨(hB.get 1 (x := ⟨g1_3, (kc (digs (57896044618658097711785492504343953926634992332820282019728792003956564819948 : Int) 32)), 23⟩) rfl), trivial⟩ ?_
  simp only [Act.put, List.setIfInBounds_toArray, List.set_cons_zero, List.set_cons_succ, List.getElem_toArray, List.getElem_cons_zero, List.getElem_cons_succ]
  refine any_take (i := 31) (v := undef) #[true, true, true, true, true, true, true, true, true, true, true, true, true, true, true, true, true, true, true, true, true, true, true, true, true, true, true, true, true, true, true, false, false, false, false] rfl (by kernel_rfl) (by kernel_rfl) (by kernel_rfl) (by kernel_rfl) (fun _ _ _ h => h) (.inr ⟨by kernel_rfl, rfl⟩) ⟨(hB.get 1 (x := ⟨g1_3, (kc (digs (57896044618658097711785492504343953926634992332820282019728792003956564819948 : Int) 32)), 23⟩) rfl), trivial⟩ ?_
  simp only [Act.put, List.setIfInBounds_toArray, List.set_cons_zero, List.set_cons_succ, List.getElem_toArray, List.getElem_cons_zero, List.getElem_cons_succ]
  refine any_take (i := 32) (v := undef) #[true, true, true, true, true, true, true, true, true, true, true, true, true, true, true, true, true, true, true, true, true, true, true, true, true, true, true, true, true, true, true, true, false, false, false] rfl (by kernel_rfl) (by kernel_rfl) (by kernel_rfl) (by kernel_rfl) (fun _ _ _ h => h) (.inr ⟨by kernel_rfl, rfl⟩) ⟨(hB.get 1 (x := ⟨g1_3, (kc (digs (57896044618658097711785492504343953926634992332820282019728792003956564819948 : Int) 32)), 23⟩) rfl), trivial⟩ ?_
  simp only [Act.put, List.setIfInBounds_toArray, List.set_cons_zero, List.set_cons_succ, List.getElem_toArray, List.getElem_cons_zero, List.getElem_cons_succ]
  refine any_take (i := 33) (v := (.bool true)) #[true, true, true, true, true, true, true, true, true, true, true, true, true, true, true, true, true, true, true, true, true, true, true, true, true, true, true, true, true, true, true, true, true, false, false] rfl (by kernel_rfl) (by kernel_rfl) (by kernel_rfl) (by kernel_rfl) (fun _ _ _ h => h) (.inl ⟨by kernel_rfl, fun x_ hu => by kernel_rfl⟩) ⟨(hB.get 1 (x := ⟨g1_3, (kc (digs (57896044618658097711785492504343953926634992332820282019728792003956564819948 : Int) 32)), 23⟩) rfl), trivial⟩ ?_
  simp only [Act.put, List.setIfInBounds_toArray, List.set_cons_zero, List.set_cons_succ, List.getElem_toArray, List.getElem_cons_zero, List.getElem_cons_succ]
  refine any_one (i := 34) (by kernel_rfl) rfl (fun K hK => ?_)
  replace hK := hide hK
  go_simp
  refine (unhide hK).out _ _ ⟨(hB.get 1 (x := ⟨g1_3, (kc (digs (57896044618658097711785492504343953926634992332820282019728792003956564819948 : Int) 32)), 23⟩) rfl), trivial⟩ (fun _ => ?_)
  clear hK K
  refine any_done (by kernel_rfl) ?_
  have hG := hide hB.gr
  clear hB
  go_wp2_with fail
  refine bodyPost_ret (v := .bool true) ?_ rfl ⟨rfl, unhide hG⟩
  simp [results, Try.results11, go_sem]

set_option maxHeartbeats 2000000 in
theorem rlow_3 (U : Nat) (hU : U < 115792089237316195423570985008687907853269984665640564039457584007913129639936) (hV : (U : Int) % 57896044618658097711785492504343953926634992332820282019728792003956564819968 % pp = 325606250916557431795983626356110631294008115727848805560023387167927233504) (w : World) :
    Calls Try.prog 11 #[.agg (kc (digs (U : Int) 32))] w (fun r w' => r = .returned (.bool true) ∧ Gr w w') := by
  replace hU := hide hU
  replace hV := hide hV
  go_enter Try.func11, Try.ntmps11
  go_upto_region 1 with fail
  have hB := (Bl.nil w).new (kc (digs (U : Int) 32)) 23
  simp only [List.nil_append] at hB
  generalize World.alloc _ _ = v1_ at *
  refine wp_region_lit ?_
  refine list_val (.agg (kc (digs (U : Int) 32))) (by kernel_rfl) (exec_arr _ 23 (.tmp 1) rfl w.heap.size (by kernel_rfl) (kc (digs (U : Int) 32)) 23 _ (hB.get 0 (x := ⟨w.heap.size, (kc (digs (U : Int) 32)), 23⟩) rfl) Try.underlying23 rfl (by rw [Try.infoKey, kc32])) ?_
  simp only [Act.put, List.setIfInBounds_toArray, List.set_cons_zero, List.set_cons_succ, List.getElem_toArray, List.getElem_cons_zero, List.getElem_cons_succ]
  refine list_call 20 #[.agg (kc (digs (U : Int) 32))] (by kernel_rfl) (by kernel_rfl) ((rFrom_ok U (unhide hU) _).mono ?_)
  rintro r v2_ ⟨c1, rfl, hc1, hg⟩
  refine ⟨_, rfl, ?_⟩
  replace hB := hB.more hg
  clear hg
  simp only [Act.put, List.setIfInBounds_toArray, List.set_cons_zero, List.set_cons_succ, List.getElem_toArray, List.getElem_cons_zero, List.getElem_cons_succ]
  refine list_call 26 #[.agg c1] (by kernel_rfl) (by kernel_rfl) ((nbytes_nc hc1 _).mono ?_)
  rintro r v3_ ⟨rfl, hg⟩
  refine ⟨_, rfl, ?_⟩
  rw [unhide hV]
  replace hB := hB.more hg
  clear hg
  simp only [Act.put, List.setIfInBounds_toArray, List.set_cons_zero, List.set_cons_succ, List.getElem_toArray, List.getElem_cons_zero, List.getElem_cons_succ]
  refine wpList_step fun K hK => ?_
  replace hK := hide hK
  go_simp
  refine unhide hK _ _ ?_
  clear hK K
  replace hB := hB.new #[.int .u8 0, .int .u8 0, .int .u8 0, .int .u8 0, .int .u8 0, .int .u8 0, .int .u8 0, .int .u8 0, .int .u8 0, .int .u8 0, .int .u8 0, .int .u8 0, .int .u8 0, .int .u8 0, .int .u8 0, .int .u8 0, .int .u8 0, .int .u8 0, .int .u8 0, .int .u8 0, .int .u8 0, .int .u8 0, .int .u8 0, .int .u8 0, .int .u8 0, .int .u8 0, .int .u8 0, .int .u8 0, .int .u8 0, .int .u8 0, .int .u8 0, .int .u8 0] 23
  simp only [List.cons_append, List.nil_append] at hB
  generalize v3_.heap.size = g1_3 at *
  generalize World.alloc _ _ = v4_ at *
  replace hB : Bl w [⟨w.heap.size, (kc (digs (U : Int) 32)), 23⟩, ⟨g1_3, Z32, 23⟩] v4_ := hB
  refine list_store 23 (.tmp 3) (.tmp 6) g1_3 (kc (digs (325606250916557431795983626356110631294008115727848805560023387167927233504 : Int) 32)) 23 Z32 (by kernel_rfl) rfl (by kernel_rfl) (by kernel_rfl) (hB.get 1 (x := ⟨g1_3, Z32, 23⟩) rfl) (by rw [Try.infoKey, kc32]) (Z32_size.trans (kc32 (325606250916557431795983626356110631294008115727848805560023387167927233504 : Int) 32).symm) (kc_one _) ?_
  replace hB := hB.set 1 (x := ⟨g1_3, Z32, 23⟩) rfl (kc (digs (325606250916557431795983626356110631294008115727848805560023387167927233504 : Int) 32))
  simp only [List.set_cons_zero, List.set_cons_succ] at hB
  generalize World.setRow _ _ _ = v5_ at *
  simp only [Act.put, List.setIfInBounds_toArray, List.set_cons_zero, List.set_cons_succ, List.getElem_toArray, List.getElem_cons_zero, List.getElem_cons_succ]
  refine wpList_nil ?_
  go_upto_region 2 with fail
  refine any_start (S := fun v => v.heap[g1_3]? = some (.cells (kc (digs (325606250916557431795983626356110631294008115727848805560023387167927233504 : Int) 32)) 23 (0, 0)) ∧ True) (by kernel_rfl) ?_
  replace hB := hB.drew
  generalize World.drew _ = v6_ at *
  simp only [List.size_toArray, List.length_cons, List.length_nil, Array.replicate, List.replicate]
  refine any_take (i := 0) (v := (.agg (kc (digs (325606250916557431795983626356110631294008115727848805560023387167927233504 : Int) 32)))) #[false, false, false, false, false, false, false, false, false, false, false, false, false, false, false, false, false, false, false, false, false, false, false, false, false, false, false, false, false, false, false, false, false, false, false] rfl (by kernel_rfl) (by kernel_rfl) (by kernel_rfl) (by kernel_rfl) (fun _ _ _ h => h) (.inl ⟨by kernel_rfl, fun x_ hu => exec_arr x_ 23 (.tmp 3) rfl g1_3 (by kernel_rfl) (kc (digs (325606250916557431795983626356110631294008115727848805560023387167927233504 : Int) 32)) 23 _ hu.1 Try.underlying23 rfl (by rw [Try.infoKey, kc32])⟩) ⟨(hB.get 1 (x := ⟨g1_3, (kc (digs (325606250916557431795983626356110631294008115727848805560023387167927233504 : Int) 32)), 23⟩) rfl), trivial⟩ ?_
  simp only [Act.put, List.setIfInBounds_toArray, List.set_cons_zero, List.set_cons_succ, List.getElem_toArray, List.getElem_cons_zero, List.getElem_cons_succ]
  refine any_take (i := 1) (v := (.agg (kc (digs ((0 : Nat) : Int) 32)))) #[true, false, false, false, false, false, false, false, false, false, false, false, false, false, false, false, false, false, false, false, false, false, false, false, false, false, false, false, false, false, false, false, false, false, false] rfl (by kernel_rfl) (by kernel_rfl) (by kernel_rfl) (by kernel_rfl) (fun _ _ _ h => h) (.inl ⟨by kernel_rfl, fun x_ hu => by kernel_rfl⟩) ⟨(hB.get 1 (x := ⟨g1_3, (kc (digs (325606250916557431795983626356110631294008115727848805560023387167927233504 : Int) 32)), 23⟩) rfl), trivial⟩ ?_
  simp only [Act.put, List.setIfInBounds_toArray, List.set_cons_zero, List.set_cons_succ, List.getElem_toArray, List.getElem_cons_zero, List.getElem_cons_succ]
  refine any_one (i := 2) (by kernel_rfl) rfl (fun K hK => ?_)
  refine step_callw (by kernel_rfl) 20 #[.agg (kc (digs ((0 : Nat) : Int) 32))] (by kernel_rfl) ((rFrom_ok 0 (by decide) _).mono ?_)
  rintro r v7_ ⟨c2, rfl, hc2, hg⟩
  refine ⟨_, rfl, ?_⟩
  replace hc2 : NC 0 c2 := NC.same hc2 rfl
  replace hB := hB.more hg
  clear hg
  refine hK.out _ _ ⟨(hB.get 1 (x := ⟨g1_3, (kc (digs (325606250916557431795983626356110631294008115727848805560023387167927233504 : Int) 32)), 23⟩) rfl), trivial⟩ (fun _ => ?_)
  clear hK K
  simp only [Act.put, List.setIfInBounds_toArray, List.set_cons_zero, List.set_cons_succ, List.getElem_toArray, List.getElem_cons_zero, List.getElem_cons_succ]
  refine any_one (i := 3) (by kernel_rfl) rfl (fun K hK => ?_)
  refine step_callw (by kernel_rfl) 26 #[.agg c2] (by kernel_rfl) ((nbytes_nc hc2 _).mono ?_)
  rintro r v8_ ⟨rfl, hg⟩
  refine ⟨_, rfl, ?_⟩
  rw [show (0 : Int) % pp = 0 from by decide]
  replace hB := hB.more hg
  clear hg
  refine hK.out _ _ ⟨(hB.get 1 (x := ⟨g1_3, (kc (digs (325606250916557431795983626356110631294008115727848805560023387167927233504 : Int) 32)), 23⟩) rfl), trivial⟩ (fun _ => ?_)
  clear hK K
  simp only [Act.put, List.setIfInBounds_toArray, List.set_cons_zero, List.set_cons_succ, List.getElem_toArray, List.getElem_cons_zero, List.getElem_cons_succ]
  refine any_take (i := 4) (v := (.bool false)) #[true, true, true, true, false, false, false, false, false, false, false, false, false, false, false, false, false, false, false, false, false, false, false, false, false, false, false, false, false, false, false, false, false, false, false] rfl (by kernel_rfl) (by kernel_rfl) (by kernel_rfl) (by kernel_rfl) (fun _ _ _ h => h) (.inl ⟨by kernel_rfl, fun x_ hu => by have e := key_diff (n := 325606250916557431795983626356110631294008115727848805560023387167927233504) (m := 0) (by omega) (by omega) (by decide); go_simp⟩) ⟨(hB.get 1 (x := ⟨g1_3, (kc (digs (325606250916557431795983626356110631294008115727848805560023387167927233504 : Int) 32)), 23⟩) rfl), trivial⟩ ?_
  simp only [Act.put, List.setIfInBounds_toArray, List.set_cons_zero, List.set_cons_succ, List.getElem_toArray, List.getElem_cons_zero, List.getElem_cons_succ]
  refine any_take (i := 5) (v := (.bool false)) #[true, true, true, true, true, false, false, false, false, false, false, false, false, false, false, false, false, false, false, false, false, false, false, false, false, false, false, false, false, false, false, false, false, false, false] rfl (by kernel_rfl) (by kernel_rfl) (by kernel_rfl) (by kernel_rfl) (fun _ _ _ h => h) (.inl ⟨by kernel_rfl, fun x_ hu => by kernel_rfl⟩) ⟨(hB.get 1 (x := ⟨g1_3, (kc (digs (325606250916557431795983626356110631294008115727848805560023387167927233504 : Int) 32)), 23⟩) rfl), trivial⟩ ?_
  simp only [Act.put, List.setIfInBounds_toArray, List.set_cons_zero, List.set_cons_succ, List.getElem_toArray, List.getElem_cons_zero, List.getElem_cons_succ]
  refine any_take (i := 6) (v := (.agg (kc (digs (325606250916557431795983626356110631294008115727848805560023387167927233504 : Int) 32)))) #[true, true, true, true, true, true, false, false, false, false, false, false, false, false, false, false, false, false, false, false, false, false, false, false, false, false, false, false, false, false, false, false, false, false, false] rfl (by kernel_rfl) (by kernel_rfl) (by kernel_rfl) (by kernel_rfl) (fun _ _ _ h => h) (.inl ⟨by kernel_rfl, fun x_ hu => exec_arr x_ 23 (.tmp 3) rfl g1_3 (by kernel_rfl) (kc (digs (325606250916557431795983626356110631294008115727848805560023387167927233504 : Int) 32)) 23 _ hu.1 Try.underlying23 rfl (by rw [Try.infoKey, kc32])⟩) ⟨(hB.get 1 (x := ⟨g1_3, (kc (digs (325606250916557431795983626356110631294008115727848805560023387167927233504 : Int) 32)), 23⟩) rfl), trivial⟩ ?_
  simp only [Act.put, List.setIfInBounds_toArray, List.set_cons_zero, List.set_cons_succ, List.getElem_toArray, List.getElem_cons_zero, List.getElem_cons_succ]
  refine any_take (i := 7) (v := (.agg (kc (digs ((1 : Nat) : Int) 32)))) #[true, true, true, true, true, true, true, false, false, false, false, false, false, false, false, false, false, false, false, false, false, false, false, false, false, false, false, false, false, false, false, false, false, false, false] rfl (by kernel_rfl) (by kernel_rfl) (by kernel_rfl) (by kernel_rfl) (fun _ _ _ h => h) (.inl ⟨by kernel_rfl, fun x_ hu => by kernel_rfl⟩) ⟨(hB.get 1 (x := ⟨g1_3, (kc (digs (325606250916557431795983626356110631294008115727848805560023387167927233504 : Int) 32)), 23⟩) rfl), trivial⟩ ?_
  simp only [Act.put, List.setIfInBounds_toArray, List.set_cons_zero, List.set_cons_succ, List.getElem_toArray, List.getElem_cons_zero, List.getElem_cons_succ]
  refine any_one (i := 8) (by kernel_rfl) rfl (fun K hK => ?_)
  refine step_callw (by kernel_rfl) 20 #[.agg (kc (digs ((1 : Nat) : Int) 32))] (by kernel_rfl) ((rFrom_ok 1 (by decide) _).mono ?_)
  rintro r v9_ ⟨c3, rfl, hc3, hg⟩
  refine ⟨_, rfl, ?_⟩
  replace hc3 : NC 1 c3 := NC.same hc3 rfl
  replace hB := hB.more hg
  clear hg
  refine hK.out _ _ ⟨(hB.get 1 (x := ⟨g1_3, (kc (digs (325606250916557431795983626356110631294008115727848805560023387167927233504 : Int) 32)), 23⟩) rfl), trivial⟩ (fun _ => ?_)
  clear hK K
  simp only [Act.put, List.setIfInBounds_toArray, List.set_cons_zero, List.set_cons_succ, List.getElem_toArray, List.getElem_cons_zero, List.getElem_cons_succ]
  refine any_one (i := 9) (by kernel_rfl) rfl (fun K hK => ?_)
  refine step_callw (by kernel_rfl) 26 #[.agg c3] (by kernel_rfl) ((nbytes_nc hc3 _).mono ?_)
  rintro r v10_ ⟨rfl, hg⟩
  refine ⟨_, rfl, ?_⟩
  rw [show (1 : Int) % pp = 1 from by decide]
  replace hB := hB.more hg
  clear hg
  refine hK.out _ _ ⟨(hB.get 1 (x := ⟨g1_3, (kc (digs (325606250916557431795983626356110631294008115727848805560023387167927233504 : Int) 32)), 23⟩) rfl), trivial⟩ (fun _ => ?_)
  clear hK K
  simp only [Act.put, List.setIfInBounds_toArray, List.set_cons_zero, List.set_cons_succ, List.getElem_toArray, List.getElem_cons_zero, List.getElem_cons_succ]
  refine any_take (i := 10) (v := (.bool false)) #[true, true, true, true, true, true, true, true, true, true, false, false, false, false, false, false, false, false, false, false, false, false, false, false, false, false, false, false, false, false, false, false, false, false, false] rfl (by kernel_rfl) (by kernel_rfl) (by kernel_rfl) (by kernel_rfl) (fun _ _ _ h => h) (.inl ⟨by kernel_rfl, fun x_ hu => by have e := key_diff (n := 325606250916557431795983626356110631294008115727848805560023387167927233504) (m := 1) (by omega) (by omega) (by decide); go_simp⟩) ⟨(hB.get 1 (x := ⟨g1_3, (kc (digs (325606250916557431795983626356110631294008115727848805560023387167927233504 : Int) 32)), 23⟩) rfl), trivial⟩ ?_
  simp only [Act.put, List.setIfInBounds_toArray, List.set_cons_zero, List.set_cons_succ, List.getElem_toArray, List.getElem_cons_zero, List.getElem_cons_succ]
  refine any_take (i := 11) (v := (.bool false)) #[true, true, true, true, true, true, true, true, true, true, true, false, false, false, false, false, false, false, false, false, false, false, false, false, false, false, false, false, false, false, false, false, false, false, false] rfl (by kernel_rfl) (by kernel_rfl) (by kernel_rfl) (by kernel_rfl) (fun _ _ _ h => h) (.inl ⟨by kernel_rfl, fun x_ hu => by kernel_rfl⟩) ⟨(hB.get 1 (x := ⟨g1_3, (kc (digs (325606250916557431795983626356110631294008115727848805560023387167927233504 : Int) 32)), 23⟩) rfl), trivial⟩ ?_
  simp only [Act.put, List.setIfInBounds_toArray, List.set_cons_zero, List.set_cons_succ, List.getElem_toArray, List.getElem_cons_zero, List.getElem_cons_succ]
  refine any_take (i := 12) (v := (.bool false)) #[true, true, true, true, true, true, true, true, true, true, true, true, false, false, false, false, false, false, false, false, false, false, false, false, false, false, false, false, false, false, false, false, false, false, false] rfl (by kernel_rfl) (by kernel_rfl) (by kernel_rfl) (by kernel_rfl) (fun _ _ _ h => h) (.inl ⟨by kernel_rfl, fun x_ hu => by kernel_rfl⟩) ⟨(hB.get 1 (x := ⟨g1_3, (kc (digs (325606250916557431795983626356110631294008115727848805560023387167927233504 : Int) 32)), 23⟩) rfl), trivial⟩ ?_
  simp only [Act.put, List.setIfInBounds_toArray, List.set_cons_zero, List.set_cons_succ, List.getElem_toArray, List.getElem_cons_zero, List.getElem_cons_succ]
  refine any_take (i := 13) (v := (.agg (kc (digs (325606250916557431795983626356110631294008115727848805560023387167927233504 : Int) 32)))) #[true, true, true, true, true, true, true, true, true, true, true, true, true, false, false, false, false, false, false, false, false, false, false, false, false, false, false, false, false, false, false, false, false, false, false] rfl (by kernel_rfl) (by kernel_rfl) (by kernel_rfl) (by kernel_rfl) (fun _ _ _ h => h) (.inl ⟨by kernel_rfl, fun x_ hu => exec_arr x_ 23 (.tmp 3) rfl g1_3 (by kernel_rfl) (kc (digs (325606250916557431795983626356110631294008115727848805560023387167927233504 : Int) 32)) 23 _ hu.1 Try.underlying23 rfl (by rw [Try.infoKey, kc32])⟩) ⟨(hB.get 1 (x := ⟨g1_3, (kc (digs (325606250916557431795983626356110631294008115727848805560023387167927233504 : Int) 32)), 23⟩) rfl), trivial⟩ ?_
  simp only [Act.put, List.setIfInBounds_toArray, List.set_cons_zero, List.set_cons_succ, List.getElem_toArray, List.getElem_cons_zero, List.getElem_cons_succ]
  refine any_take (i := 14) (v := (.agg (kc (digs ((0 : Nat) : Int) 32)))) #[true, true, true, true, true, true, true, true, true, true, true, true, true, true, false, false, false, false, false, false, false, false, false, false, false, false, false, false, false, false, false, false, false, false, false] rfl (by kernel_rfl) (by kernel_rfl) (by kernel_rfl) (by kernel_rfl) (fun _ _ _ h => h) (.inl ⟨by kernel_rfl, fun x_ hu => by kernel_rfl⟩) ⟨(hB.get 1 (x := ⟨g1_3, (kc (digs (325606250916557431795983626356110631294008115727848805560023387167927233504 : Int) 32)), 23⟩) rfl), trivial⟩ ?_
  simp only [Act.put, List.setIfInBounds_toArray, List.set_cons_zero, List.set_cons_succ, List.getElem_toArray, List.getElem_cons_zero, List.getElem_cons_succ]
  refine any_take (i := 16) (v := (.agg (kc (digs ((1 : Nat) : Int) 32)))) #[true, true, true, true, true, true, true, true, true, true, true, true, true, true, true, false, false, false, false, false, false, false, false, false, false, false, false, false, false, false, false, false, false, false, false] rfl (by kernel_rfl) (by kernel_rfl) (by kernel_rfl) (by kernel_rfl) (fun _ _ _ h => h) (.inl ⟨by kernel_rfl, fun x_ hu => by kernel_rfl⟩) ⟨(hB.get 1 (x := ⟨g1_3, (kc (digs (325606250916557431795983626356110631294008115727848805560023387167927233504 : Int) 32)), 23⟩) rfl), trivial⟩ ?_
  simp only [Act.put, List.setIfInBounds_toArray, List.set_cons_zero, List.set_cons_succ, List.getElem_toArray, List.getElem_cons_zero, List.getElem_cons_succ]
  refine any_one (i := 15) (by kernel_rfl) rfl (fun K hK => ?_)
  refine step_callw (by kernel_rfl) 20 #[.agg (kc (digs ((0 : Nat) : Int) 32))] (by kernel_rfl) ((rFrom_ok 0 (by decide) _).mono ?_)
  rintro r v11_ ⟨c4, rfl, hc4, hg⟩
  refine ⟨_, rfl, ?_⟩
  replace hc4 : NC 0 c4 := NC.same hc4 rfl
  replace hB := hB.more hg
  clear hg
  refine hK.out _ _ ⟨(hB.get 1 (x := ⟨g1_3, (kc (digs (325606250916557431795983626356110631294008115727848805560023387167927233504 : Int) 32)), 23⟩) rfl), trivial⟩ (fun _ => ?_)
  clear hK K
  simp only [Act.put, List.setIfInBounds_toArray, List.set_cons_zero, List.set_cons_succ, List.getElem_toArray, List.getElem_cons_zero, List.getElem_cons_succ]
  refine any_one (i := 17) (by kernel_rfl) rfl (fun K hK => ?_)
  refine step_callw (by kernel_rfl) 20 #[.agg (kc (digs ((1 : Nat) : Int) 32))] (by kernel_rfl) ((rFrom_ok 1 (by decide) _).mono ?_)
  rintro r v12_ ⟨c5, rfl, hc5, hg⟩
  refine ⟨_, rfl, ?_⟩
  replace hc5 : NC 1 c5 := NC.same hc5 rfl
  replace hB := hB.more hg
  clear hg
  refine hK.out _ _ ⟨(hB.get 1 (x := ⟨g1_3, (kc (digs (325606250916557431795983626356110631294008115727848805560023387167927233504 : Int) 32)), 23⟩) rfl), trivial⟩ (fun _ => ?_)
  clear hK K
  simp only [Act.put, List.setIfInBounds_toArray, List.set_cons_zero, List.set_cons_succ, List.getElem_toArray, List.getElem_cons_zero, List.getElem_cons_succ]
  refine any_one (i := 18) (by kernel_rfl) rfl (fun K hK => ?_)
  refine step_callw (by kernel_rfl) 22 #[.agg c4, .agg c5] (by kernel_rfl) ((nsub_nc hc4 hc5 _).mono ?_)
  rintro r v13_ ⟨c6, rfl, hc6, hg⟩
  refine ⟨_, rfl, ?_⟩
  replace hc6 : NC 57896044618658097711785492504343953926634992332820282019728792003956564819948 c6 := NC.same hc6 (by decide)
  replace hB := hB.more hg
  clear hg
  refine hK.out _ _ ⟨(hB.get 1 (x := ⟨g1_3, (kc (digs (325606250916557431795983626356110631294008115727848805560023387167927233504 : Int) 32)), 23⟩) rfl), trivial⟩ (fun _ => ?_)
  clear hK K
  simp only [Act.put, List.setIfInBounds_toArray, List.set_cons_zero, List.set_cons_succ, List.getElem_toArray, List.getElem_cons_zero, List.getElem_cons_succ]
  refine any_one (i := 19) (by kernel_rfl) rfl (fun K hK => ?_)
  refine step_callw (by kernel_rfl) 26 #[.agg c6] (by kernel_rfl) ((nbytes_nc hc6 _).mono ?_)
  rintro r v14_ ⟨rfl, hg⟩
  refine ⟨_, rfl, ?_⟩
  rw [show (57896044618658097711785492504343953926634992332820282019728792003956564819948 : Int) % pp = 57896044618658097711785492504343953926634992332820282019728792003956564819948 from by decide]
  replace hB := hB.more hg
  clear hg
  refine hK.out _ _ ⟨(hB.get 1 (x := ⟨g1_3, (kc (digs (325606250916557431795983626356110631294008115727848805560023387167927233504 : Int) 32)), 23⟩) rfl), trivial⟩ (fun _ => ?_)
  clear hK K
  simp only [Act.put, List.setIfInBounds_toArray, List.set_cons_zero, List.set_cons_succ, List.getElem_toArray, List.getElem_cons_zero, List.getElem_cons_succ]
  refine any_take (i := 20) (v := (.bool false)) #[true, true, true, true, true, true, true, true, true, true, true, true, true, true, true, true, true, true, true, true, false, false, false, false, false, false, false, false, false, false, false, false, false, false, false] rfl (by kernel_rfl) (by kernel_rfl) (by kernel_rfl) (by kernel_rfl) (fun _ _ _ h => h) (.inl ⟨by kernel_rfl, fun x_ hu => by have e := key_diff (n := 325606250916557431795983626356110631294008115727848805560023387167927233504) (m := 57896044618658097711785492504343953926634992332820282019728792003956564819948) (by omega) (by omega) (by decide); go_simp⟩) ⟨(hB.get 1 (x := ⟨g1_3, (kc (digs (325606250916557431795983626356110631294008115727848805560023387167927233504 : Int) 32)), 23⟩) rfl), trivial⟩ ?_
  simp only [Act.put, List.setIfInBounds_toArray, List.set_cons_zero, List.set_cons_succ, List.getElem_toArray, List.getElem_cons_zero, List.getElem_cons_succ]
  refine any_take (i := 21) (v := (.bool false)) #[true, true, true, true, true, true, true, true, true, true, true, true, true, true, true, true, true, true, true, true, true, false, false, false, false, false, false, false, false, false, false, false, false, false, false] rfl (by kernel_rfl) (by kernel_rfl) (by kernel_rfl) (by kernel_rfl) (fun _ _ _ h => h) (.inl ⟨by kernel_rfl, fun x_ hu => by kernel_rfl⟩) ⟨(hB.get 1 (x := ⟨g1_3, (kc (digs (325606250916557431795983626356110631294008115727848805560023387167927233504 : Int) 32)), 23⟩) rfl), trivial⟩ ?_
  simp only [Act.put, List.setIfInBounds_toArray, List.set_cons_zero, List.set_cons_succ, List.getElem_toArray, List.getElem_cons_zero, List.getElem_cons_succ]
  refine any_take (i := 22) (v := (.bool false)) #[true, true, true, true, true, true, true, true, true, true, true, true, true, true, true, true, true, true, true, true, true, true, false, false, false, false, false, false, false, false, false, false, false, false, false] rfl (by kernel_rfl) (by kernel_rfl) (by kernel_rfl) (by kernel_rfl) (fun _ _ _ h => h) (.inl ⟨by kernel_rfl, fun x_ hu => by kernel_rfl⟩) ⟨(hB.get 1 (x := ⟨g1_3, (kc (digs (325606250916557431795983626356110631294008115727848805560023387167927233504 : Int) 32)), 23⟩) rfl), trivial⟩ ?_
  simp only [Act.put, List.setIfInBounds_toArray, List.set_cons_zero, List.set_cons_succ, List.getElem_toArray, List.getElem_cons_zero, List.getElem_cons_succ]
  refine any_take (i := 23) (v := (.agg (kc (digs (325606250916557431795983626356110631294008115727848805560023387167927233504 : Int) 32)))) #[true, true, true, true, true, true, true, true, true, true, true, true, true, true, true, true, true, true, true, true, true, true, true, false, false, false, false, false, false, false, false, false, false, false, false] rfl (by kernel_rfl) (by kernel_rfl) (by kernel_rfl) (by kernel_rfl) (fun _ _ _ h => h) (.inl ⟨by kernel_rfl, fun x_ hu => exec_arr x_ 23 (.tmp 3) rfl g1_3 (by kernel_rfl) (kc (digs (325606250916557431795983626356110631294008115727848805560023387167927233504 : Int) 32)) 23 _ hu.1 Try.underlying23 rfl (by rw [Try.infoKey, kc32])⟩) ⟨(hB.get 1 (x := ⟨g1_3, (kc (digs (325606250916557431795983626356110631294008115727848805560023387167927233504 : Int) 32)), 23⟩) rfl), trivial⟩ ?_
  simp only [Act.put, List.setIfInBounds_toArray, List.set_cons_zero, List.set_cons_succ, List.getElem_toArray, List.getElem_cons_zero, List.getElem_cons_succ]
  refine any_one (i := 24) (by kernel_rfl) rfl (fun K hK => ?_)
  refine step_callw (by kernel_rfl) 28 #[.string s8] (by kernel_rfl) ((dig8_ok _).mono ?_)
  rintro r v15_ ⟨c7, rfl, hc7, hg⟩
  refine ⟨_, rfl, ?_⟩
  replace hB := hB.more hg
  clear hg
  refine hK.out _ _ ⟨(hB.get 1 (x := ⟨g1_3, (kc (digs (325606250916557431795983626356110631294008115727848805560023387167927233504 : Int) 32)), 23⟩) rfl), trivial⟩ (fun _ => ?_)
  clear hK K
  simp only [Act.put, List.setIfInBounds_toArray, List.set_cons_zero, List.set_cons_succ, List.getElem_toArray, List.getElem_cons_zero, List.getElem_cons_succ]
  refine any_one (i := 25) (by kernel_rfl) rfl (fun K hK => ?_)
  refine step_callw (by kernel_rfl) 26 #[.agg c7] (by kernel_rfl) ((nbytes_nc hc7 _).mono ?_)
  rintro r v16_ ⟨rfl, hg⟩
  refine ⟨_, rfl, ?_⟩
  rw [show (325606250916557431795983626356110631294008115727848805560023387167927233504 : Int) % pp = 325606250916557431795983626356110631294008115727848805560023387167927233504 from by decide]
  replace hB := hB.more hg
  clear hg
  refine hK.out _ _ ⟨(hB.get 1 (x := ⟨g1_3, (kc (digs (325606250916557431795983626356110631294008115727848805560023387167927233504 : Int) 32)), 23⟩) rfl), trivial⟩ (fun _ => ?_)
  clear hK K
  simp only [Act.put, List.setIfInBounds_toArray, List.set_cons_zero, List.set_cons_succ, List.getElem_toArray, List.getElem_cons_zero, List.getElem_cons_succ]
  refine any_take (i := 26) (v := (.bool true)) #[true, true, true, true, true, true, true, true, true, true, true, true, true, true, true, true, true, true, true, true, true, true, true, true, true, true, false, false, false, false, false, false, false, false, false] rfl (by kernel_rfl) (by kernel_rfl) (by kernel_rfl) (by kernel_rfl) (fun _ _ _ h => h) (.inl ⟨by kernel_rfl, fun x_ hu => by have e := key_same (325606250916557431795983626356110631294008115727848805560023387167927233504 : Int); go_simp⟩) ⟨(hB.get 1 (x := ⟨g1_3, (kc (digs (325606250916557431795983626356110631294008115727848805560023387167927233504 : Int) 32)), 23⟩) rfl), trivial⟩ ?_
  simp only [Act.put, List.setIfInBounds_toArray, List.set_cons_zero, List.set_cons_succ, List.getElem_toArray, List.getElem_cons_zero, List.getElem_cons_succ]
  refine any_take (i := 27) (v := (.bool true)) #[true, true, true, true, true, true, true, true, true, true, true, true, true, true, true, true, true, true, true, true, true, true, true, true, true, true, true, false, false, false, false, false, false, false, false] rfl (by kernel_rfl) (by kernel_rfl) (by kernel_rfl) (by kernel_rfl) (fun _ _ _ h => h) (.inl ⟨by kernel_rfl, fun x_ hu => by kernel_rfl⟩) ⟨(hB.get 1 (x := ⟨g1_3, (kc (digs (325606250916557431795983626356110631294008115727848805560023387167927233504 : Int) 32)), 23⟩) rfl), trivial⟩ ?_
  simp only [Act.put, List.setIfInBounds_toArray, List.set_cons_zero, List.set_cons_succ, List.getElem_toArray, List.getElem_cons_zero, List.getElem_cons_succ]
  refine any_take (i := 28) (v := (.bool true)) #[true, true, true, true, true, true, true, true, true, true, true, true, true, true, true, true, true, true, true, true, true, true, true, true, true, true, true, true, false, false, false, false, false, false, false] rfl (by kernel_rfl) (by kernel_rfl) (by kernel_rfl) (by kernel_rfl) (fun _ _ _ h => h) (.inl ⟨by kernel_rfl, fun x_ hu => by kernel_rfl⟩) ⟨(hB.get 1 (x := ⟨g1_3, (kc (digs (325606250916557431795983626356110631294008115727848805560023387167927233504 : Int) 32)), 23⟩) rfl), trivial⟩ ?_
  simp only [Act.put, List.setIfInBounds_toArray, List.set_cons_zero, List.set_cons_succ, List.getElem_toArray, List.getElem_cons_zero, List.getElem_cons_succ]
  refine any_take (i := 29) (v := undef) #[true, true, true, true, true, true, true, true, true, true, true, true, true, true, true, true, true, true, true, true, true, true, true, true, true, true, true, true, true, false, false, false, false, false, false] rfl (by kernel_rfl) (by kernel_rfl) (by kernel_rfl) (by kernel_rfl) (fun _ _ _ h => h) (.inr ⟨by kernel_rfl, rfl⟩) ⟨(hB.get 1 (x := ⟨g1_3, (kc (digs (325606250916557431795983626356110631294008115727848805560023387167927233504 : Int) 32)), 23⟩) rfl), trivial⟩ ?_
  simp only [Act.put, List.setIfInBounds_toArray, List.set_cons_zero, List.set_cons_succ, List.getElem_toArray, List.getElem_cons_zero, List.getElem_cons_succ]
  refine any_take (i := 30) (v := undef) #[true, true, true, true, true, true, true, true, true, true, true, true, true, true, true, true, true, true, true, true, true, true, true, true, true, true, true, true, true, true, false, false, false, false, false] rfl (by kernel_rfl) (by kernel_rfl) (by kernel_rfl) (by kernel_rfl) (fun _ _ _ h => h) (.inr ⟨by kernel_rfl, rfl⟩) ⟨(hB.get 1 (x := ⟨g1_3, (kc (digs (325606250916557431795983626356110631294008115727848805560023387167927233504 : Int) 32)), 23⟩) rfl), trivial⟩ ?_
  simp only [Act.put, List.setIfInBounds_toArray, List.set_cons_zero, List.set_cons_succ, List.getElem_toArray, List.getElem_cons_zero, List.getElem_cons_succ]
  refine any_take (i := 31) (v := undef) #[true, true, true, true, true, true, true, true, true, true, true, true, true, true, true, true, true, true, true, true, true, true, true, true, true, true, true, true, true, true, true, false, false, false, false] rfl (by kernel_rfl) (by kernel_rfl) (by kernel_rfl) (by kernel_rfl) (fun _ _ _ h => h) (.inr ⟨by kernel_rfl, rfl⟩) ⟨(hB.get 1 (x := ⟨g1_3, (kc (digs (325606250916557431795983626356110631294008115727848805560023387167927233504 : Int) 32)), 23⟩) rfl), trivial⟩ ?_
  simp only [Act.put, List.setIfInBounds_toArray, List.set_cons_zero, List.set_cons_succ, List.getElem_toArray, List.getElem_cons_zero, List.getElem_cons_succ]
  refine any_take (i := 32) (v := undef) #[true, true, true, true, true, true, true, true, true, true, true, true, true, true, true, true, true, true, true, true, true, true, true, true, true, true, true, true, true, true, true, true, false, false, false] rfl (by kernel_rfl) (by kernel_rfl) (by kernel_rfl) (by kernel_rfl) (fun _ _ _ h => h) (.inr ⟨by kernel_rfl, rfl⟩) ⟨(hB.get 1 (x := ⟨g1_3, (kc (digs (325606250916557431795983626356110631294008115727848805560023387167927233504 : Int) 32)), 23⟩) rfl), trivial⟩ ?_
  simp only [Act.put, List.setIfInBounds_toArray, List.set_cons_zero, List.set_cons_succ, List.getElem_toArray, List.getElem_cons_zero, List.getElem_cons_succ]
  refine any_take (i := 33) (v := (.bool true)) #[true, true, true, true, true, true, true, true, true, true, true, true, true, true, true, true, true, true, true, true, true, true, true, true, true, true, true, true, true, true, true, true, true, false, false] rfl (by kernel_rfl) (by kernel_rfl) (by kernel_rfl) (by kernel_rfl) (fun _ _ _ h => h) (.inl ⟨by kernel_rfl, fun x_ hu => by kernel_rfl⟩) ⟨(hB.get 1 (x := ⟨g1_3, (kc (digs (325606250916557431795983626356110631294008115727848805560023387167927233504 : Int) 32)), 23⟩) rfl), trivial⟩ ?_
  simp only [Act.put, List.setIfInBounds_toArray, List.set_cons_zero, List.set_cons_succ, List.getElem_toArray, List.getElem_cons_zero, List.getElem_cons_succ]
  refine any_one (i := 34) (by kernel_rfl) rfl (fun K hK => ?_)
  replace hK := hide hK
  go_simp
  refine (unhide hK).out _ _ ⟨(hB.get 1 (x := ⟨g1_3, (kc (digs (325606250916557431795983626356110631294008115727848805560023387167927233504 : Int) 32)), 23⟩) rfl), trivial⟩ (fun _ => ?_)
  clear hK K
  refine any_done (by kernel_rfl) ?_
  have hG := hide hB.gr
  clear hB
  go_wp2_with fail
  refine bodyPost_ret (v := .bool true) ?_ rfl ⟨rfl, unhide hG⟩
  simp [results, Try.results11, go_sem]

set_option maxHeartbeats 2000000 in
theorem rlow_4 (U : Nat) (hU : U < 115792089237316195423570985008687907853269984665640564039457584007913129639936) (hV : (U : Int) % 57896044618658097711785492504343953926634992332820282019728792003956564819968 % pp = 39382357235489614581723060781553021112529911719440698176882885853963445705823) (w : World) :
    Calls Try.prog 11 #[.agg (kc (digs (U : Int) 32))] w (fun r w' => r = .returned (.bool true) ∧ Gr w w') := by
  replace hU := hide hU
  replace hV := hide hV
  go_enter Try.func11, Try.ntmps11
  go_upto_region 1 with fail
  have hB := (Bl.nil w).new (kc (digs (U : Int) 32)) 23
  simp only [List.nil_append] at hB
  generalize World.alloc _ _ = v1_ at *
  refine wp_region_lit ?_
  refine list_val (.agg (kc (digs (U : Int) 32))) (by kernel_rfl) (exec_arr _ 23 (.tmp 1) rfl w.heap.size (by kernel_rfl) (kc (digs (U : Int) 32)) 23 _ (hB.get 0 (x := ⟨w.heap.size, (kc (digs (U : Int) 32)), 23⟩) rfl) Try.underlying23 rfl (by rw [Try.infoKey, kc32])) ?_
  simp only [Act.put, List.setIfInBounds_toArray, List.set_cons_zero, List.set_cons_succ, List.getElem_toArray, List.getElem_cons_zero, List.getElem_cons_succ]
  refine list_call 20 #[.agg (kc (digs (U : Int) 32))] (by kernel_rfl) (by kernel_rfl) ((rFrom_ok U (unhide hU) _).mono ?_)
  rintro r v2_ ⟨c1, rfl, hc1, hg⟩
  refine ⟨_, rfl, ?_⟩
  replace hB := hB.more hg
  clear hg
  simp only [Act.put, List.setIfInBounds_toArray, List.set_cons_zero, List.set_cons_succ, List.getElem_toArray, List.getElem_cons_zero, List.getElem_cons_succ]
  refine list_call 26 #[.agg c1] (by kernel_rfl) (by kernel_rfl) ((nbytes_nc hc1 _).mono ?_)
  rintro r v3_ ⟨rfl, hg⟩
  refine ⟨_, rfl, ?_⟩
  rw [unhide hV]
  replace hB := hB.more hg
  clear hg
  simp only [Act.put, List.setIfInBounds_toArray, List.set_cons_zero, List.set_cons_succ, List.getElem_toArray, List.getElem_cons_zero, List.getElem_cons_succ]
  refine wpList_step fun K hK => ?_
  replace hK := hide hK
  go_simp
  refine unhide hK _ _ ?_
  clear hK K
  replace hB := hB.new #[.int .u8 0, .int .u8 0, .int .u8 0, .int .u8 0, .int .u8 0, .int .u8 0, .int .u8 0, .int .u8 0, .int .u8 0, .int .u8 0, .int .u8 0, .int .u8 0, .int .u8 0, .int .u8 0, .int .u8 0, .int .u8 0, .int .u8 0, .int .u8 0, .int .u8 0, .int .u8 0, .int .u8 0, .int .u8 0, .int .u8 0, .int .u8 0, .int .u8 0, .int .u8 0, .int .u8 0, .int .u8 0, .int .u8 0, .int .u8 0, .int .u8 0, .int .u8 0] 23
  simp only [List.cons_append, List.nil_append] at hB
  generalize v3_.heap.size = g1_3 at *
  generalize World.alloc _ _ = v4_ at *
  replace hB : Bl w [⟨w.heap.size, (kc (digs (U : Int) 32)), 23⟩, ⟨g1_3, Z32, 23⟩] v4_ := hB
  refine list_store 23 (.tmp 3) (.tmp 6) g1_3 (kc (digs (39382357235489614581723060781553021112529911719440698176882885853963445705823 : Int) 32)) 23 Z32 (by kernel_rfl) rfl (by kernel_rfl) (by kernel_rfl) (hB.get 1 (x := ⟨g1_3, Z32, 23⟩) rfl) (by rw [Try.infoKey, kc32]) (Z32_size.trans (kc32 (39382357235489614581723060781553021112529911719440698176882885853963445705823 : Int) 32).symm) (kc_one _) ?_
  replace hB := hB.set 1 (x := ⟨g1_3, Z32, 23⟩) rfl (kc (digs (39382357235489614581723060781553021112529911719440698176882885853963445705823 : Int) 32))
  simp only [List.set_cons_zero, List.set_cons_succ] at hB
  generalize World.setRow _ _ _ = v5_ at *
  simp only [Act.put, List.setIfInBounds_toArray, List.set_cons_zero, List.set_cons_succ, List.getElem_toArray, List.getElem_cons_zero, List.getElem_cons_succ]
  refine wpList_nil ?_
  go_upto_region 2 with fail
  refine any_start (S := fun v => v.heap[g1_3]? = some (.cells (kc (digs (39382357235489614581723060781553021112529911719440698176882885853963445705823 : Int) 32)) 23 (0, 0)) ∧ True) (by kernel_rfl) ?_
  replace hB := hB.drew
  generalize World.drew _ = v6_ at *
  simp only [List.size_toArray, List.length_cons, List.length_nil, Array.replicate, List.replicate]
  refine any_take (i := 0) (v := (.agg (kc (digs (39382357235489614581723060781553021112529911719440698176882885853963445705823 : Int) 32)))) #[false, false, false, false, false, false, false, false, false, false, false, false, false, false, false, false, false, false, false, false, false, false, false, false, false, false, false, false, false, false, false, false, false, false, false] rfl (by kernel_rfl) (by kernel_rfl) (by kernel_rfl) (by kernel_rfl) (fun _ _ _ h => h) (.inl ⟨by kernel_rfl, fun x_ hu => exec_arr x_ 23 (.tmp 3) rfl g1_3 (by kernel_rfl) (kc (digs (39382357235489614581723060781553021112529911719440698176882885853963445705823 : Int) 32)) 23 _ hu.1 Try.underlying23 rfl (by rw [Try.infoKey, kc32])⟩) ⟨(hB.get 1 (x := ⟨g1_3, (kc (digs (39382357235489614581723060781553021112529911719440698176882885853963445705823 : Int) 32)), 23⟩) rfl), trivial⟩ ?_
  simp only [Act.put, List.setIfInBounds_toArray, List.set_cons_zero, List.set_cons_succ, List.getElem_toArray, List.getElem_cons_zero, List.getElem_cons_succ]
  refine any_take (i := 1) (v := (.agg (kc (digs ((0 : Nat) : Int) 32)))) #[true, false, false, false, false, false, false, false, false, false, false, false, false, false, false, false, false, false, false, false, false, false, false, false, false, false, false, false, false, false, false, false, false, false, false] rfl (by kernel_rfl) (by kernel_rfl) (by kernel_rfl) (by kernel_rfl) (fun _ _ _ h => h) (.inl ⟨by kernel_rfl, fun x_ hu => by kernel_rfl⟩) ⟨(hB.get 1 (x := ⟨g1_3, (kc (digs (39382357235489614581723060781553021112529911719440698176882885853963445705823 : Int) 32)), 23⟩) rfl), trivial⟩ ?_
  simp only [Act.put, List.setIfInBounds_toArray, List.set_cons_zero, List.set_cons_succ, List.getElem_toArray, List.getElem_cons_zero, List.getElem_cons_succ]
  refine any_one (i := 2) (by kernel_rfl) rfl (fun K hK => ?_)
  refine step_callw (by kernel_rfl) 20 #[.agg (kc (digs ((0 : Nat) : Int) 32))] (by kernel_rfl) ((rFrom_ok 0 (by decide) _).mono ?_)
  rintro r v7_ ⟨c2, rfl, hc2, hg⟩
  refine ⟨_, rfl, ?_⟩
  replace hc2 : NC 0 c2 := NC.same hc2 rfl
  replace hB := hB.more hg
  clear hg
  refine hK.out _ _ ⟨(hB.get 1 (x := ⟨g1_3, (kc (digs (39382357235489614581723060781553021112529911719440698176882885853963445705823 : Int) 32)), 23⟩) rfl), trivial⟩ (fun _ => ?_)
  clear hK K
  simp only [Act.put, List.setIfInBounds_toArray, List.set_cons_zero, List.set_cons_succ, List.getElem_toArray, List.getElem_cons_zero, List.getElem_cons_succ]
  refine any_one (i := 3) (by kernel_rfl) rfl (fun K hK => ?_)
  refine step_callw (by kernel_rfl) 26 #[.agg c2] (by kernel_rfl) ((nbytes_nc hc2 _).mono ?_)
  rintro r v8_ ⟨rfl, hg⟩
  refine ⟨_, rfl, ?_⟩
  rw [show (0 : Int) % pp = 0 from by decide]
  replace hB := hB.more hg
  clear hg
  refine hK.out _ _ ⟨(hB.get 1 (x := ⟨g1_3, (kc (digs (39382357235489614581723060781553021112529911719440698176882885853963445705823 : Int) 32)), 23⟩) rfl), trivial⟩ (fun _ => ?_)
  clear hK K
  simp only [Act.put, List.setIfInBounds_toArray, List.set_cons_zero, List.set_cons_succ, List.getElem_toArray, List.getElem_cons_zero, List.getElem_cons_succ]
  refine any_take (i := 4) (v := (.bool false)) #[true, true, true, true, false, false, false, false, false, false, false, false, false, false, false, false, false, false, false, false, false, false, false, false, false, false, false, false, false, false, false, false, false, false, false] rfl (by kernel_rfl) (by kernel_rfl) (by kernel_rfl) (by kernel_rfl) (fun _ _ _ h => h) (.inl ⟨by kernel_rfl, fun x_ hu => by have e := key_diff (n := 39382357235489614581723060781553021112529911719440698176882885853963445705823) (m := 0) (by omega) (by omega) (by decide); go_simp⟩) ⟨(hB.get 1 (x := ⟨g1_3, (kc (digs (39382357235489614581723060781553021112529911719440698176882885853963445705823 : Int) 32)), 23⟩) rfl), trivial⟩ ?_
  simp only [Act.put, List.setIfInBounds_toArray, List.set_cons_zero, List.set_cons_succ, List.getElem_toArray, List.getElem_cons_zero, List.getElem_cons_succ]
  refine any_take (i := 5) (v := (.bool false)) #[true, true, true, true, true, false, false, false, false, false, false, false, false, false, false, false, false, false, false, false, false, false, false, false, false, false, false, false, false, false, false, false, false, false, false] rfl (by kernel_rfl) (by kernel_rfl) (by kernel_rfl) (by kernel_rfl) (fun _ _ _ h => h) (.inl ⟨by kernel_rfl, fun x_ hu => by kernel_rfl⟩) ⟨(hB.get 1 (x := ⟨g1_3, (kc (digs (39382357235489614581723060781553021112529911719440698176882885853963445705823 : Int) 32)), 23⟩) rfl), trivial⟩ ?_
  simp only [Act.put, List.setIfInBounds_toArray, List.set_cons_zero, List.set_cons_succ, List.getElem_toArray, List.getElem_cons_zero, List.getElem_cons_succ]
  refine any_take (i := 6) (v := (.agg (kc (digs (39382357235489614581723060781553021112529911719440698176882885853963445705823 : Int) 32)))) #[true, true, true, true, true, true, false, false, false, false, false, false, false, false, false, false, false, false, false, false, false, false, false, false, false, false, false, false, false, false, false, false, false, false, false] rfl (by kernel_rfl) (by kernel_rfl) (by kernel_rfl) (by kernel_rfl) (fun _ _ _ h => h) (.inl ⟨by kernel_rfl, fun x_ hu => exec_arr x_ 23 (.tmp 3) rfl g1_3 (by kernel_rfl) (kc (digs (39382357235489614581723060781553021112529911719440698176882885853963445705823 : Int) 32)) 23 _ hu.1 Try.underlying23 rfl (by rw [Try.infoKey, kc32])⟩) ⟨(hB.get 1 (x := ⟨g1_3, (kc (digs (39382357235489614581723060781553021112529911719440698176882885853963445705823 : Int) 32)), 23⟩) rfl), trivial⟩ ?_
  simp only [Act.put, List.setIfInBounds_toArray, List.set_cons_zero, List.set_cons_succ, List.getElem_toArray, List.getElem_cons_zero, List.getElem_cons_succ]
  refine any_take (i := 7) (v := (.agg (kc (digs ((1 : Nat) : Int) 32)))) #[true, true, true, true, true, true, true, false, false, false, false, false, false, false, false, false, false, false, false, false, false, false, false, false, false, false, false, false, false, false, false, false, false, false, false] rfl (by kernel_rfl) (by kernel_rfl) (by kernel_rfl) (by kernel_rfl) (fun _ _ _ h => h) (.inl ⟨by kernel_rfl, fun x_ hu => by kernel_rfl⟩) ⟨(hB.get 1 (x := ⟨g1_3, (kc (digs (39382357235489614581723060781553021112529911719440698176882885853963445705823 : Int) 32)), 23⟩) rfl), trivial⟩ ?_
  simp only [Act.put, List.setIfInBounds_toArray, List.set_cons_zero, List.set_cons_succ, List.getElem_toArray, List.getElem_cons_zero, List.getElem_cons_succ]
  refine any_one (i := 8) (by kernel_rfl) rfl (fun K hK => ?_)
  refine step_callw (by kernel_rfl) 20 #[.agg (kc (digs ((1 : Nat) : Int) 32))] (by kernel_rfl) ((rFrom_ok 1 (by decide) _).mono ?_)
  rintro r v9_ ⟨c3, rfl, hc3, hg⟩
  refine ⟨_, rfl, ?_⟩
  replace hc3 : NC 1 c3 := NC.same hc3 rfl
  replace hB := hB.more hg
  clear hg
  refine hK.out _ _ ⟨(hB.get 1 (x := ⟨g1_3, (kc (digs (39382357235489614581723060781553021112529911719440698176882885853963445705823 : Int) 32)), 23⟩) rfl), trivial⟩ (fun _ => ?_)
  clear hK K
  simp only [Act.put, List.setIfInBounds_toArray, List.set_cons_zero, List.set_cons_succ, List.getElem_toArray, List.getElem_cons_zero, List.getElem_cons_succ]
  refine any_one (i := 9) (by kernel_rfl) rfl (fun K hK => ?_)
  refine step_callw (by kernel_rfl) 26 #[.agg c3] (by kernel_rfl) ((nbytes_nc hc3 _).mono ?_)
  rintro r v10_ ⟨rfl, hg⟩
  refine ⟨_, rfl, ?_⟩
  rw [show (1 : Int) % pp = 1 from by decide]
  replace hB := hB.more hg
  clear hg
  refine hK.out _ _ ⟨(hB.get 1 (x := ⟨g1_3, (kc (digs (39382357235489614581723060781553021112529911719440698176882885853963445705823 : Int) 32)), 23⟩) rfl), trivial⟩ (fun _ => ?_)
  clear hK K
  simp only [Act.put, List.setIfInBounds_toArray, List.set_cons_zero, List.set_cons_succ, List.getElem_toArray, List.getElem_cons_zero, List.getElem_cons_succ]
  refine any_take (i := 10) (v := (.bool false)) #[true, true, true, true, true, true, true, true, true, true, false, false, false, false, false, false, false, false, false, false, false, false, false, false, false, false, false, false, false, false, false, false, false, false, false] rfl (by kernel_rfl) (by kernel_rfl) (by kernel_rfl) (by kernel_rfl) (fun _ _ _ h => h) (.inl ⟨by kernel_rfl, fun x_ hu => by have e := key_diff (n := 39382357235489614581723060781553021112529911719440698176882885853963445705823) (m := 1) (by omega) (by omega) (by decide); go_simp⟩) ⟨(hB.get 1 (x := ⟨g1_3, (kc (digs (39382357235489614581723060781553021112529911719440698176882885853963445705823 : Int) 32)), 23⟩) rfl), trivial⟩ ?_
  simp only [Act.put, List.setIfInBounds_toArray, List.set_cons_zero, List.set_cons_succ, List.getElem_toArray, List.getElem_cons_zero, List.getElem_cons_succ]
  refine any_take (i := 11) (v := (.bool false)) #[true, true, true, true, true, true, true, true, true, true, true, false, false, false, false, false, false, false, false, false, false, false, false, false, false, false, false, false, false, false, false, false, false, false, false] rfl (by kernel_rfl) (by kernel_rfl) (by kernel_rfl) (by kernel_rfl) (fun _ _ _ h => h) (.inl ⟨by kernel_rfl, fun x_ hu => by kernel_rfl⟩) ⟨(hB.get 1 (x := ⟨g1_3, (kc (digs (39382357235489614581723060781553021112529911719440698176882885853963445705823 : Int) 32)), 23⟩) rfl), trivial⟩ ?_
  simp only [Act.put, List.setIfInBounds_toArray, List.set_cons_zero, List.set_cons_succ, List.getElem_toArray, List.getElem_cons_zero, List.getElem_cons_succ]
  refine any_take (i := 12) (v := (.bool false)) #[true, true, true, true, true, true, true, true, true, true, true, true, false, false, false, false, false, false, false, false, false, false, false, false, false, false, false, false, false, false, false, false, false, false, false] rfl (by kernel_rfl) (by kernel_rfl) (by kernel_rfl) (by kernel_rfl) (fun _ _ _ h => h) (.inl ⟨by kernel_rfl, fun x_ hu => by kernel_rfl⟩) ⟨(hB.get 1 (x := ⟨g1_3, (kc (digs (39382357235489614581723060781553021112529911719440698176882885853963445705823 : Int) 32)), 23⟩) rfl), trivial⟩ ?_
  simp only [Act.put, List.setIfInBounds_toArray, List.set_cons_zero, List.set_cons_succ, List.getElem_toArray, List.getElem_cons_zero, List.getElem_cons_succ]
  refine any_take (i := 13) (v := (.agg (kc (digs (39382357235489614581723060781553021112529911719440698176882885853963445705823 : Int) 32)))) #[true, true, true, true, true, true, true, true, true, true, true, true, true, false, false, false, false, false, false, false, false, false, false, false, false, false, false, false, false, false, false, false, false, false, false] rfl (by kernel_rfl) (by kernel_rfl) (by kernel_rfl) (by kernel_rfl) (fun _ _ _ h => h) (.inl ⟨by kernel_rfl, fun x_ hu => exec_arr x_ 23 (.tmp 3) rfl g1_3 (by kernel_rfl) (kc (digs (39382357235489614581723060781553021112529911719440698176882885853963445705823 : Int) 32)) 23 _ hu.1 Try.underlying23 rfl (by rw [Try.infoKey, kc32])⟩) ⟨(hB.get 1 (x := ⟨g1_3, (kc (digs (39382357235489614581723060781553021112529911719440698176882885853963445705823 : Int) 32)), 23⟩) rfl), trivial⟩ ?_
  simp only [Act.put, List.setIfInBounds_toArray, List.set_cons_zero, List.set_cons_succ, List.getElem_toArray, List.getElem_cons_zero, List.getElem_cons_succ]
  refine any_take (i := 14) (v := (.agg (kc (digs ((0 : Nat) : Int) 32)))) #[true, true, true, true, true, true, true, true, true, true, true, true, true, true, false, false, false, false, false, false, false, false, false, false, false, false, false, false, false, false, false, false, false, false, false] rfl (by kernel_rfl) (by kernel_rfl) (by kernel_rfl) (by kernel_rfl) (fun _ _ _ h => h) (.inl ⟨by kernel_rfl, fun x_ hu => by kernel_rfl⟩) ⟨(hB.get 1 (x := ⟨g1_3, (kc (digs (39382357235489614581723060781553021112529911719440698176882885853963445705823 : Int) 32)), 23⟩) rfl), trivial⟩ ?_
  simp only [Act.put, List.setIfInBounds_toArray, List.set_cons_zero, List.set_cons_succ, List.getElem_toArray, List.getElem_cons_zero, List.getElem_cons_succ]
  refine any_take (i := 16) (v := (.agg (kc (digs ((1 : Nat) : Int) 32)))) #[true, true, true, true, true, true, true, true, true, true, true, true, true, true, true, false, false, false, false, false, false, false, false, false, false, false, false, false, false, false, false, false, false, false, false] rfl (by kernel_rfl) (by kernel_rfl) (by kernel_rfl) (by kernel_rfl) (fun _ _ _ h => h) (.inl ⟨by kernel_rfl, fun x_ hu => by kernel_rfl⟩) ⟨(hB.get 1 (x := ⟨g1_3, (kc (digs (39382357235489614581723060781553021112529911719440698176882885853963445705823 : Int) 32)), 23⟩) rfl), trivial⟩ ?_
  simp only [Act.put, List.setIfInBounds_toArray, List.set_cons_zero, List.set_cons_succ, List.getElem_toArray, List.getElem_cons_zero, List.getElem_cons_succ]
  refine any_one (i := 15) (by kernel_rfl) rfl (fun K hK => ?_)
  refine step_callw (by kernel_rfl) 20 #[.agg (kc (digs ((0 : Nat) : Int) 32))] (by kernel_rfl) ((rFrom_ok 0 (by decide) _).mono ?_)
  rintro r v11_ ⟨c4, rfl, hc4, hg⟩
  refine ⟨_, rfl, ?_⟩
  replace hc4 : NC 0 c4 := NC.same hc4 rfl
  replace hB := hB.more hg
  clear hg
  refine hK.out _ _ ⟨(hB.get 1 (x := ⟨g1_3, (kc (digs (39382357235489614581723060781553021112529911719440698176882885853963445705823 : Int) 32)), 23⟩) rfl), trivial⟩ (fun _ => ?_)
  clear hK K
  simp only [Act.put, List.setIfInBounds_toArray, List.set_cons_zero, List.set_cons_succ, List.getElem_toArray, List.getElem_cons_zero, List.getElem_cons_succ]
  refine any_one (i := 17) (by kernel_rfl) rfl (fun K hK => ?_)
  refine step_callw (by kernel_rfl) 20 #[.agg (kc (digs ((1 : Nat) : Int) 32))] (by kernel_rfl) ((rFrom_ok 1 (by decide) _).mono ?_)
  rintro r v12_ ⟨c5, rfl, hc5, hg⟩
  refine ⟨_, rfl, ?_⟩
  replace hc5 : NC 1 c5 := NC.same hc5 rfl
  replace hB := hB.more hg
  clear hg
  refine hK.out _ _ ⟨(hB.get 1 (x := ⟨g1_3, (kc (digs (39382357235489614581723060781553021112529911719440698176882885853963445705823 : Int) 32)), 23⟩) rfl), trivial⟩ (fun _ => ?_)
  clear hK K
  simp only [Act.put, List.setIfInBounds_toArray, List.set_cons_zero, List.set_cons_succ, List.getElem_toArray, List.getElem_cons_zero, List.getElem_cons_succ]
  refine any_one (i := 18) (by kernel_rfl) rfl (fun K hK => ?_)
  refine step_callw (by kernel_rfl) 22 #[.agg c4, .agg c5] (by kernel_rfl) ((nsub_nc hc4 hc5 _).mono ?_)
  rintro r v13_ ⟨c6, rfl, hc6, hg⟩
  refine ⟨_, rfl, ?_⟩
  replace hc6 : NC 57896044618658097711785492504343953926634992332820282019728792003956564819948 c6 := NC.same hc6 (by decide)
  replace hB := hB.more hg
  clear hg
  refine hK.out _ _ ⟨(hB.get 1 (x := ⟨g1_3, (kc (digs (39382357235489614581723060781553021112529911719440698176882885853963445705823 : Int) 32)), 23⟩) rfl), trivial⟩ (fun _ => ?_)
  clear hK K
  simp only [Act.put, List.setIfInBounds_toArray, List.set_cons_zero, List.set_cons_succ, List.getElem_toArray, List.getElem_cons_zero, List.getElem_cons_succ]
  refine any_one (i := 19) (by kernel_rfl) rfl (fun K hK => ?_)
  refine step_callw (by kernel_rfl) 26 #[.agg c6] (by kernel_rfl) ((nbytes_nc hc6 _).mono ?_)
  rintro r v14_ ⟨rfl, hg⟩
  refine ⟨_, rfl, ?_⟩
  rw [show (57896044618658097711785492504343953926634992332820282019728792003956564819948 : Int) % pp = 57896044618658097711785492504343953926634992332820282019728792003956564819948 from by decide]
  replace hB := hB.more hg
  clear hg
  refine hK.out _ _ ⟨(hB.get 1 (x := ⟨g1_3, (kc (digs (39382357235489614581723060781553021112529911719440698176882885853963445705823 : Int) 32)), 23⟩) rfl), trivial⟩ (fun _ => ?_)
  clear hK K
  simp only [Act.put, List.setIfInBounds_toArray, List.set_cons_zero, List.set_cons_succ, List.getElem_toArray, List.getElem_cons_zero, List.getElem_cons_succ]
  refine any_take (i := 20) (v := (.bool false)) #[true, true, true, true, true, true, true, true, true, true, true, true, true, true, true, true, true, true, true, true, false, false, false, false, false, false, false, false, false, false, false, false, false, false, false] rfl (by kernel_rfl) (by kernel_rfl) (by kernel_rfl) (by kernel_rfl) (fun _ _ _ h => h) (.inl ⟨by kernel_rfl, fun x_ hu => by have e := key_diff (n := 39382357235489614581723060781553021112529911719440698176882885853963445705823) (m := 57896044618658097711785492504343953926634992332820282019728792003956564819948) (by omega) (by omega) (by decide); go_simp⟩) ⟨(hB.get 1 (x := ⟨g1_3, (kc (digs (39382357235489614581723060781553021112529911719440698176882885853963445705823 : Int) 32)), 23⟩) rfl), trivial⟩ ?_
  simp only [Act.put, List.setIfInBounds_toArray, List.set_cons_zero, List.set_cons_succ, List.getElem_toArray, List.getElem_cons_zero, List.getElem_cons_succ]
  refine any_take (i := 21) (v := (.bool false)) #[true, true, true, true, true, true, true, true, true, true, true, true, true, true, true, true, true, true, true, true, true, false, false, false, false, false, false, false, false, false, false, false, false, false, false] rfl (by kernel_rfl) (by kernel_rfl) (by kernel_rfl) (by kernel_rfl) (fun _ _ _ h => h) (.inl ⟨by kernel_rfl, fun x_ hu => by kernel_rfl⟩) ⟨(hB.get 1 (x := ⟨g1_3, (kc (digs (39382357235489614581723060781553021112529911719440698176882885853963445705823 : Int) 32)), 23⟩) rfl), trivial⟩ ?_
  simp only [Act.put, List.setIfInBounds_toArray, List.set_cons_zero, List.set_cons_succ, List.getElem_toArray, List.getElem_cons_zero, List.getElem_cons_succ]
  refine any_take (i := 22) (v := (.bool false)) #[true, true, true, true, true, true, true, true, true, true, true, true, true, true, true, true, true, true, true, true, true, true, false, false, false, false, false, false, false, false, false, false, false, false, false] rfl (by kernel_rfl) (by kernel_rfl) (by kernel_rfl) (by kernel_rfl) (fun _ _ _ h => h) (.inl ⟨by kernel_rfl, fun x_ hu => by kernel_rfl⟩) ⟨(hB.get 1 (x := ⟨g1_3, (kc (digs (39382357235489614581723060781553021112529911719440698176882885853963445705823 : Int) 32)), 23⟩) rfl), trivial⟩ ?_
  simp only [Act.put, List.setIfInBounds_toArray, List.set_cons_zero, List.set_cons_succ, List.getElem_toArray, List.getElem_cons_zero, List.getElem_cons_succ]
  refine any_take (i := 23) (v := (.agg (kc (digs (39382357235489614581723060781553021112529911719440698176882885853963445705823 : Int) 32)))) #[true, true, true, true, true, true, true, true, true, true, true, true, true, true, true, true, true, true, true, true, true, true, true, false, false, false, false, false, false, false, false, false, false, false, false] rfl (by kernel_rfl) (by kernel_rfl) (by kernel_rfl) (by kernel_rfl) (fun _ _ _ h => h) (.inl ⟨by kernel_rfl, fun x_ hu => exec_arr x_ 23 (.tmp 3) rfl g1_3 (by kernel_rfl) (kc (digs (39382357235489614581723060781553021112529911719440698176882885853963445705823 : Int) 32)) 23 _ hu.1 Try.underlying23 rfl (by rw [Try.infoKey, kc32])⟩) ⟨(hB.get 1 (x := ⟨g1_3, (kc (digs (39382357235489614581723060781553021112529911719440698176882885853963445705823 : Int) 32)), 23⟩) rfl), trivial⟩ ?_
  simp only [Act.put, List.setIfInBounds_toArray, List.set_cons_zero, List.set_cons_succ, List.getElem_toArray, List.getElem_cons_zero, List.getElem_cons_succ]
  refine any_one (i := 24) (by kernel_rfl) rfl (fun K hK => ?_)
  refine step_callw (by kernel_rfl) 28 #[.string s8] (by kernel_rfl) ((dig8_ok _).mono ?_)
  rintro r v15_ ⟨c7, rfl, hc7, hg⟩
  refine ⟨_, rfl, ?_⟩
  replace hB := hB.more hg
  clear hg
  refine hK.out _ _ ⟨(hB.get 1 (x := ⟨g1_3, (kc (digs (39382357235489614581723060781553021112529911719440698176882885853963445705823 : Int) 32)), 23⟩) rfl), trivial⟩ (fun _ => ?_)
  clear hK K
  simp only [Act.put, List.setIfInBounds_toArray, List.set_cons_zero, List.set_cons_succ, List.getElem_toArray, List.getElem_cons_zero, List.getElem_cons_succ]
  refine any_one (i := 25) (by kernel_rfl) rfl (fun K hK => ?_)
  refine step_callw (by kernel_rfl) 26 #[.agg c7] (by kernel_rfl) ((nbytes_nc hc7 _).mono ?_)
  rintro r v16_ ⟨rfl, hg⟩
  refine ⟨_, rfl, ?_⟩
  rw [show (325606250916557431795983626356110631294008115727848805560023387167927233504 : Int) % pp = 325606250916557431795983626356110631294008115727848805560023387167927233504 from by decide]
  replace hB := hB.more hg
  clear hg
  refine hK.out _ _ ⟨(hB.get 1 (x := ⟨g1_3, (kc (digs (39382357235489614581723060781553021112529911719440698176882885853963445705823 : Int) 32)), 23⟩) rfl), trivial⟩ (fun _ => ?_)
  clear hK K
  simp only [Act.put, List.setIfInBounds_toArray, List.set_cons_zero, List.set_cons_succ, List.getElem_toArray, List.getElem_cons_zero, List.getElem_cons_succ]
  refine any_take (i := 26) (v := (.bool false)) #[true, true, true, true, true, true, true, true, true, true, true, true, true, true, true, true, true, true, true, true, true, true, true, true, true, true, false, false, false, false, false, false, false, false, false] rfl (by kernel_rfl) (by kernel_rfl) (by kernel_rfl) (by kernel_rfl) (fun _ _ _ h => h) (.inl ⟨by kernel_rfl, fun x_ hu => by have e := key_diff (n := 39382357235489614581723060781553021112529911719440698176882885853963445705823) (m := 325606250916557431795983626356110631294008115727848805560023387167927233504) (by omega) (by omega) (by decide); go_simp⟩) ⟨(hB.get 1 (x := ⟨g1_3, (kc (digs (39382357235489614581723060781553021112529911719440698176882885853963445705823 : Int) 32)), 23⟩) rfl), trivial⟩ ?_
  simp only [Act.put, List.setIfInBounds_toArray, List.set_cons_zero, List.set_cons_succ, List.getElem_toArray, List.getElem_cons_zero, List.getElem_cons_succ]
  refine any_take (i := 27) (v := (.bool false)) #[true, true, true, true, true, true, true, true, true, true, true, true, true, true, true, true, true, true, true, true, true, true, true, true, true, true, true, false, false, false, false, false, false, false, false] rfl (by kernel_rfl) (by kernel_rfl) (by kernel_rfl) (by kernel_rfl) (fun _ _ _ h => h) (.inl ⟨by kernel_rfl, fun x_ hu => by kernel_rfl⟩) ⟨(hB.get 1 (x := ⟨g1_3, (kc (digs (39382357235489614581723060781553021112529911719440698176882885853963445705823 : Int) 32)), 23⟩) rfl), trivial⟩ ?_
  simp only [Act.put, List.setIfInBounds_toArray, List.set_cons_zero, List.set_cons_succ, List.getElem_toArray, List.getElem_cons_zero, List.getElem_cons_succ]
  refine any_take (i := 28) (v := (.bool false)) #[true, true, true, true, true, true, true, true, true, true, true, true, true, true, true, true, true, true, true, true, true, true, true, true, true, true, true, true, false, false, false, false, false, false, false] rfl (by kernel_rfl) (by kernel_rfl) (by kernel_rfl) (by kernel_rfl) (fun _ _ _ h => h) (.inl ⟨by kernel_rfl, fun x_ hu => by kernel_rfl⟩) ⟨(hB.get 1 (x := ⟨g1_3, (kc (digs (39382357235489614581723060781553021112529911719440698176882885853963445705823 : Int) 32)), 23⟩) rfl), trivial⟩ ?_
  simp only [Act.put, List.setIfInBounds_toArray, List.set_cons_zero, List.set_cons_succ, List.getElem_toArray, List.getElem_cons_zero, List.getElem_cons_succ]
  refine any_take (i := 29) (v := (.agg (kc (digs (39382357235489614581723060781553021112529911719440698176882885853963445705823 : Int) 32)))) #[true, true, true, true, true, true, true, true, true, true, true, true, true, true, true, true, true, true, true, true, true, true, true, true, true, true, true, true, true, false, false, false, false, false, false] rfl (by kernel_rfl) (by kernel_rfl) (by kernel_rfl) (by kernel_rfl) (fun _ _ _ h => h) (.inl ⟨by kernel_rfl, fun x_ hu => exec_arr x_ 23 (.tmp 3) rfl g1_3 (by kernel_rfl) (kc (digs (39382357235489614581723060781553021112529911719440698176882885853963445705823 : Int) 32)) 23 _ hu.1 Try.underlying23 rfl (by rw [Try.infoKey, kc32])⟩) ⟨(hB.get 1 (x := ⟨g1_3, (kc (digs (39382357235489614581723060781553021112529911719440698176882885853963445705823 : Int) 32)), 23⟩) rfl), trivial⟩ ?_
  simp only [Act.put, List.setIfInBounds_toArray, List.set_cons_zero, List.set_cons_succ, List.getElem_toArray, List.getElem_cons_zero, List.getElem_cons_succ]
  refine any_one (i := 30) (by kernel_rfl) rfl (fun K hK => ?_)
  refine step_callw (by kernel_rfl) 28 #[.string s9] (by kernel_rfl) ((dig9_ok _).mono ?_)
  rintro r v17_ ⟨c8, rfl, hc8, hg⟩
  refine ⟨_, rfl, ?_⟩
  replace hB := hB.more hg
  clear hg
  refine hK.out _ _ ⟨(hB.get 1 (x := ⟨g1_3, (kc (digs (39382357235489614581723060781553021112529911719440698176882885853963445705823 : Int) 32)), 23⟩) rfl), trivial⟩ (fun _ => ?_)
  clear hK K
  simp only [Act.put, List.setIfInBounds_toArray, List.set_cons_zero, List.set_cons_succ, List.getElem_toArray, List.getElem_cons_zero, List.getElem_cons_succ]
  refine any_one (i := 31) (by kernel_rfl) rfl (fun K hK => ?_)
  refine step_callw (by kernel_rfl) 26 #[.agg c8] (by kernel_rfl) ((nbytes_nc hc8 _).mono ?_)
  rintro r v18_ ⟨rfl, hg⟩
  refine ⟨_, rfl, ?_⟩
  rw [show (39382357235489614581723060781553021112529911719440698176882885853963445705823 : Int) % pp = 39382357235489614581723060781553021112529911719440698176882885853963445705823 from by decide]
  replace hB := hB.more hg
  clear hg
  refine hK.out _ _ ⟨(hB.get 1 (x := ⟨g1_3, (kc (digs (39382357235489614581723060781553021112529911719440698176882885853963445705823 : Int) 32)), 23⟩) rfl), trivial⟩ (fun _ => ?_)
  clear hK K
  simp only [Act.put, List.setIfInBounds_toArray, List.set_cons_zero, List.set_cons_succ, List.getElem_toArray, List.getElem_cons_zero, List.getElem_cons_succ]
  refine any_take (i := 32) (v := (.bool true)) #[true, true, true, true, true, true, true, true, true, true, true, true, true, true, true, true, true, true, true, true, true, true, true, true, true, true, true, true, true, true, true, true, false, false, false] rfl (by kernel_rfl) (by kernel_rfl) (by kernel_rfl) (by kernel_rfl) (fun _ _ _ h => h) (.inl ⟨by kernel_rfl, fun x_ hu => by have e := key_same (39382357235489614581723060781553021112529911719440698176882885853963445705823 : Int); go_simp⟩) ⟨(hB.get 1 (x := ⟨g1_3, (kc (digs (39382357235489614581723060781553021112529911719440698176882885853963445705823 : Int) 32)), 23⟩) rfl), trivial⟩ ?_
  simp only [Act.put, List.setIfInBounds_toArray, List.set_cons_zero, List.set_cons_succ, List.getElem_toArray, List.getElem_cons_zero, List.getElem_cons_succ]
  refine any_take (i := 33) (v := (.bool true)) #[true, true, true, true, true, true, true, true, true, true, true, true, true, true, true, true, true, true, true, true, true, true, true, true, true, true, true, true, true, true, true, true, true, false, false] rfl (by kernel_rfl) (by kernel_rfl) (by kernel_rfl) (by kernel_rfl) (fun _ _ _ h => h) (.inl ⟨by kernel_rfl, fun x_ hu => by kernel_rfl⟩) ⟨(hB.get 1 (x := ⟨g1_3, (kc (digs (39382357235489614581723060781553021112529911719440698176882885853963445705823 : Int) 32)), 23⟩) rfl), trivial⟩ ?_
  simp only [Act.put, List.setIfInBounds_toArray, List.set_cons_zero, List.set_cons_succ, List.getElem_toArray, List.getElem_cons_zero, List.getElem_cons_succ]
  refine any_one (i := 34) (by kernel_rfl) rfl (fun K hK => ?_)
  replace hK := hide hK
  go_simp
  refine (unhide hK).out _ _ ⟨(hB.get 1 (x := ⟨g1_3, (kc (digs (39382357235489614581723060781553021112529911719440698176882885853963445705823 : Int) 32)), 23⟩) rfl), trivial⟩ (fun _ => ?_)
  clear hK K
  refine any_done (by kernel_rfl) ?_
  have hG := hide hB.gr
  clear hB
  go_wp2_with fail
  refine bodyPost_ret (v := .bool true) ?_ rfl ⟨rfl, unhide hG⟩
  simp [results, Try.results11, go_sem]

set_option maxHeartbeats 2000000 in
theorem rlow_5 (U : Nat) (hU : U < 115792089237316195423570985008687907853269984665640564039457584007913129639936) (V : Int) (hV : (U : Int) % 57896044618658097711785492504343953926634992332820282019728792003956564819968 % pp = V) (hVr : 0 ≤ V ∧ V < 115792089237316195423570985008687907853269984665640564039457584007913129639936) (hn0 : Hid (V ≠ 0)) (hn1 : Hid (V ≠ 1)) (hn2 : Hid (V ≠ 57896044618658097711785492504343953926634992332820282019728792003956564819948)) (hn3 : Hid (V ≠ 325606250916557431795983626356110631294008115727848805560023387167927233504)) (hn4 : Hid (V ≠ 39382357235489614581723060781553021112529911719440698176882885853963445705823)) (w : World) :
    Calls Try.prog 11 #[.agg (kc (digs (U : Int) 32))] w (fun r w' => r = .returned (.bool false) ∧ Gr w w') := by
  replace hU := hide hU
  replace hV := hide hV
  go_enter Try.func11, Try.ntmps11
  go_upto_region 1 with fail
  have hB := (Bl.nil w).new (kc (digs (U : Int) 32)) 23
  simp only [List.nil_append] at hB
  generalize World.alloc _ _ = v1_ at *
  refine wp_region_lit ?_
  refine list_val (.agg (kc (digs (U : Int) 32))) (by kernel_rfl) (exec_arr _ 23 (.tmp 1) rfl w.heap.size (by kernel_rfl) (kc (digs (U : Int) 32)) 23 _ (hB.get 0 (x := ⟨w.heap.size, (kc (digs (U : Int) 32)), 23⟩) rfl) Try.underlying23 rfl (by rw [Try.infoKey, kc32])) ?_
  simp only [Act.put, List.setIfInBounds_toArray, List.set_cons_zero, List.set_cons_succ, List.getElem_toArray, List.getElem_cons_zero, List.getElem_cons_succ]
  refine list_call 20 #[.agg (kc (digs (U : Int) 32))] (by kernel_rfl) (by kernel_rfl) ((rFrom_ok U (unhide hU) _).mono ?_)
  rintro r v2_ ⟨c1, rfl, hc1, hg⟩
  refine ⟨_, rfl, ?_⟩
  replace hB := hB.more hg
  clear hg
  simp only [Act.put, List.setIfInBounds_toArray, List.set_cons_zero, List.set_cons_succ, List.getElem_toArray, List.getElem_cons_zero, List.getElem_cons_succ]
  refine list_call 26 #[.agg c1] (by kernel_rfl) (by kernel_rfl) ((nbytes_nc hc1 _).mono ?_)
  rintro r v3_ ⟨rfl, hg⟩
  refine ⟨_, rfl, ?_⟩
  rw [unhide hV]
  replace hB := hB.more hg
  clear hg
  simp only [Act.put, List.setIfInBounds_toArray, List.set_cons_zero, List.set_cons_succ, List.getElem_toArray, List.getElem_cons_zero, List.getElem_cons_succ]
  refine wpList_step fun K hK => ?_
  replace hK := hide hK
  go_simp
  refine unhide hK _ _ ?_
  clear hK K
  replace hB := hB.new #[.int .u8 0, .int .u8 0, .int .u8 0, .int .u8 0, .int .u8 0, .int .u8 0, .int .u8 0, .int .u8 0, .int .u8 0, .int .u8 0, .int .u8 0, .int .u8 0, .int .u8 0, .int .u8 0, .int .u8 0, .int .u8 0, .int .u8 0, .int .u8 0, .int .u8 0, .int .u8 0, .int .u8 0, .int .u8 0, .int .u8 0, .int .u8 0, .int .u8 0, .int .u8 0, .int .u8 0, .int .u8 0, .int .u8 0, .int .u8 0, .int .u8 0, .int .u8 0] 23
  simp only [List.cons_append, List.nil_append] at hB
  generalize v3_.heap.size = g1_3 at *
  generalize World.alloc _ _ = v4_ at *
  replace hB : Bl w [⟨w.heap.size, (kc (digs (U : Int) 32)), 23⟩, ⟨g1_3, Z32, 23⟩] v4_ := hB
  refine list_store 23 (.tmp 3) (.tmp 6) g1_3 (kc (digs (V : Int) 32)) 23 Z32 (by kernel_rfl) rfl (by kernel_rfl) (by kernel_rfl) (hB.get 1 (x := ⟨g1_3, Z32, 23⟩) rfl) (by rw [Try.infoKey, kc32]) (Z32_size.trans (kc32 (V : Int) 32).symm) (kc_one _) ?_
  replace hB := hB.set 1 (x := ⟨g1_3, Z32, 23⟩) rfl (kc (digs (V : Int) 32))
  simp only [List.set_cons_zero, List.set_cons_succ] at hB
  generalize World.setRow _ _ _ = v5_ at *
  simp only [Act.put, List.setIfInBounds_toArray, List.set_cons_zero, List.set_cons_succ, List.getElem_toArray, List.getElem_cons_zero, List.getElem_cons_succ]
  refine wpList_nil ?_
  go_upto_region 2 with fail
  refine any_start (S := fun v => v.heap[g1_3]? = some (.cells (kc (digs (V : Int) 32)) 23 (0, 0)) ∧ True) (by kernel_rfl) ?_
  replace hB := hB.drew
  generalize World.drew _ = v6_ at *
  simp only [List.size_toArray, List.length_cons, List.length_nil, Array.replicate, List.replicate]
  refine any_take (i := 0) (v := (.agg (kc (digs (V : Int) 32)))) #[false, false, false, false, false, false, false, false, false, false, false, false, false, false, false, false, false, false, false, false, false, false, false, false, false, false, false, false, false, false, false, false, false, false, false] rfl (by kernel_rfl) (by kernel_rfl) (by kernel_rfl) (by kernel_rfl) (fun _ _ _ h => h) (.inl ⟨by kernel_rfl, fun x_ hu => exec_arr x_ 23 (.tmp 3) rfl g1_3 (by kernel_rfl) (kc (digs (V : Int) 32)) 23 _ hu.1 Try.underlying23 rfl (by rw [Try.infoKey, kc32])⟩) ⟨(hB.get 1 (x := ⟨g1_3, (kc (digs (V : Int) 32)), 23⟩) rfl), trivial⟩ ?_
  simp only [Act.put, List.setIfInBounds_toArray, List.set_cons_zero, List.set_cons_succ, List.getElem_toArray, List.getElem_cons_zero, List.getElem_cons_succ]
  refine any_take (i := 1) (v := (.agg (kc (digs ((0 : Nat) : Int) 32)))) #[true, false, false, false, false, false, false, false, false, false, false, false, false, false, false, false, false, false, false, false, false, false, false, false, false, false, false, false, false, false, false, false, false, false, false] rfl (by kernel_rfl) (by kernel_rfl) (by kernel_rfl) (by kernel_rfl) (fun _ _ _ h => h) (.inl ⟨by kernel_rfl, fun x_ hu => by kernel_rfl⟩) ⟨(hB.get 1 (x := ⟨g1_3, (kc (digs (V : Int) 32)), 23⟩) rfl), trivial⟩ ?_
  simp only [Act.put, List.setIfInBounds_toArray, List.set_cons_zero, List.set_cons_succ, List.getElem_toArray, List.getElem_cons_zero, List.getElem_cons_succ]
  refine any_one (i := 2) (by kernel_rfl) rfl (fun K hK => ?_)
  refine step_callw (by kernel_rfl) 20 #[.agg (kc (digs ((0 : Nat) : Int) 32))] (by kernel_rfl) ((rFrom_ok 0 (by decide) _).mono ?_)
  rintro r v7_ ⟨c2, rfl, hc2, hg⟩
  refine ⟨_, rfl, ?_⟩
  replace hc2 : NC 0 c2 := NC.same hc2 rfl
  replace hB := hB.more hg
  clear hg
  refine hK.out _ _ ⟨(hB.get 1 (x := ⟨g1_3, (kc (digs (V : Int) 32)), 23⟩) rfl), trivial⟩ (fun _ => ?_)
  clear hK K
  simp only [Act.put, List.setIfInBounds_toArray, List.set_cons_zero, List.set_cons_succ, List.getElem_toArray, List.getElem_cons_zero, List.getElem_cons_succ]
  refine any_one (i := 3) (by kernel_rfl) rfl (fun K hK => ?_)
  refine step_callw (by kernel_rfl) 26 #[.agg c2] (by kernel_rfl) ((nbytes_nc hc2 _).mono ?_)
  rintro r v8_ ⟨rfl, hg⟩
  refine ⟨_, rfl, ?_⟩
  rw [show (0 : Int) % pp = 0 from by decide]
  replace hB := hB.more hg
  clear hg
  refine hK.out _ _ ⟨(hB.get 1 (x := ⟨g1_3, (kc (digs (V : Int) 32)), 23⟩) rfl), trivial⟩ (fun _ => ?_)
  clear hK K
  simp only [Act.put, List.setIfInBounds_toArray, List.set_cons_zero, List.set_cons_succ, List.getElem_toArray, List.getElem_cons_zero, List.getElem_cons_succ]
  refine any_take (i := 4) (v := (.bool false)) #[true, true, true, true, false, false, false, false, false, false, false, false, false, false, false, false, false, false, false, false, false, false, false, false, false, false, false, false, false, false, false, false, false, false, false] rfl (by kernel_rfl) (by kernel_rfl) (by kernel_rfl) (by kernel_rfl) (fun _ _ _ h => h) (.inl ⟨by kernel_rfl, fun x_ hu => by have e := key_diff (n := V) (m := 0) hVr (by omega) (unhide hn0); go_simp⟩) ⟨(hB.get 1 (x := ⟨g1_3, (kc (digs (V : Int) 32)), 23⟩) rfl), trivial⟩ ?_
  simp only [Act.put, List.setIfInBounds_toArray, List.set_cons_zero, List.set_cons_succ, List.getElem_toArray, List.getElem_cons_zero, List.getElem_cons_succ]
  refine any_take (i := 5) (v := (.bool false)) #[true, true, true, true, true, false, false, false, false, false, false, false, false, false, false, false, false, false, false, false, false, false, false, false, false, false, false, false, false, false, false, false, false, false, false] rfl (by kernel_rfl) (by kernel_rfl) (by kernel_rfl) (by kernel_rfl) (fun _ _ _ h => h) (.inl ⟨by kernel_rfl, fun x_ hu => by kernel_rfl⟩) ⟨(hB.get 1 (x := ⟨g1_3, (kc (digs (V : Int) 32)), 23⟩) rfl), trivial⟩ ?_
  simp only [Act.put, List.setIfInBounds_toArray, List.set_cons_zero, List.set_cons_succ, List.getElem_toArray, List.getElem_cons_zero, List.getElem_cons_succ]
  refine any_take (i := 6) (v := (.agg (kc (digs (V : Int) 32)))) #[true, true, true, true, true, true, false, false, false, false, false, false, false, false, false, false, false, false, false, false, false, false, false, false, false, false, false, false, false, false, false, false, false, false, false] rfl (by kernel_rfl) (by kernel_rfl) (by kernel_rfl) (by kernel_rfl) (fun _ _ _ h => h) (.inl ⟨by kernel_rfl, fun x_ hu => exec_arr x_ 23 (.tmp 3) rfl g1_3 (by kernel_rfl) (kc (digs (V : Int) 32)) 23 _ hu.1 Try.underlying23 rfl (by rw [Try.infoKey, kc32])⟩) ⟨(hB.get 1 (x := ⟨g1_3, (kc (digs (V : Int) 32)), 23⟩) rfl), trivial⟩ ?_
  simp only [Act.put, List.setIfInBounds_toArray, List.set_cons_zero, List.set_cons_succ, List.getElem_toArray, List.getElem_cons_zero, List.getElem_cons_succ]
  refine any_take (i := 7) (v := (.agg (kc (digs ((1 : Nat) : Int) 32)))) #[true, true, true, true, true, true, true, false, false, false, false, false, false, false, false, false, false, false, false, false, false, false, false, false, false, false, false, false, false, false, false, false, false, false, false] rfl (by kernel_rfl) (by kernel_rfl) (by kernel_rfl) (by kernel_rfl) (fun _ _ _ h => h) (.inl ⟨by kernel_rfl, fun x_ hu => by kernel_rfl⟩) ⟨(hB.get 1 (x := ⟨g1_3, (kc (digs (V : Int) 32)), 23⟩) rfl), trivial⟩ ?_
  simp only [Act.put, List.setIfInBounds_toArray, List.set_cons_zero, List.set_cons_succ, List.getElem_toArray, List.getElem_cons_zero, List.getElem_cons_succ]
  refine any_one (i := 8) (by kernel_rfl) rfl (fun K hK => ?_)
  refine step_callw (by kernel_rfl) 20 #[.agg (kc (digs ((1 : Nat) : Int) 32))] (by kernel_rfl) ((rFrom_ok 1 (by decide) _).mono ?_)
  rintro r v9_ ⟨c3, rfl, hc3, hg⟩
  refine ⟨_, rfl, ?_⟩
  replace hc3 : NC 1 c3 := NC.same hc3 rfl
  replace hB := hB.more hg
  clear hg
  refine hK.out _ _ ⟨(hB.get 1 (x := ⟨g1_3, (kc (digs (V : Int) 32)), 23⟩) rfl), trivial⟩ (fun _ => ?_)
  clear hK K
  simp only [Act.put, List.setIfInBounds_toArray, List.set_cons_zero, List.set_cons_succ, List.getElem_toArray, List.getElem_cons_zero, List.getElem_cons_succ]
  refine any_one (i := 9) (by kernel_rfl) rfl (fun K hK => ?_)
  refine step_callw (by kernel_rfl) 26 #[.agg c3] (by kernel_rfl) ((nbytes_nc hc3 _).mono ?_)
  rintro r v10_ ⟨rfl, hg⟩
  refine ⟨_, rfl, ?_⟩
  rw [show (1 : Int) % pp = 1 from by decide]
  replace hB := hB.more hg
  clear hg
  refine hK.out _ _ ⟨(hB.get 1 (x := ⟨g1_3, (kc (digs (V : Int) 32)), 23⟩) rfl), trivial⟩ (fun _ => ?_)
  clear hK K
  simp only [Act.put, List.setIfInBounds_toArray, List.set_cons_zero, List.set_cons_succ, List.getElem_toArray, List.getElem_cons_zero, List.getElem_cons_succ]
  refine any_take (i := 10) (v := (.bool false)) #[true, true, true, true, true, true, true, true, true, true, false, false, false, false, false, false, false, false, false, false, false, false, false, false, false, false, false, false, false, false, false, false, false, false, false] rfl (by kernel_rfl) (by kernel_rfl) (by kernel_rfl) (by kernel_rfl) (fun _ _ _ h => h) (.inl ⟨by kernel_rfl, fun x_ hu => by have e := key_diff (n := V) (m := 1) hVr (by omega) (unhide hn1); go_simp⟩) ⟨(hB.get 1 (x := ⟨g1_3, (kc (digs (V : Int) 32)), 23⟩) rfl), trivial⟩ ?_
  simp only [Act.put, List.setIfInBounds_toArray, List.set_cons_zero, List.set_cons_succ, List.getElem_toArray, List.getElem_cons_zero, List.getElem_cons_succ]
  refine any_take (i := 11) (v := (.bool false)) #[true, true, true, true, true, true, true, true, true, true, true, false, false, false, false, false, false, false, false, false, false, false, false, false, false, false, false, false, false, false, false, false, false, false, false] rfl (by kernel_rfl) (by kernel_rfl) (by kernel_rfl) (by kernel_rfl) (fun _ _ _ h => h) (.inl ⟨by kernel_rfl, fun x_ hu => by kernel_rfl⟩) ⟨(hB.get 1 (x := ⟨g1_3, (kc (digs (V : Int) 32)), 23⟩) rfl), trivial⟩ ?_
  simp only [Act.put, List.setIfInBounds_toArray, List.set_cons_zero, List.set_cons_succ, List.getElem_toArray, List.getElem_cons_zero, List.getElem_cons_succ]
  refine any_take (i := 12) (v := (.bool false)) #[true, true, true, true, true, true, true, true, true, true, true, true, false, false, false, false, false, false, false, false, false, false, false, false, false, false, false, false, false, false, false, false, false, false, false] rfl (by kernel_rfl) (by kernel_rfl) (by kernel_rfl) (by kernel_rfl) (fun _ _ _ h => h) (.inl ⟨by kernel_rfl, fun x_ hu => by kernel_rfl⟩) ⟨(hB.get 1 (x := ⟨g1_3, (kc (digs (V : Int) 32)), 23⟩) rfl), trivial⟩ ?_
  simp only [Act.put, List.setIfInBounds_toArray, List.set_cons_zero, List.set_cons_succ, List.getElem_toArray, List.getElem_cons_zero, List.getElem_cons_succ]
  refine any_take (i := 13) (v := (.agg (kc (digs (V : Int) 32)))) #[true, true, true, true, true, true, true, true, true, true, true, true, true, false, false, false, false, false, false, false, false, false, false, false, false, false, false, false, false, false, false, false, false, false, false] rfl (by kernel_rfl) (by kernel_rfl) (by kernel_rfl) (by kernel_rfl) (fun _ _ _ h => h) (.inl ⟨by kernel_rfl, fun x_ hu => exec_arr x_ 23 (.tmp 3) rfl g1_3 (by kernel_rfl) (kc (digs (V : Int) 32)) 23 _ hu.1 Try.underlying23 rfl (by rw [Try.infoKey, kc32])⟩) ⟨(hB.get 1 (x := ⟨g1_3, (kc (digs (V : Int) 32)), 23⟩) rfl), trivial⟩ ?_
  simp only [Act.put, List.setIfInBounds_toArray, List.set_cons_zero, List.set_cons_succ, List.getElem_toArray, List.getElem_cons_zero, List.getElem_cons_succ]
  refine any_take (i := 14) (v := (.agg (kc (digs ((0 : Nat) : Int) 32)))) #[true, true, true, true, true, true, true, true, true, true, true, true, true, true, false, false, false, false, false, false, false, false, false, false, false, false, false, false, false, false, false, false, false, false, false] rfl (by kernel_rfl) (by kernel_rfl) (by kernel_rfl) (by kernel_rfl) (fun _ _ _ h => h) (.inl ⟨by kernel_rfl, fun x_ hu => by kernel_rfl⟩) ⟨(hB.get 1 (x := ⟨g1_3, (kc (digs (V : Int) 32)), 23⟩) rfl), trivial⟩ ?_
  simp only [Act.put, List.setIfInBounds_toArray, List.set_cons_zero, List.set_cons_succ, List.getElem_toArray, List.getElem_cons_zero, List.getElem_cons_succ]
  refine any_take (i := 16) (v := (.agg (kc (digs ((1 : Nat) : Int) 32)))) #[true, true, true, true, true, true, true, true, true, true, true, true, true, true, true, false, false, false, false, false, false, false, false, false, false, false, false, false, false, false, false, false, false, false, false] rfl (by kernel_rfl) (by kernel_rfl) (by kernel_rfl) (by kernel_rfl) (fun _ _ _ h => h) (.inl ⟨by kernel_rfl, fun x_ hu => by kernel_rfl⟩) ⟨(hB.get 1 (x := ⟨g1_3, (kc (digs (V : Int) 32)), 23⟩) rfl), trivial⟩ ?_
  simp only [Act.put, List.setIfInBounds_toArray, List.set_cons_zero, List.set_cons_succ, List.getElem_toArray, List.getElem_cons_zero, List.getElem_cons_succ]
  refine any_one (i := 15) (by kernel_rfl) rfl (fun K hK => ?_)
  refine step_callw (by kernel_rfl) 20 #[.agg (kc (digs ((0 : Nat) : Int) 32))] (by kernel_rfl) ((rFrom_ok 0 (by decide) _).mono ?_)
  rintro r v11_ ⟨c4, rfl, hc4, hg⟩
  refine ⟨_, rfl, ?_⟩
  replace hc4 : NC 0 c4 := NC.same hc4 rfl
  replace hB := hB.more hg
  clear hg
  refine hK.out _ _ ⟨(hB.get 1 (x := ⟨g1_3, (kc (digs (V : Int) 32)), 23⟩) rfl), trivial⟩ (fun _ => ?_)
  clear hK K
  simp only [Act.put, List.setIfInBounds_toArray, List.set_cons_zero, List.set_cons_succ, List.getElem_toArray, List.getElem_cons_zero, List.getElem_cons_succ]
  refine any_one (i := 17) (by kernel_rfl) rfl (fun K hK => ?_)
  refine step_callw (by kernel_rfl) 20 #[.agg (kc (digs ((1 : Nat) : Int) 32))] (by kernel_rfl) ((rFrom_ok 1 (by decide) _).mono ?_)
  rintro r v12_ ⟨c5, rfl, hc5, hg⟩
  refine ⟨_, rfl, ?_⟩
  replace hc5 : NC 1 c5 := NC.same hc5 rfl
  replace hB := hB.more hg
  clear hg
  refine hK.out _ _ ⟨(hB.get 1 (x := ⟨g1_3, (kc (digs (V : Int) 32)), 23⟩) rfl), trivial⟩ (fun _ => ?_)
  clear hK K
  simp only [Act.put, List.setIfInBounds_toArray, List.set_cons_zero, List.set_cons_succ, List.getElem_toArray, List.getElem_cons_zero, List.getElem_cons_succ]
  refine any_one (i := 18) (by kernel_rfl) rfl (fun K hK => ?_)
  refine step_callw (by kernel_rfl) 22 #[.agg c4, .agg c5] (by kernel_rfl) ((nsub_nc hc4 hc5 _).mono ?_)
  rintro r v13_ ⟨c6, rfl, hc6, hg⟩
  refine ⟨_, rfl, ?_⟩
  replace hc6 : NC 57896044618658097711785492504343953926634992332820282019728792003956564819948 c6 := NC.same hc6 (by decide)
  replace hB := hB.more hg
  clear hg
  refine hK.out _ _ ⟨(hB.get 1 (x := ⟨g1_3, (kc (digs (V : Int) 32)), 23⟩) rfl), trivial⟩ (fun _ => ?_)
  clear hK K
  simp only [Act.put, List.setIfInBounds_toArray, List.set_cons_zero, List.set_cons_succ, List.getElem_toArray, List.getElem_cons_zero, List.getElem_cons_succ]
  refine any_one (i := 19) (by kernel_rfl) rfl (fun K hK => ?_)
  refine step_callw (by kernel_rfl) 26 #[.agg c6] (by kernel_rfl) ((nbytes_nc hc6 _).mono ?_)
  rintro r v14_ ⟨rfl, hg⟩
  refine ⟨_, rfl, ?_⟩
  rw [show (57896044618658097711785492504343953926634992332820282019728792003956564819948 : Int) % pp = 57896044618658097711785492504343953926634992332820282019728792003956564819948 from by decide]
  replace hB := hB.more hg
  clear hg
  refine hK.out _ _ ⟨(hB.get 1 (x := ⟨g1_3, (kc (digs (V : Int) 32)), 23⟩) rfl), trivial⟩ (fun _ => ?_)
  clear hK K
  simp only [Act.put, List.setIfInBounds_toArray, List.set_cons_zero, List.set_cons_succ, List.getElem_toArray, List.getElem_cons_zero, List.getElem_cons_succ]
  refine any_take (i := 20) (v := (.bool false)) #[true, true, true, true, true, true, true, true, true, true, true, true, true, true, true, true, true, true, true, true, false, false, false, false, false, false, false, false, false, false, false, false, false, false, false] rfl (by kernel_rfl) (by kernel_rfl) (by kernel_rfl) (by kernel_rfl) (fun _ _ _ h => h) (.inl ⟨by kernel_rfl, fun x_ hu => by have e := key_diff (n := V) (m := 57896044618658097711785492504343953926634992332820282019728792003956564819948) hVr (by omega) (unhide hn2); go_simp⟩) ⟨(hB.get 1 (x := ⟨g1_3, (kc (digs (V : Int) 32)), 23⟩) rfl), trivial⟩ ?_
  simp only [Act.put, List.setIfInBounds_toArray, List.set_cons_zero, List.set_cons_succ, List.getElem_toArray, List.getElem_cons_zero, List.getElem_cons_succ]
  refine any_take (i := 21) (v := (.bool false)) #[true, true, true, true, true, true, true, true, true, true, true, true, true, true, true, true, true, true, true, true, true, false, false, false, false, false, false, false, false, false, false, false, false, false, false] rfl (by kernel_rfl) (by kernel_rfl) (by kernel_rfl) (by kernel_rfl) (fun _ _ _ h => h) (.inl ⟨by kernel_rfl, fun x_ hu => by kernel_rfl⟩) ⟨(hB.get 1 (x := ⟨g1_3, (kc (digs (V : Int) 32)), 23⟩) rfl), trivial⟩ ?_
  simp only [Act.put, List.setIfInBounds_toArray, List.set_cons_zero, List.set_cons_succ, List.getElem_toArray, List.getElem_cons_zero, List.getElem_cons_succ]
  refine any_take (i := 22) (v := (.bool false)) #[true, true, true, true, true, true, true, true, true, true, true, true, true, true, true, true, true, true, true, true, true, true, false, false, false, false, false, false, false, false, false, false, false, false, false] rfl (by kernel_rfl) (by kernel_rfl) (by kernel_rfl) (by kernel_rfl) (fun _ _ _ h => h) (.inl ⟨by kernel_rfl, fun x_ hu => by kernel_rfl⟩) ⟨(hB.get 1 (x := ⟨g1_3, (kc (digs (V : Int) 32)), 23⟩) rfl), trivial⟩ ?_
  simp only [Act.put, List.setIfInBounds_toArray, List.set_cons_zero, List.set_cons_succ, List.getElem_toArray, List.getElem_cons_zero, List.getElem_cons_succ]
  refine any_take (i := 23) (v := (.agg (kc (digs (V : Int) 32)))) #[true, true, true, true, true, true, true, true, true, true, true, true, true, true, true, true, true, true, true, true, true, true, true, false, false, false, false, false, false, false, false, false, false, false, false] rfl (by kernel_rfl) (by kernel_rfl) (by kernel_rfl) (by kernel_rfl) (fun _ _ _ h => h) (.inl ⟨by kernel_rfl, fun x_ hu => exec_arr x_ 23 (.tmp 3) rfl g1_3 (by kernel_rfl) (kc (digs (V : Int) 32)) 23 _ hu.1 Try.underlying23 rfl (by rw [Try.infoKey, kc32])⟩) ⟨(hB.get 1 (x := ⟨g1_3, (kc (digs (V : Int) 32)), 23⟩) rfl), trivial⟩ ?_
  simp only [Act.put, List.setIfInBounds_toArray, List.set_cons_zero, List.set_cons_succ, List.getElem_toArray, List.getElem_cons_zero, List.getElem_cons_succ]
  refine any_one (i := 24) (by kernel_rfl) rfl (fun K hK => ?_)
  refine step_callw (by kernel_rfl) 28 #[.string s8] (by kernel_rfl) ((dig8_ok _).mono ?_)
  rintro r v15_ ⟨c7, rfl, hc7, hg⟩
  refine ⟨_, rfl, ?_⟩
  replace hB := hB.more hg
  clear hg
  refine hK.out _ _ ⟨(hB.get 1 (x := ⟨g1_3, (kc (digs (V : Int) 32)), 23⟩) rfl), trivial⟩ (fun _ => ?_)
  clear hK K
  simp only [Act.put, List.setIfInBounds_toArray, List.set_cons_zero, List.set_cons_succ, List.getElem_toArray, List.getElem_cons_zero, List.getElem_cons_succ]
  refine any_one (i := 25) (by kernel_rfl) rfl (fun K hK => ?_)
  refine step_callw (by kernel_rfl) 26 #[.agg c7] (by kernel_rfl) ((nbytes_nc hc7 _).mono ?_)
  rintro r v16_ ⟨rfl, hg⟩
  refine ⟨_, rfl, ?_⟩
  rw [show (325606250916557431795983626356110631294008115727848805560023387167927233504 : Int) % pp = 325606250916557431795983626356110631294008115727848805560023387167927233504 from by decide]
  replace hB := hB.more hg
  clear hg
  refine hK.out _ _ ⟨(hB.get 1 (x := ⟨g1_3, (kc (digs (V : Int) 32)), 23⟩) rfl), trivial⟩ (fun _ => ?_)
  clear hK K
  simp only [Act.put, List.setIfInBounds_toArray, List.set_cons_zero, List.set_cons_succ, List.getElem_toArray, List.getElem_cons_zero, List.getElem_cons_succ]
  refine any_take (i := 26) (v := (.bool false)) #[true, true, true, true, true, true, true, true, true, true, true, true, true, true, true, true, true, true, true, true, true, true, true, true, true, true, false, false, false, false, false, false, false, false, false] rfl (by kernel_rfl) (by kernel_rfl) (by kernel_rfl) (by kernel_rfl) (fun _ _ _ h => h) (.inl ⟨by kernel_rfl, fun x_ hu => by have e := key_diff (n := V) (m := 325606250916557431795983626356110631294008115727848805560023387167927233504) hVr (by omega) (unhide hn3); go_simp⟩) ⟨(hB.get 1 (x := ⟨g1_3, (kc (digs (V : Int) 32)), 23⟩) rfl), trivial⟩ ?_
  simp only [Act.put, List.setIfInBounds_toArray, List.set_cons_zero, List.set_cons_succ, List.getElem_toArray, List.getElem_cons_zero, List.getElem_cons_succ]
  refine any_take (i := 27) (v := (.bool false)) #[true, true, true, true, true, true, true, true, true, true, true, true, true, true, true, true, true, true, true, true, true, true, true, true, true, true, true, false, false, false, false, false, false, false, false] rfl (by kernel_rfl) (by kernel_rfl) (by kernel_rfl) (by kernel_rfl) (fun _ _ _ h => h) (.inl ⟨by kernel_rfl, fun x_ hu => by kernel_rfl⟩) ⟨(hB.get 1 (x := ⟨g1_3, (kc (digs (V : Int) 32)), 23⟩) rfl), trivial⟩ ?_
  simp only [Act.put, List.setIfInBounds_toArray, List.set_cons_zero, List.set_cons_succ, List.getElem_toArray, List.getElem_cons_zero, List.getElem_cons_succ]
  refine any_take (i := 28) (v := (.bool false)) #[true, true, true, true, true, true, true, true, true, true, true, true, true, true, true, true, true, true, true, true, true, true, true, true, true, true, true, true, false, false, false, false, false, false, false] rfl (by kernel_rfl) (by kernel_rfl) (by kernel_rfl) (by kernel_rfl) (fun _ _ _ h => h) (.inl ⟨by kernel_rfl, fun x_ hu => by kernel_rfl⟩) ⟨(hB.get 1 (x := ⟨g1_3, (kc (digs (V : Int) 32)), 23⟩) rfl), trivial⟩ ?_
  simp only [Act.put, List.setIfInBounds_toArray, List.set_cons_zero, List.set_cons_succ, List.getElem_toArray, List.getElem_cons_zero, List.getElem_cons_succ]
  refine any_take (i := 29) (v := (.agg (kc (digs (V : Int) 32)))) #[true, true, true, true, true, true, true, true, true, true, true, true, true, true, true, true, true, true, true, true, true, true, true, true, true, true, true, true, true, false, false, false, false, false, false] rfl (by kernel_rfl) (by kernel_rfl) (by kernel_rfl) (by kernel_rfl) (fun _ _ _ h => h) (.inl ⟨by kernel_rfl, fun x_ hu => exec_arr x_ 23 (.tmp 3) rfl g1_3 (by kernel_rfl) (kc (digs (V : Int) 32)) 23 _ hu.1 Try.underlying23 rfl (by rw [Try.infoKey, kc32])⟩) ⟨(hB.get 1 (x := ⟨g1_3, (kc (digs (V : Int) 32)), 23⟩) rfl), trivial⟩ ?_
  simp only [Act.put, List.setIfInBounds_toArray, List.set_cons_zero, List.set_cons_succ, List.getElem_toArray, List.getElem_cons_zero, List.getElem_cons_succ]
  refine any_one (i := 30) (by kernel_rfl) rfl (fun K hK => ?_)
  refine step_callw (by kernel_rfl) 28 #[.string s9] (by kernel_rfl) ((dig9_ok _).mono ?_)
  rintro r v17_ ⟨c8, rfl, hc8, hg⟩
  refine ⟨_, rfl, ?_⟩
  replace hB := hB.more hg
  clear hg
  refine hK.out _ _ ⟨(hB.get 1 (x := ⟨g1_3, (kc (digs (V : Int) 32)), 23⟩) rfl), trivial⟩ (fun _ => ?_)
  clear hK K
  simp only [Act.put, List.setIfInBounds_toArray, List.set_cons_zero, List.set_cons_succ, List.getElem_toArray, List.getElem_cons_zero, List.getElem_cons_succ]
  refine any_one (i := 31) (by kernel_rfl) rfl (fun K hK => ?_)
  refine step_callw (by kernel_rfl) 26 #[.agg c8] (by kernel_rfl) ((nbytes_nc hc8 _).mono ?_)
  rintro r v18_ ⟨rfl, hg⟩
  refine ⟨_, rfl, ?_⟩
  rw [show (39382357235489614581723060781553021112529911719440698176882885853963445705823 : Int) % pp = 39382357235489614581723060781553021112529911719440698176882885853963445705823 from by decide]
  replace hB := hB.more hg
  clear hg
  refine hK.out _ _ ⟨(hB.get 1 (x := ⟨g1_3, (kc (digs (V : Int) 32)), 23⟩) rfl), trivial⟩ (fun _ => ?_)
  clear hK K
  simp only [Act.put, List.setIfInBounds_toArray, List.set_cons_zero, List.set_cons_succ, List.getElem_toArray, List.getElem_cons_zero, List.getElem_cons_succ]
  refine any_take (i := 32) (v := (.bool false)) #[true, true, true, true, true, true, true, true, true, true, true, true, true, true, true, true, true, true, true, true, true, true, true, true, true, true, true, true, true, true, true, true, false, false, false] rfl (by kernel_rfl) (by kernel_rfl) (by kernel_rfl) (by kernel_rfl) (fun _ _ _ h => h) (.inl ⟨by kernel_rfl, fun x_ hu => by have e := key_diff (n := V) (m := 39382357235489614581723060781553021112529911719440698176882885853963445705823) hVr (by omega) (unhide hn4); go_simp⟩) ⟨(hB.get 1 (x := ⟨g1_3, (kc (digs (V : Int) 32)), 23⟩) rfl), trivial⟩ ?_
  simp only [Act.put, List.setIfInBounds_toArray, List.set_cons_zero, List.set_cons_succ, List.getElem_toArray, List.getElem_cons_zero, List.getElem_cons_succ]
  refine any_take (i := 33) (v := (.bool false)) #[true, true, true, true, true, true, true, true, true, true, true, true, true, true, true, true, true, true, true, true, true, true, true, true, true, true, true, true, true, true, true, true, true, false, false] rfl (by kernel_rfl) (by kernel_rfl) (by kernel_rfl) (by kernel_rfl) (fun _ _ _ h => h) (.inl ⟨by kernel_rfl, fun x_ hu => by kernel_rfl⟩) ⟨(hB.get 1 (x := ⟨g1_3, (kc (digs (V : Int) 32)), 23⟩) rfl), trivial⟩ ?_
  simp only [Act.put, List.setIfInBounds_toArray, List.set_cons_zero, List.set_cons_succ, List.getElem_toArray, List.getElem_cons_zero, List.getElem_cons_succ]
  refine any_one (i := 34) (by kernel_rfl) rfl (fun K hK => ?_)
  replace hK := hide hK
  go_simp
  refine (unhide hK).out _ _ ⟨(hB.get 1 (x := ⟨g1_3, (kc (digs (V : Int) 32)), 23⟩) rfl), trivial⟩ (fun _ => ?_)
  clear hK K
  refine any_done (by kernel_rfl) ?_
  have hG := hide hB.gr
  clear hB
  go_wp2_with fail
  refine bodyPost_ret (v := .bool false) ?_ rfl ⟨rfl, unhide hG⟩
  simp [results, Try.results11, go_sem]

/-- the five low places, as numbers below the prime -/
def Lw (v : Int) : Prop := v = 0 ∨ v = 1 ∨ v = 57896044618658097711785492504343953926634992332820282019728792003956564819948 ∨ v = 325606250916557431795983626356110631294008115727848805560023387167927233504 ∨ v = 39382357235489614581723060781553021112529911719440698176882885853963445705823
theorem rlow_yes (U : Nat) (hU : U < 115792089237316195423570985008687907853269984665640564039457584007913129639936) (h : Lw ((U : Int) % 57896044618658097711785492504343953926634992332820282019728792003956564819968 % pp)) (w : World) : Calls Try.prog 11 #[.agg (kc (digs (U : Int) 32))] w (fun r w' => r = .returned (.bool true) ∧ Gr w w') := by
  rcases h with h | h | h | h | h
  · exact rlow_0 U hU h w
  · exact rlow_1 U hU h w
  · exact rlow_2 U hU h w
  · exact rlow_3 U hU h w
  · exact rlow_4 U hU h w
theorem rlow_no (U : Nat) (hU : U < 115792089237316195423570985008687907853269984665640564039457584007913129639936) (h : ¬ Lw ((U : Int) % 57896044618658097711785492504343953926634992332820282019728792003956564819968 % pp)) (w : World) : Calls Try.prog 11 #[.agg (kc (digs (U : Int) 32))] w (fun r w' => r = .returned (.bool false) ∧ Gr w w') := by
  refine rlow_5 U hU _ rfl ⟨Int.emod_nonneg _ (by decide), ?_⟩ (fun e => h (.inl e)) (fun e => h (.inr (.inl e))) (fun e => h (.inr (.inr (.inl e)))) (fun e => h (.inr (.inr (.inr (.inl e))))) (fun e => h (.inr (.inr (.inr (.inr e))))) w
  have := Int.emod_lt_of_pos ((U : Int) % 57896044618658097711785492504343953926634992332820282019728792003956564819968) (show 0 < pp by decide)
  unfold pp at *
  omega
end Go.Proofs.Ytebgmneffpeahaa
