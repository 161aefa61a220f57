/-
  What Write makes of a Hash.
-/
import Derived.Test.YthnmebhljkccnaaDoorShaWriteA
namespace Go.Proofs.YthnmebhljkccnaaDoor
open Go.RowKit
set_option maxRecDepth 100000
set_option linter.unusedSimpArgs false

/-- what Write answers and leaves -/
def Wrote (g : Nat) (B : List Int) (w : World) (r : Ending) (w' : World) : Prop := r = .returned (.int .i64 0) ∧ H g B w' ∧ Bt g w w'
theorem cnt_cell {w : World} {g : Nat} {s l : List Int} {n : Int} {t : TypeId} (h : w.heap[g]? = some (.cells (hc s l n) t (0, 0))) (hs : s.length = 8) (hl : l.length = 64) : w.cell? ⟨g, 72, none⟩ = some (.int .i64 n) := by
  refine cell_of h ?_
  unfold hc hcl
  simp [List.getElem?_append, hs, hl]
theorem cnt_set {w : World} {g : Nat} {s l : List Int} {n m : Int} {t : TypeId} (h : w.heap[g]? = some (.cells (hc s l n) t (0, 0))) (hs : s.length = 8) (hl : l.length = 64) : (w.setCell ⟨g, 72, none⟩ (.int .i64 m)).heap[g]? = some (.cells (hc s l m) t (0, 0)) := by
  rw [heap_setCell_same w g 72 _ t _ h]
  unfold hc
  rw [List.setIfInBounds_toArray, hcl_count s l n m hs hl]
theorem isB_left {l B : List Int} (hl : IsB l) (hB : IsB B) (k : Nat) : IsB (l.take k ++ (B ++ l.drop (k + B.length))) := isB_append (isB_take hl _) (isB_append hB (isB_drop hl _))
theorem take_len_append (B l : List Int) : (B ++ l).take B.length = B := by simp

set_option maxHeartbeats 2000000 in
theorem write_whole (g : Nat) (B C : List Int) (hC : IsB C) (h64 : B.length % 64 = 0) (hbig : B.length + C.length < 1152921504606846976) (a : Option Addr) (cap : Nat) (hcap : C.length ≤ cap) (hcb : cap < 9223372036854775808) (w : World)
    (hB : H g B w) (hX : SlX g w a C) : Calls Tryd.prog 31 #[.pointer (some ⟨g, 0, none⟩), .slice a C.length cap] w (Wrote g (B ++ C) w) := by
  obtain ⟨T, hT⟩ : ∃ T, T = Wrote g (B ++ C) w := ⟨_, rfl⟩
  rw [← hT]
  obtain ⟨l, hl, hlB, hH, hlt⟩ := hB
  obtain ⟨S, hS⟩ : ∃ S, S = bk (B.length / 64) F0 B := ⟨_, rfl⟩
  have hSl : S.length = 8 := by rw [hS]; exact bk_len _ _ rfl _
  rw [← hS] at hH
  have cc := cnt_cell hH hSl hl
  have cf := froz_of (i := 72) hH
  have hH2 := cnt_set (m := (B.length : Int) + C.length) hH hSl hl
  have hBt := (Bt.trans (Bt.refl g w) (setCells_bt [.int .i64 ((B.length : Int) + C.length)] w g 72))
  replace hX := hX.bt hBt
  replace hBt : Hid (Bt g w (w.setCell ⟨g, 72, none⟩ (.int .i64 ((B.length : Int) + C.length)))) := hBt
  replace hX : Hid (SlX g (w.setCell ⟨g, 72, none⟩ (.int .i64 ((B.length : Int) + C.length))) a C) := hX
  have e1 : Int.tmod (B.length : Int) 64 = 0 := by rw [Int.tmod_eq_emod_of_nonneg (by omega)]; omega
  have e2 : IntKind.i64.wrap ((B.length : Int) + C.length) = (B.length : Int) + C.length := by rw [IntKind.wrap_i64]; omega
  have hbD := hC
  have hcD1 := hcap
  have hcD2 := hcb
  replace hH2 := hide hH2
  replace hT := hide hT
  replace hS := hide hS
  replace hlt := hide hlt
  clear hH
  generalize hm : C.length = m at *
  generalize hn : B.length = n at *
  go_enter Tryd.func31, Tryd.ntmps31
  go_upto_region 11 with fail
  replace hBt := unhide hBt
  replace hX := unhide hX
  have hH := unhide hH2
  clear hH2
  generalize World.setCell _ _ _ = x3 at *
  subst hm hn
  refine any_start (S := fun _ => True) (by kernel_rfl) ?_
  replace hBt := hBt.trans ((Gr.refl _).drew.bt g)
  replace hH := (Gr.refl _).drew.blk hH
  replace hX := hX.gr (Gr.refl _).drew
  generalize World.drew _ = x0 at *
  simp only [List.size_toArray, List.length_cons, List.length_nil, Array.replicate, List.replicate]
  refine any_take (i := 0) (v := (.pointer (some ⟨g, 0, none⟩))) #[false, false, false, false, false, false, false, false] rfl (by kernel_rfl) (by kernel_rfl) (by kernel_rfl) (by kernel_rfl) (fun _ _ _ h => h) (.inl ⟨by kernel_rfl, fun x_ hu => by kernel_rfl⟩) trivial ?_
  simp only [Act.put, List.setIfInBounds_toArray, List.set_cons_zero, List.set_cons_succ, List.getElem_toArray, List.getElem_cons_zero, List.getElem_cons_succ]
  refine any_take (i := 1) (v := (.pointer (some ⟨g, 0, none⟩))) #[true, false, false, false, false, false, false, false] rfl (by kernel_rfl) (by kernel_rfl) (by kernel_rfl) (by kernel_rfl) (fun _ _ _ h => h) (.inl ⟨by kernel_rfl, fun x_ hu => by kernel_rfl⟩) trivial ?_
  simp only [Act.put, List.setIfInBounds_toArray, List.set_cons_zero, List.set_cons_succ, List.getElem_toArray, List.getElem_cons_zero, List.getElem_cons_succ]
  refine any_take (i := 2) (v := (.pointer (some ⟨g, 8, none⟩))) #[true, true, false, false, false, false, false, false] rfl (by kernel_rfl) (by kernel_rfl) (by kernel_rfl) (by kernel_rfl) (fun _ _ _ h => h) (.inl ⟨by kernel_rfl, fun x_ hu => by kernel_rfl⟩) trivial ?_
  simp only [Act.put, List.setIfInBounds_toArray, List.set_cons_zero, List.set_cons_succ, List.getElem_toArray, List.getElem_cons_zero, List.getElem_cons_succ]
  refine any_take (i := 3) (v := (.slice (some ⟨g, 8, none⟩) 64 64)) #[true, true, true, false, false, false, false, false] rfl (by kernel_rfl) (by kernel_rfl) (by kernel_rfl) (by kernel_rfl) (fun _ _ _ h => h) (.inl ⟨by kernel_rfl, fun x_ hu => by go_simp⟩) trivial ?_
  simp only [Act.put, List.setIfInBounds_toArray, List.set_cons_zero, List.set_cons_succ, List.getElem_toArray, List.getElem_cons_zero, List.getElem_cons_succ]
  refine any_take (i := 4) (v := (.pointer (some ⟨g, 0, none⟩))) #[true, true, true, true, false, false, false, false] rfl (by kernel_rfl) (by kernel_rfl) (by kernel_rfl) (by kernel_rfl) (fun _ _ _ h => h) (.inl ⟨by kernel_rfl, fun x_ hu => by kernel_rfl⟩) trivial ?_
  simp only [Act.put, List.setIfInBounds_toArray, List.set_cons_zero, List.set_cons_succ, List.getElem_toArray, List.getElem_cons_zero, List.getElem_cons_succ]
  refine any_take (i := 5) (v := (.slice a C.length cap)) #[true, true, true, true, true, false, false, false] rfl (by kernel_rfl) (by kernel_rfl) (by kernel_rfl) (by kernel_rfl) (fun _ _ _ h => h) (.inl ⟨by kernel_rfl, fun x_ hu => by kernel_rfl⟩) trivial ?_
  simp only [Act.put, List.setIfInBounds_toArray, List.set_cons_zero, List.set_cons_succ, List.getElem_toArray, List.getElem_cons_zero, List.getElem_cons_succ]
  refine any_one (i := 6) (by kernel_rfl) rfl (fun K hK => ?_)
  refine step_callw (by kernel_rfl) 43 #[.pointer (some ⟨g, 0, none⟩), .slice a C.length cap] (by kernel_rfl) ((take_ok S l ((B.length : Int) + C.length) hSl g C hbD a cap hcD1 hcD2 _ hH hX.out).mono ?_)
  rintro r x1 ⟨a2, c2, rfl, hc3, hc4, hsl, hH2, hBt2⟩
  refine ⟨_, rfl, ?_⟩
  replace hBt := hBt.trans hBt2
  refine hK.out _ _ trivial (fun _ => ?_)
  clear hK K hBt2 hH hX
  simp only [Act.put, List.setIfInBounds_toArray, List.set_cons_zero, List.set_cons_succ, List.getElem_toArray, List.getElem_cons_zero, List.getElem_cons_succ]
  refine any_one (i := 7) (by kernel_rfl) rfl (fun K hK => ?_)
  rw [if_pos (by kernel_rfl)]
  have hdl : (C.drop (64 * (C.length / 64))).length = C.length % 64 := by rw [List.length_drop]; omega
  refine copy_wp (.tmp 48) (.tmp 51) rfl g 8 64 64 a2 (C.length % 64) c2 (by kernel_rfl) (by kernel_rfl) (hcl (bk (C.length / 64) S C) l ((B.length : Int) + C.length)) 73 hH2 (C.drop (64 * (C.length / 64))) (by rw [hdl]; exact (Nat.min_eq_left (by omega)).symm) (by rcases hsl with h | ⟨p, o, h1, h2, _⟩; exact .inl h; exact .inr ⟨p, o, h1, h2⟩) (by rw [hcl_len _ _ _ (bk_len _ _ hSl _) hl, hdl]; omega) ?_
  have hH3 := setCells_heap ((C.drop (64 * (C.length / 64))).map (Value.int .u8)) x1 g 8 _ _ hH2
  have hcp := hcl_copy (bk (C.length / 64) S C) l (C.drop (64 * (C.length / 64))) ((B.length : Int) + C.length) 0 (bk_len _ _ hSl _) (by rw [hdl, hl]; omega)
  rw [Nat.add_zero] at hcp
  rw [hcp] at hH3
  simp only [List.take_zero, List.nil_append, Nat.zero_add] at hH3
  replace hBt := hBt.trans (setCells_bt ((C.drop (64 * (C.length / 64))).map (Value.int .u8)) x1 g 8)
  refine hK.out _ _ trivial (fun _ => ?_)
  refine any_done (by kernel_rfl) ?_
  clear hK K hH2 hsl hcp
  simp only [Act.put, List.setIfInBounds_toArray, List.set_cons_zero, List.set_cons_succ, List.getElem_toArray, List.getElem_cons_zero, List.getElem_cons_succ]
  generalize World.setCells _ _ _ _ = x2 at *
  have hW : Hid (Wrote g (B ++ C) w (.returned (.int .i64 0)) x2) := by
    refine ⟨rfl, H.whole h64 ?_ ?_ (l := C.drop (64 * (C.length / 64)) ++ l.drop (C.drop (64 * (C.length / 64))).length) (by rw [← unhide hS]; exact hH3) (by rw [← hdl]; exact take_len_append _ _), hBt⟩
    · rw [List.length_append, List.length_drop (l := l), hdl, hl]
      omega
    · have := isB_left hlB (isB_drop hC (64 * (C.length / 64))) 0
      simpa using this
  clear hH3 hBt
  go_wp2_with fail
  rw [unhide hT]
  exact unhide hW
end Go.Proofs.YthnmebhljkccnaaDoor
