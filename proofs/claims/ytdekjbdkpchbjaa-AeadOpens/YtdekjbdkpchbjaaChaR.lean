/-
  The quarter of the words at four places, by the closure of the rounds.
-/
import Derived.Test.YtdekjbdkpchbjaaChaQ
namespace Go.Proofs.Ytdekjbdkpchbjaa
open Go.RowKit
set_option maxRecDepth 100000
set_option linter.unusedSimpArgs false
set_option linter.unusedVariables false
/-- the quarter of the words at four places -/
def qp (W : List Int) (a b c d : Nat) : List Int :=
  let q := quar (W.getD a 0) (W.getD b 0) (W.getD c 0) (W.getD d 0)
  (((W.set a q.a).set b q.b).set c q.c).set d q.d
theorem qp_len (W : List Int) (a b c d : Nat) : (qp W a b c d).length = W.length := by simp [qp]
/-- the closure over the words at g -/
def Qtr (w0 : World) (g : Nat) (W : List Int) (L : List Blk) (a b c d : Nat) (r : Ending) (w' : World) : Prop := r = .returned (.tuple #[]) ∧ Bl w0 (⟨g, uc (qp W a b c d), 61⟩ :: L) w'
/-- what four cells hold -/
def QS (g a b c d : Nat) (xa xb xc xd : Int) (v : World) : Prop := True ∧ v.cell? ⟨g, a, none⟩ = some (.int .u32 xa) ∧ v.cell? ⟨g, b, none⟩ = some (.int .u32 xb) ∧ v.cell? ⟨g, c, none⟩ = some (.int .u32 xc) ∧ v.cell? ⟨g, d, none⟩ = some (.int .u32 xd)
set_option maxHeartbeats 2000000 in
theorem rounds1_ok (w0 : World) (g : Nat) (W : List Int) (hW : W.length = 16) (L : List Blk) (a b c d : Nat) (ha : a < 16) (hb : b < 16) (hc : c < 16) (hd : d < 16) (w : World) (hB : Bl w0 (⟨g, uc W, 61⟩ :: L) w) :
    Calls Try.prog 64 #[.int .i64 a, .int .i64 b, .int .i64 c, .int .i64 d, .pointer (some ⟨g, 0, none⟩)] w (Qtr w0 g W L a b c d) := by
  obtain ⟨T, hT⟩ : ∃ T, T = Qtr w0 g W L a b c d := ⟨_, rfl⟩
  rw [← hT]
  unfold Qtr qp at hT
  replace hT := hide hT
  have iA : (a : Int) < 16 := by omega
  have iB : (b : Int) < 16 := by omega
  have iC : (c : Int) < 16 := by omega
  have iD : (d : Int) < 16 := by omega
  replace hB := hB.drew
  have c0 := uc_cell (hB.get 0 (x := ⟨g, uc W, 61⟩) rfl) a (by omega)
  have c1 := uc_cell (hB.get 0 (x := ⟨g, uc W, 61⟩) rfl) b (by omega)
  have c2 := uc_cell (hB.get 0 (x := ⟨g, uc W, 61⟩) rfl) c (by omega)
  have c3 := uc_cell (hB.get 0 (x := ⟨g, uc W, 61⟩) rfl) d (by omega)
  generalize W.getD a 0 = xa at *
  generalize W.getD b 0 = xb at *
  generalize W.getD c 0 = xc at *
  generalize W.getD d 0 = xd at *
  have hS : QS g a b c d xa xb xc xd w.drew := ⟨trivial, c0, c1, c2, c3⟩
  clear c0 c1 c2 c3
  replace hB := hide hB
  go_enter Try.func64, Try.ntmps64
  go_upto_region 0 with fail
  replace hB := unhide hB
  refine anyC_start 16 (QS g a b c d xa xb xc xd) (by kernel_rfl) ?_
  generalize World.drew _ = w at *
  simp only [List.size_toArray, List.length_cons, List.length_nil, Array.replicate, List.replicate]
  refine anyC_take (i := 0) (v := (.int .i64 a)) (fun _ => True) (fun _ _ => trivial) (.inl fun _ => trivial) rfl (by kernel_rfl) (by kernel_rfl) (by kernel_rfl) (by decide) (by kernel_rfl) (by decide) (fun _ _ _ h => h) (.inl ⟨by kernel_rfl, fun x_ hu => by kernel_rfl⟩) hS ?_
  simp only [Act.put, List.setIfInBounds_toArray, List.set_cons_zero, List.set_cons_succ, List.getElem_toArray, List.getElem_cons_zero, List.getElem_cons_succ]
  refine anyC_take (i := 1) (v := (.int .i64 b)) (fun _ => True) (fun _ _ => trivial) (.inl fun _ => trivial) rfl (by kernel_rfl) (by kernel_rfl) (by kernel_rfl) (by decide) (by kernel_rfl) (by decide) (fun _ _ _ h => h) (.inl ⟨by kernel_rfl, fun x_ hu => by kernel_rfl⟩) hS ?_
  simp only [Act.put, List.setIfInBounds_toArray, List.set_cons_zero, List.set_cons_succ, List.getElem_toArray, List.getElem_cons_zero, List.getElem_cons_succ]
  refine anyC_take (i := 2) (v := (.int .i64 c)) (fun _ => True) (fun _ _ => trivial) (.inl fun _ => trivial) rfl (by kernel_rfl) (by kernel_rfl) (by kernel_rfl) (by decide) (by kernel_rfl) (by decide) (fun _ _ _ h => h) (.inl ⟨by kernel_rfl, fun x_ hu => by kernel_rfl⟩) hS ?_
  simp only [Act.put, List.setIfInBounds_toArray, List.set_cons_zero, List.set_cons_succ, List.getElem_toArray, List.getElem_cons_zero, List.getElem_cons_succ]
  refine anyC_take (i := 3) (v := (.int .i64 d)) (fun _ => True) (fun _ _ => trivial) (.inl fun _ => trivial) rfl (by kernel_rfl) (by kernel_rfl) (by kernel_rfl) (by decide) (by kernel_rfl) (by decide) (fun _ _ _ h => h) (.inl ⟨by kernel_rfl, fun x_ hu => by kernel_rfl⟩) hS ?_
  simp only [Act.put, List.setIfInBounds_toArray, List.set_cons_zero, List.set_cons_succ, List.getElem_toArray, List.getElem_cons_zero, List.getElem_cons_succ]
  refine anyC_take (i := 4) (v := (.int .i64 a)) (fun _ => True) (fun _ _ => trivial) (.inl fun _ => trivial) rfl (by kernel_rfl) (by kernel_rfl) (by kernel_rfl) (by decide) (by kernel_rfl) (by decide) (fun _ _ _ h => h) (.inl ⟨by kernel_rfl, fun x_ hu => by kernel_rfl⟩) hS ?_
  simp only [Act.put, List.setIfInBounds_toArray, List.set_cons_zero, List.set_cons_succ, List.getElem_toArray, List.getElem_cons_zero, List.getElem_cons_succ]
  refine anyC_take (i := 5) (v := (.pointer (some ⟨g, a, none⟩))) (fun _ => True) (fun _ _ => trivial) (.inl fun _ => trivial) rfl (by kernel_rfl) (by kernel_rfl) (by kernel_rfl) (by decide) (by kernel_rfl) (by decide) (fun _ _ _ h => h) (.inl ⟨by kernel_rfl, fun x_ hu => by go_simp⟩) hS ?_
  simp only [Act.put, List.setIfInBounds_toArray, List.set_cons_zero, List.set_cons_succ, List.getElem_toArray, List.getElem_cons_zero, List.getElem_cons_succ]
  refine anyC_take (i := 6) (v := (.int .u32 xa)) _ (fun _ h => h) (.inr (by kernel_rfl)) rfl (by kernel_rfl) (by kernel_rfl) (by kernel_rfl) (by decide) (by kernel_rfl) (by decide) (fun _ _ _ h => h) (.inl ⟨by kernel_rfl, fun x_ hu => by have c := hu.2.1; clear hu hS hB; go_simp⟩) hS ?_
  simp only [Act.put, List.setIfInBounds_toArray, List.set_cons_zero, List.set_cons_succ, List.getElem_toArray, List.getElem_cons_zero, List.getElem_cons_succ]
  refine anyC_take (i := 7) (v := (.int .i64 b)) (fun _ => True) (fun _ _ => trivial) (.inl fun _ => trivial) rfl (by kernel_rfl) (by kernel_rfl) (by kernel_rfl) (by decide) (by kernel_rfl) (by decide) (fun _ _ _ h => h) (.inl ⟨by kernel_rfl, fun x_ hu => by kernel_rfl⟩) hS ?_
  simp only [Act.put, List.setIfInBounds_toArray, List.set_cons_zero, List.set_cons_succ, List.getElem_toArray, List.getElem_cons_zero, List.getElem_cons_succ]
  refine anyC_take (i := 8) (v := (.pointer (some ⟨g, b, none⟩))) (fun _ => True) (fun _ _ => trivial) (.inl fun _ => trivial) rfl (by kernel_rfl) (by kernel_rfl) (by kernel_rfl) (by decide) (by kernel_rfl) (by decide) (fun _ _ _ h => h) (.inl ⟨by kernel_rfl, fun x_ hu => by go_simp⟩) hS ?_
  simp only [Act.put, List.setIfInBounds_toArray, List.set_cons_zero, List.set_cons_succ, List.getElem_toArray, List.getElem_cons_zero, List.getElem_cons_succ]
  refine anyC_take (i := 9) (v := (.int .u32 xb)) _ (fun _ h => h) (.inr (by kernel_rfl)) rfl (by kernel_rfl) (by kernel_rfl) (by kernel_rfl) (by decide) (by kernel_rfl) (by decide) (fun _ _ _ h => h) (.inl ⟨by kernel_rfl, fun x_ hu => by have c := hu.2.2.1; clear hu hS hB; go_simp⟩) hS ?_
  simp only [Act.put, List.setIfInBounds_toArray, List.set_cons_zero, List.set_cons_succ, List.getElem_toArray, List.getElem_cons_zero, List.getElem_cons_succ]
  refine anyC_take (i := 10) (v := (.int .i64 c)) (fun _ => True) (fun _ _ => trivial) (.inl fun _ => trivial) rfl (by kernel_rfl) (by kernel_rfl) (by kernel_rfl) (by decide) (by kernel_rfl) (by decide) (fun _ _ _ h => h) (.inl ⟨by kernel_rfl, fun x_ hu => by kernel_rfl⟩) hS ?_
  simp only [Act.put, List.setIfInBounds_toArray, List.set_cons_zero, List.set_cons_succ, List.getElem_toArray, List.getElem_cons_zero, List.getElem_cons_succ]
  refine anyC_take (i := 11) (v := (.pointer (some ⟨g, c, none⟩))) (fun _ => True) (fun _ _ => trivial) (.inl fun _ => trivial) rfl (by kernel_rfl) (by kernel_rfl) (by kernel_rfl) (by decide) (by kernel_rfl) (by decide) (fun _ _ _ h => h) (.inl ⟨by kernel_rfl, fun x_ hu => by go_simp⟩) hS ?_
  simp only [Act.put, List.setIfInBounds_toArray, List.set_cons_zero, List.set_cons_succ, List.getElem_toArray, List.getElem_cons_zero, List.getElem_cons_succ]
  refine anyC_take (i := 12) (v := (.int .u32 xc)) _ (fun _ h => h) (.inr (by kernel_rfl)) rfl (by kernel_rfl) (by kernel_rfl) (by kernel_rfl) (by decide) (by kernel_rfl) (by decide) (fun _ _ _ h => h) (.inl ⟨by kernel_rfl, fun x_ hu => by have c := hu.2.2.2.1; clear hu hS hB; go_simp⟩) hS ?_
  simp only [Act.put, List.setIfInBounds_toArray, List.set_cons_zero, List.set_cons_succ, List.getElem_toArray, List.getElem_cons_zero, List.getElem_cons_succ]
  refine anyC_take (i := 13) (v := (.int .i64 d)) (fun _ => True) (fun _ _ => trivial) (.inl fun _ => trivial) rfl (by kernel_rfl) (by kernel_rfl) (by kernel_rfl) (by decide) (by kernel_rfl) (by decide) (fun _ _ _ h => h) (.inl ⟨by kernel_rfl, fun x_ hu => by kernel_rfl⟩) hS ?_
  simp only [Act.put, List.setIfInBounds_toArray, List.set_cons_zero, List.set_cons_succ, List.getElem_toArray, List.getElem_cons_zero, List.getElem_cons_succ]
  refine anyC_take (i := 14) (v := (.pointer (some ⟨g, d, none⟩))) (fun _ => True) (fun _ _ => trivial) (.inl fun _ => trivial) rfl (by kernel_rfl) (by kernel_rfl) (by kernel_rfl) (by decide) (by kernel_rfl) (by decide) (fun _ _ _ h => h) (.inl ⟨by kernel_rfl, fun x_ hu => by go_simp⟩) hS ?_
  simp only [Act.put, List.setIfInBounds_toArray, List.set_cons_zero, List.set_cons_succ, List.getElem_toArray, List.getElem_cons_zero, List.getElem_cons_succ]
  refine anyC_take (i := 15) (v := (.int .u32 xd)) _ (fun _ h => h) (.inr (by kernel_rfl)) rfl (by kernel_rfl) (by kernel_rfl) (by kernel_rfl) (by decide) (by kernel_rfl) (by decide) (fun _ _ _ h => h) (.inl ⟨by kernel_rfl, fun x_ hu => by have c := hu.2.2.2.2; clear hu hS hB; go_simp⟩) hS ?_
  simp only [Act.put, List.setIfInBounds_toArray, List.set_cons_zero, List.set_cons_succ, List.getElem_toArray, List.getElem_cons_zero, List.getElem_cons_succ]
  refine anyC_last (by kernel_rfl) rfl (fun K hK => ?_)
  refine step_callw (by kernel_rfl) 65 #[.int .u32 xa, .int .u32 xb, .int .u32 xc, .int .u32 xd] (by kernel_rfl) ((quarter_ok xa xb xc xd _).mono ?_)
  rintro r v ⟨rfl, hg⟩
  refine ⟨_, rfl, ?_⟩
  replace hB := hB.more hg
  clear hg hS
  refine hK.out _ _ ?_
  clear hK K
  generalize quar xa xb xc xd = q at *
  simp only [Act.put, List.setIfInBounds_toArray, List.set_cons_zero, List.set_cons_succ, List.getElem_toArray, List.getElem_cons_zero, List.getElem_cons_succ]
  refine any_take (i := 17) (v := (qv q)) #[true, true, true, true, true, true, true, true, true, true, true, true, true, true, true, true, true, false, false, false, false, false, false, false, false, false, false, false, false, false] rfl (by kernel_rfl) (by kernel_rfl) (by kernel_rfl) (by kernel_rfl) (fun _ _ _ h => h) (.inl ⟨by kernel_rfl, fun x_ hu => by kernel_rfl⟩) trivial ?_
  simp only [Act.put, List.setIfInBounds_toArray, List.set_cons_zero, List.set_cons_succ, List.getElem_toArray, List.getElem_cons_zero, List.getElem_cons_succ]
  refine any_take (i := 18) (v := (.int .u32 q.a)) #[true, true, true, true, true, true, true, true, true, true, true, true, true, true, true, true, true, true, false, false, false, false, false, false, false, false, false, false, false, false] rfl (by kernel_rfl) (by kernel_rfl) (by kernel_rfl) (by kernel_rfl) (fun _ _ _ h => h) (.inl ⟨by kernel_rfl, fun x_ hu => by kernel_rfl⟩) trivial ?_
  simp only [Act.put, List.setIfInBounds_toArray, List.set_cons_zero, List.set_cons_succ, List.getElem_toArray, List.getElem_cons_zero, List.getElem_cons_succ]
  refine any_take (i := 19) (v := (.int .u32 q.b)) #[true, true, true, true, true, true, true, true, true, true, true, true, true, true, true, true, true, true, true, false, false, false, false, false, false, false, false, false, false, false] rfl (by kernel_rfl) (by kernel_rfl) (by kernel_rfl) (by kernel_rfl) (fun _ _ _ h => h) (.inl ⟨by kernel_rfl, fun x_ hu => by kernel_rfl⟩) trivial ?_
  simp only [Act.put, List.setIfInBounds_toArray, List.set_cons_zero, List.set_cons_succ, List.getElem_toArray, List.getElem_cons_zero, List.getElem_cons_succ]
  refine any_take (i := 20) (v := (.int .u32 q.c)) #[true, true, true, true, true, true, true, true, true, true, true, true, true, true, true, true, true, true, true, true, false, false, false, false, false, false, false, false, false, false] rfl (by kernel_rfl) (by kernel_rfl) (by kernel_rfl) (by kernel_rfl) (fun _ _ _ h => h) (.inl ⟨by kernel_rfl, fun x_ hu => by kernel_rfl⟩) trivial ?_
  simp only [Act.put, List.setIfInBounds_toArray, List.set_cons_zero, List.set_cons_succ, List.getElem_toArray, List.getElem_cons_zero, List.getElem_cons_succ]
  refine any_take (i := 21) (v := (.int .u32 q.d)) #[true, true, true, true, true, true, true, true, true, true, true, true, true, true, true, true, true, true, true, true, true, false, false, false, false, false, false, false, false, false] rfl (by kernel_rfl) (by kernel_rfl) (by kernel_rfl) (by kernel_rfl) (fun _ _ _ h => h) (.inl ⟨by kernel_rfl, fun x_ hu => by kernel_rfl⟩) trivial ?_
  simp only [Act.put, List.setIfInBounds_toArray, List.set_cons_zero, List.set_cons_succ, List.getElem_toArray, List.getElem_cons_zero, List.getElem_cons_succ]
  refine any_take (i := 22) (v := (.pointer (some ⟨g, a, none⟩))) #[true, true, true, true, true, true, true, true, true, true, true, true, true, true, true, true, true, true, true, true, true, true, false, false, false, false, false, false, false, false] rfl (by kernel_rfl) (by kernel_rfl) (by kernel_rfl) (by kernel_rfl) (fun _ _ _ h => h) (.inl ⟨by kernel_rfl, fun x_ hu => by go_simp⟩) trivial ?_
  simp only [Act.put, List.setIfInBounds_toArray, List.set_cons_zero, List.set_cons_succ, List.getElem_toArray, List.getElem_cons_zero, List.getElem_cons_succ]
  have fz := froz_of (i := a) (hB.get 0 (x := ⟨g, uc (W), 61⟩) rfl)
  have cz := uc_cell (hB.get 0 (x := ⟨g, uc (W), 61⟩) rfl) a (by (try simp only [List.length_set]); omega)
  generalize List.getD _ _ _ = z0 at cz
  have hB2 := hB.cell 0 (x := ⟨g, uc (W), 61⟩) rfl a (.int .u32 q.a)
  simp only [List.set_cons_zero, uc_set] at hB2
  clear hB
  refine any_one (i := 23) (by kernel_rfl) rfl (fun K hK => ?_)
  replace hK := hide hK
  replace hB2 := hide hB2
  go_simp
  replace hB := unhide hB2
  refine (unhide hK).out _ _ trivial (fun _ => ?_)
  clear hK K hB2 fz cz
  generalize World.setCell _ _ _ = v at *
  simp only [Act.put, List.setIfInBounds_toArray, List.set_cons_zero, List.set_cons_succ, List.getElem_toArray, List.getElem_cons_zero, List.getElem_cons_succ]
  refine any_take (i := 24) (v := (.pointer (some ⟨g, b, none⟩))) #[true, true, true, true, true, true, true, true, true, true, true, true, true, true, true, true, true, true, true, true, true, true, true, true, false, false, false, false, false, false] rfl (by kernel_rfl) (by kernel_rfl) (by kernel_rfl) (by kernel_rfl) (fun _ _ _ h => h) (.inl ⟨by kernel_rfl, fun x_ hu => by go_simp⟩) trivial ?_
  simp only [Act.put, List.setIfInBounds_toArray, List.set_cons_zero, List.set_cons_succ, List.getElem_toArray, List.getElem_cons_zero, List.getElem_cons_succ]
  have fz := froz_of (i := b) (hB.get 0 (x := ⟨g, uc ((W).set a q.a), 61⟩) rfl)
  have cz := uc_cell (hB.get 0 (x := ⟨g, uc ((W).set a q.a), 61⟩) rfl) b (by (try simp only [List.length_set]); omega)
  generalize List.getD _ _ _ = z1 at cz
  have hB2 := hB.cell 0 (x := ⟨g, uc ((W).set a q.a), 61⟩) rfl b (.int .u32 q.b)
  simp only [List.set_cons_zero, uc_set] at hB2
  clear hB
  refine any_one (i := 25) (by kernel_rfl) rfl (fun K hK => ?_)
  replace hK := hide hK
  replace hB2 := hide hB2
  go_simp
  replace hB := unhide hB2
  refine (unhide hK).out _ _ trivial (fun _ => ?_)
  clear hK K hB2 fz cz
  generalize World.setCell _ _ _ = v at *
  simp only [Act.put, List.setIfInBounds_toArray, List.set_cons_zero, List.set_cons_succ, List.getElem_toArray, List.getElem_cons_zero, List.getElem_cons_succ]
  refine any_take (i := 26) (v := (.pointer (some ⟨g, c, none⟩))) #[true, true, true, true, true, true, true, true, true, true, true, true, true, true, true, true, true, true, true, true, true, true, true, true, true, true, false, false, false, false] rfl (by kernel_rfl) (by kernel_rfl) (by kernel_rfl) (by kernel_rfl) (fun _ _ _ h => h) (.inl ⟨by kernel_rfl, fun x_ hu => by go_simp⟩) trivial ?_
  simp only [Act.put, List.setIfInBounds_toArray, List.set_cons_zero, List.set_cons_succ, List.getElem_toArray, List.getElem_cons_zero, List.getElem_cons_succ]
  have fz := froz_of (i := c) (hB.get 0 (x := ⟨g, uc (((W).set a q.a).set b q.b), 61⟩) rfl)
  have cz := uc_cell (hB.get 0 (x := ⟨g, uc (((W).set a q.a).set b q.b), 61⟩) rfl) c (by (try simp only [List.length_set]); omega)
  generalize List.getD _ _ _ = z2 at cz
  have hB2 := hB.cell 0 (x := ⟨g, uc (((W).set a q.a).set b q.b), 61⟩) rfl c (.int .u32 q.c)
  simp only [List.set_cons_zero, uc_set] at hB2
  clear hB
  refine any_one (i := 27) (by kernel_rfl) rfl (fun K hK => ?_)
  replace hK := hide hK
  replace hB2 := hide hB2
  go_simp
  replace hB := unhide hB2
  refine (unhide hK).out _ _ trivial (fun _ => ?_)
  clear hK K hB2 fz cz
  generalize World.setCell _ _ _ = v at *
  simp only [Act.put, List.setIfInBounds_toArray, List.set_cons_zero, List.set_cons_succ, List.getElem_toArray, List.getElem_cons_zero, List.getElem_cons_succ]
  refine any_take (i := 28) (v := (.pointer (some ⟨g, d, none⟩))) #[true, true, true, true, true, true, true, true, true, true, true, true, true, true, true, true, true, true, true, true, true, true, true, true, true, true, true, true, false, false] rfl (by kernel_rfl) (by kernel_rfl) (by kernel_rfl) (by kernel_rfl) (fun _ _ _ h => h) (.inl ⟨by kernel_rfl, fun x_ hu => by go_simp⟩) trivial ?_
  simp only [Act.put, List.setIfInBounds_toArray, List.set_cons_zero, List.set_cons_succ, List.getElem_toArray, List.getElem_cons_zero, List.getElem_cons_succ]
  have fz := froz_of (i := d) (hB.get 0 (x := ⟨g, uc ((((W).set a q.a).set b q.b).set c q.c), 61⟩) rfl)
  have cz := uc_cell (hB.get 0 (x := ⟨g, uc ((((W).set a q.a).set b q.b).set c q.c), 61⟩) rfl) d (by (try simp only [List.length_set]); omega)
  generalize List.getD _ _ _ = z3 at cz
  have hB2 := hB.cell 0 (x := ⟨g, uc ((((W).set a q.a).set b q.b).set c q.c), 61⟩) rfl d (.int .u32 q.d)
  simp only [List.set_cons_zero, uc_set] at hB2
  clear hB
  refine any_one (i := 29) (by kernel_rfl) rfl (fun K hK => ?_)
  replace hK := hide hK
  replace hB2 := hide hB2
  go_simp
  replace hB := unhide hB2
  refine (unhide hK).out _ _ trivial (fun _ => ?_)
  clear hK K hB2 fz cz
  generalize World.setCell _ _ _ = v at *
  simp only [Act.put, List.setIfInBounds_toArray, List.set_cons_zero, List.set_cons_succ, List.getElem_toArray, List.getElem_cons_zero, List.getElem_cons_succ]
  refine any_done (by kernel_rfl) ?_
  go_end0
  rw [unhide hT]
  exact ⟨rfl, hB⟩
end Go.Proofs.Ytdekjbdkpchbjaa
