/-
  Of layer 11: what the proofs lean on.
-/
import Derived.ProofKit
import Derived.OpenShut
import Derived.SizedLaws
import Derived.Deep.Strs
import Derived.Deep.Grids
import Derived.Lib.SmallJoins
import Derived.Test.YtomihjeiaignnaaDoorG4
namespace Go.Proofs.YtomihjeiaignnaaDoor
open Go.RowKit
set_option maxRecDepth 100000
set_option linter.unusedSimpArgs false
set_option linter.unusedVariables false
def snapL (B : List (List Int)) (n : Nat) (s : Sup) : List Int := (rows (fun i => B.getD i []) (2 + s.place * ((n - 2) / 4)) ((s.size + 63) / 64)).take s.size
def Rsn (B : List (List Int)) (n : Nat) (w : World) (r : Ending) (w' : World) : Prop :=
  Gr w w' ∧ (((cntS (B.getD 0 []) (B.getD 1 [])).2 = false ∨ 64 * ((n - 2) / 4) < (cntS (B.getD 0 []) (B.getD 1 [])).1.size) → r = .returned (.tuple #[.slice none 0 0, .bool false])) ∧
  ((cntS (B.getD 0 []) (B.getD 1 [])).2 = true → (cntS (B.getD 0 []) (B.getD 1 [])).1.size ≤ 64 * ((n - 2) / 4) → ∃ v, r = .returned (.tuple #[v, .bool (decide (sh16 (snapL B n (cntS (B.getD 0 []) (B.getD 1 [])).1) = (cntS (B.getD 0 []) (B.getD 1 [])).1.hash))]) ∧ Ob w.heap.size w' v (snapL B n (cntS (B.getD 0 []) (B.getD 1 [])).1))
theorem rsn_no {B : List (List Int)} {n : Nat} {w w' : World} {c : Sup × Bool} (e : c = cntS (B.getD 0 []) (B.getD 1 [])) (h : c.2 = false ∨ 64 * ((n - 2) / 4) < c.1.size) (g : Gr w w') : Rsn B n w (.returned (.tuple #[.slice none 0 0, .bool false])) w' := by
  unfold Rsn
  rw [← e]
  refine ⟨g, fun _ => rfl, fun h1 h2 => ?_⟩
  rcases h with h | h
  · rw [h] at h1; cases h1
  · omega
theorem rsn_yes {B : List (List Int)} {n : Nat} {w w' : World} {c : Sup × Bool} (e : c = cntS (B.getD 0 []) (B.getD 1 [])) (h : c.2 = true) (h2 : c.1.size ≤ 64 * ((n - 2) / 4)) (g : Gr w w') {v : Value} {L : List Int} {t : Bool} (hL : L = snapL B n c.1) (ht : t = decide (sh16 L = c.1.hash)) (hO : Ob w.heap.size w' v L) : Rsn B n w (.returned (.tuple #[v, .bool t])) w' := by
  unfold Rsn
  rw [← e]
  refine ⟨g, fun h1 => ?_, fun _ _ => ⟨v, by rw [ht, hL], by rw [← hL]; exact hO⟩⟩
  rcases h1 with h1 | h1
  · rw [h] at h1; cases h1
  · omega
theorem sv_place {v : World} {g : Nat} {C : Array Value} {t : TypeId} (h : v.heap[g]? = some (.cells C t (0, 0))) {X0 X1 X2 : Nat} {H : List Int} {ha : Option Addr} {hc : Nat} {r : Bool} (e : C = svl ⟨X0, X1, X2, H⟩ ha hc r) : v.cell? ⟨g, 0, none⟩ = some (.int .i64 (X0 : Int)) := by subst e; exact cell_of h (i := 0) rfl
theorem sv_size {v : World} {g : Nat} {C : Array Value} {t : TypeId} (h : v.heap[g]? = some (.cells C t (0, 0))) {X0 X1 X2 : Nat} {H : List Int} {ha : Option Addr} {hc : Nat} {r : Bool} (e : C = svl ⟨X0, X1, X2, H⟩ ha hc r) : v.cell? ⟨g, 2, none⟩ = some (.int .i64 (X2 : Int)) := by subst e; exact cell_of h (i := 2) rfl
theorem sv_hash {v : World} {g : Nat} {C : Array Value} {t : TypeId} (h : v.heap[g]? = some (.cells C t (0, 0))) {X0 X1 X2 : Nat} {H : List Int} {ha : Option Addr} {hc : Nat} {r : Bool} (e : C = svl ⟨X0, X1, X2, H⟩ ha hc r) : v.cell? ⟨g, 3, none⟩ = some (.slice ha 16 hc) := by subst e; exact cell_of h (i := 3) rfl
theorem sv_right {v : World} {g : Nat} {C : Array Value} {t : TypeId} (h : v.heap[g]? = some (.cells C t (0, 0))) {X0 X1 X2 : Nat} {H : List Int} {ha : Option Addr} {hc : Nat} {r : Bool} (e : C = svl ⟨X0, X1, X2, H⟩ ha hc r) : v.cell? ⟨g, 4, none⟩ = some (.bool r) := by subst e; exact cell_of h (i := 4) rfl
theorem row_lb {v : World} {p o : Nat} {b : List Int} (h : v.rangeAt p o (bv b)) (hb : BB b) : Lb v (some ⟨p, o, none⟩) 64 64 b := by
  refine ⟨hb.1, hb.2, .inr ⟨p, o, rfl, fun j hj => h j _ ?_⟩, by omega, by omega⟩
  unfold bv
  rw [List.getElem?_map, List.getD_eq_getElem?_getD, List.getElem?_eq_getElem hj]
  rfl
theorem ob_none (b : Nat) (w : World) : Ob b w (.slice none 0 0) [] := ⟨rfl, .inl ⟨rfl, rfl⟩⟩
set_option maxHeartbeats 400000 in
theorem rsnap_ok (B : List (List Int)) (hB0 : ∀ b ∈ B, BB b) (sa : Option Addr) (n sc : Nat) (hn : 2 ≤ n) (hn2 : n ≤ 1000000) (w : World) (hL : Ls 64 w sa n sc (B.map bv)) : Calls Tryd.prog 16 #[.agg #[.slice sa n sc]] w (Rsn B n w) := by
  obtain ⟨T, hT⟩ : ∃ T, T = Rsn B n w := ⟨_, rfl⟩
  rw [← hT]
  replace hT := hide hT
  have hBl : B.length = n := by have := hL.len; rw [List.length_map] at this; exact this
  obtain ⟨p0, o0, rfl, -⟩ := hL.at_ 0 (by omega)
  have hcn := cnt_ok (hB0 _ (mem_of_getD (d := []) (i := 0) (by omega))) (hB0 _ (mem_of_getD (d := []) (i := 1) (by omega)))
  obtain ⟨h, hh⟩ : ∃ h, h = (n - 2) / 4 := ⟨_, rfl⟩
  have h4 : 2 + 4 * h ≤ n := by omega
  obtain ⟨m, hm⟩ : ∃ m, m = 64 * h := ⟨_, rfl⟩
  have e64 : IntKind.i64.wrap (64 * (h : Int)) = (m : Int) := by rw [IntKind.wrap_i64]; omega
  replace hh := hide hh; replace hL := hide hL; replace hB0 := hide hB0; replace hcn := hide hcn; replace hm := hide hm
  go_enter Tryd.func16, Tryd.ntmps16
  go_upto_region 1 with fail
  have hB := ((Bl.nil w).new #[.slice (some ⟨p0, o0, none⟩) n sc] 38)
  simp only [size_alloc, List.nil_append, List.cons_append] at hB
  generalize World.alloc _ _ = u at *
  replace hB : Bl w [⟨w.heap.size, #[.slice (some ⟨p0, o0, none⟩) n sc], 38⟩] u := hB
  refine wp_region_lit ?_
  refine list_val (.agg #[.slice (some ⟨p0, o0, none⟩) n sc]) (by kernel_rfl) (exec_arr _ 38 (.tmp 1) rfl (w.heap.size) (by kernel_rfl) #[.slice (some ⟨p0, o0, none⟩) n sc] 38 _ (hB.get 0 (x := ⟨w.heap.size, #[.slice (some ⟨p0, o0, none⟩) n sc], 38⟩) rfl) Tryd.underlying38 rfl (by rw [Tryd.infoRd11]; rfl)) ?_
  simp only [Act.put, List.setIfInBounds_toArray, List.set_cons_zero, List.set_cons_succ, List.getElem_toArray, List.getElem_cons_zero, List.getElem_cons_succ]
  refine list_call 26 #[.agg #[.slice (some ⟨p0, o0, none⟩) n sc]] (by kernel_rfl) (by kernel_rfl) ((rcounts_ok B (unhide hB0) _ n sc hn _ ((unhide hL).gr hB.gr)).mono ?_)
  rintro r u1 ⟨ha, hc, rfl, hO, hg⟩
  refine ⟨_, rfl, ?_⟩
  have hlh := ob_base hO hB.gr.size
  replace hB := hB.more hg
  clear hg hO
  obtain ⟨SV, hSV⟩ : ∃ X, X = svl (cntS (B.getD 0 []) (B.getD 1 [])).1 ha hc (cntS (B.getD 0 []) (B.getD 1 [])).2 := ⟨_, rfl⟩
  rw [← hSV]
  have sz : SV.size = 5 := by rw [hSV]; rfl
  have so : SV.all (·.oneCell') = true := by rw [hSV]; exact svl_one ..
  replace hSV := hide hSV; replace so := hide so
  simp only [Act.put, List.setIfInBounds_toArray, List.set_cons_zero, List.set_cons_succ, List.getElem_toArray, List.getElem_cons_zero, List.getElem_cons_succ]
  refine list_valw (.pointer (some ⟨u1.heap.size, 0, none⟩)) (u1.alloc (.cells ZSu 62 (0, 0))) (by kernel_rfl) (by kernel_rfl) ?_
  replace hlh := hlh.gr ((Gr.refl u1).alloc (.cells ZSu 62 (0, 0)))
  replace hB := hB.new ZSu 62
  simp only [List.nil_append, List.cons_append] at hB
  generalize World.alloc _ _ = u2 at *
  generalize u1.heap.size = h1 at *
  replace hB : Bl w [⟨w.heap.size, #[.slice (some ⟨p0, o0, none⟩) n sc], 38⟩, ⟨h1, ZSu, 62⟩] u2 := hB
  simp only [Act.put, List.setIfInBounds_toArray, List.set_cons_zero, List.set_cons_succ, List.getElem_toArray, List.getElem_cons_zero, List.getElem_cons_succ]
  refine list_store 62 (.tmp 4) (.tmp 8) (h1) (SV) 62 ZSu (by kernel_rfl) rfl (by kernel_rfl) (by kernel_rfl) (hB.get 1 (x := ⟨h1, ZSu, 62⟩) rfl) (by rw [Tryd.infoSu, sz]) ((show ZSu.size = 5 from rfl).trans sz.symm) (unhide so) ?_
  replace hlh := ob_bt hlh (hB.get 1 (x := ⟨h1, ZSu, 62⟩) rfl) (show (62 : TypeId) ≠ 5 by decide) ((Bt.refl h1 _).row_self (SV))
  replace hB := hB.set 1 (x := ⟨h1, ZSu, 62⟩) rfl (SV)
  simp only [List.set_cons_zero, List.set_cons_succ] at hB
  generalize World.setRow _ _ _ = u3 at *
  replace hB : Bl w [⟨w.heap.size, #[.slice (some ⟨p0, o0, none⟩) n sc], 38⟩, ⟨h1, SV, 62⟩] u3 := hB
  simp only [Act.put, List.setIfInBounds_toArray, List.set_cons_zero, List.set_cons_succ, List.getElem_toArray, List.getElem_cons_zero, List.getElem_cons_succ]
  refine wpList_nil ?_
  obtain ⟨cs, hcs⟩ : ∃ c, c = cntS (B.getD 0 []) (B.getD 1 []) := ⟨_, rfl⟩
  replace hcn := unhide hcn
  replace hSV := unhide hSV
  rw [← hcs] at hSV hlh hcn
  obtain ⟨⟨X0, X1, X2, H⟩, rr⟩ := cs
  dsimp only at hSV hlh hcn
  obtain ⟨z4, hHl, hHb, hpl⟩ := hcn
  replace hSV := hide hSV; replace hcs := hide hcs; replace hlh := hide hlh; replace hHb := hide hHb; replace hpl := hide hpl
  replace hB := hide hB
  go_upto_region 2 with fail
  replace hB := unhide hB
  cases rr
  case false =>
    refine any_start (S := fun v => Bl w [⟨w.heap.size, #[.slice (some ⟨p0, o0, none⟩) n sc], 38⟩, ⟨h1, SV, 62⟩] v) (by kernel_rfl) ?_
    replace hB := hB.drew
    replace hlh := hide ((unhide hlh).gr (Gr.refl _).drew)
    generalize World.drew _ = x0 at *
    simp only [List.size_toArray, List.length_cons, List.length_nil, Array.replicate, List.replicate]
    refine any_take (i := 0) (v := (.pointer (some ⟨h1, 4, none⟩))) #[false, false, false, false, false, false, false, false, false, false, false] rfl (by kernel_rfl) (by kernel_rfl) (by kernel_rfl) (by kernel_rfl) (fun _ _ _ h => h) (.inl ⟨by kernel_rfl, fun x_ hu => by kernel_rfl⟩) hB ?_
    simp only [Act.put, List.setIfInBounds_toArray, List.set_cons_zero, List.set_cons_succ, List.getElem_toArray, List.getElem_cons_zero, List.getElem_cons_succ]
    refine any_take (i := 1) (v := (.bool false)) #[true, false, false, false, false, false, false, false, false, false, false] rfl (by kernel_rfl) (by kernel_rfl) (by kernel_rfl) (by kernel_rfl) (fun _ _ _ h => h) (.inl ⟨by kernel_rfl, fun x_ hu => exec_bool _ (.tmp 9) rfl h1 4 (by kernel_rfl) _ (sv_right (hu.get 1 (x := ⟨h1, SV, 62⟩) rfl) (unhide hSV))⟩) hB ?_
    simp only [Act.put, List.setIfInBounds_toArray, List.set_cons_zero, List.set_cons_succ, List.getElem_toArray, List.getElem_cons_zero, List.getElem_cons_succ]
    refine any_take (i := 2) (v := (.bool true)) #[true, true, false, false, false, false, false, false, false, false, false] rfl (by kernel_rfl) (by kernel_rfl) (by kernel_rfl) (by kernel_rfl) (fun _ _ _ h => h) (.inl ⟨by kernel_rfl, fun x_ hu => by kernel_rfl⟩) hB ?_
    simp only [Act.put, List.setIfInBounds_toArray, List.set_cons_zero, List.set_cons_succ, List.getElem_toArray, List.getElem_cons_zero, List.getElem_cons_succ]
    refine any_take (i := 3) (v := (.bool true)) #[true, true, true, false, false, false, false, false, false, false, false] rfl (by kernel_rfl) (by kernel_rfl) (by kernel_rfl) (by kernel_rfl) (fun _ _ _ h => h) (.inl ⟨by kernel_rfl, fun x_ hu => by kernel_rfl⟩) hB ?_
    simp only [Act.put, List.setIfInBounds_toArray, List.set_cons_zero, List.set_cons_succ, List.getElem_toArray, List.getElem_cons_zero, List.getElem_cons_succ]
    refine any_take (i := 4) (v := undef) #[true, true, true, true, false, false, false, false, false, false, false] rfl (by kernel_rfl) (by kernel_rfl) (by kernel_rfl) (by kernel_rfl) (fun _ _ _ h => h) (.inr ⟨by kernel_rfl, rfl⟩) hB ?_
    simp only [Act.put, List.setIfInBounds_toArray, List.set_cons_zero, List.set_cons_succ, List.getElem_toArray, List.getElem_cons_zero, List.getElem_cons_succ]
    refine any_take (i := 5) (v := undef) #[true, true, true, true, true, false, false, false, false, false, false] rfl (by kernel_rfl) (by kernel_rfl) (by kernel_rfl) (by kernel_rfl) (fun _ _ _ h => h) (.inr ⟨by kernel_rfl, rfl⟩) hB ?_
    simp only [Act.put, List.setIfInBounds_toArray, List.set_cons_zero, List.set_cons_succ, List.getElem_toArray, List.getElem_cons_zero, List.getElem_cons_succ]
    refine any_take (i := 6) (v := undef) #[true, true, true, true, true, true, false, false, false, false, false] rfl (by kernel_rfl) (by kernel_rfl) (by kernel_rfl) (by kernel_rfl) (fun _ _ _ h => h) (.inr ⟨by kernel_rfl, rfl⟩) hB ?_
    simp only [Act.put, List.setIfInBounds_toArray, List.set_cons_zero, List.set_cons_succ, List.getElem_toArray, List.getElem_cons_zero, List.getElem_cons_succ]
    refine any_take (i := 7) (v := undef) #[true, true, true, true, true, true, true, false, false, false, false] rfl (by kernel_rfl) (by kernel_rfl) (by kernel_rfl) (by kernel_rfl) (fun _ _ _ h => h) (.inr ⟨by kernel_rfl, rfl⟩) hB ?_
    simp only [Act.put, List.setIfInBounds_toArray, List.set_cons_zero, List.set_cons_succ, List.getElem_toArray, List.getElem_cons_zero, List.getElem_cons_succ]
    refine any_take (i := 8) (v := undef) #[true, true, true, true, true, true, true, true, false, false, false] rfl (by kernel_rfl) (by kernel_rfl) (by kernel_rfl) (by kernel_rfl) (fun _ _ _ h => h) (.inr ⟨by kernel_rfl, rfl⟩) hB ?_
    simp only [Act.put, List.setIfInBounds_toArray, List.set_cons_zero, List.set_cons_succ, List.getElem_toArray, List.getElem_cons_zero, List.getElem_cons_succ]
    refine any_take (i := 9) (v := undef) #[true, true, true, true, true, true, true, true, true, false, false] rfl (by kernel_rfl) (by kernel_rfl) (by kernel_rfl) (by kernel_rfl) (fun _ _ _ h => h) (.inr ⟨by kernel_rfl, rfl⟩) hB ?_
    simp only [Act.put, List.setIfInBounds_toArray, List.set_cons_zero, List.set_cons_succ, List.getElem_toArray, List.getElem_cons_zero, List.getElem_cons_succ]
    refine any_take (i := 10) (v := (.bool true)) #[true, true, true, true, true, true, true, true, true, true, false] rfl (by kernel_rfl) (by kernel_rfl) (by kernel_rfl) (by kernel_rfl) (fun _ _ _ h => h) (.inl ⟨by kernel_rfl, fun x_ hu => by kernel_rfl⟩) hB ?_
    simp only [Act.put, List.setIfInBounds_toArray, List.set_cons_zero, List.set_cons_succ, List.getElem_toArray, List.getElem_cons_zero, List.getElem_cons_succ]
    refine any_done (by kernel_rfl) ?_
    have hZ : Hid (Rsn B n w (.returned (.tuple #[.slice none 0 0, .bool false])) x0) := rsn_no (unhide hcs) (.inl rfl) hB.gr
    replace hB := hide hB
    go_wp2_with fail
    rw [unhide hT]
    exact unhide hZ
  case true =>
    replace hpl := unhide hpl rfl
    by_cases hbig : m < X2
    · skip
      have bI : (m : Int) < (X2 : Int) := by omega
      refine any_start (S := fun v => Bl w [⟨w.heap.size, #[.slice (some ⟨p0, o0, none⟩) n sc], 38⟩, ⟨h1, SV, 62⟩] v) (by kernel_rfl) ?_
      replace hB := hB.drew
      replace hlh := hide ((unhide hlh).gr (Gr.refl _).drew)
      generalize World.drew _ = x0 at *
      simp only [List.size_toArray, List.length_cons, List.length_nil, Array.replicate, List.replicate]
      refine any_take (i := 0) (v := (.pointer (some ⟨h1, 4, none⟩))) #[false, false, false, false, false, false, false, false, false, false, false] rfl (by kernel_rfl) (by kernel_rfl) (by kernel_rfl) (by kernel_rfl) (fun _ _ _ h => h) (.inl ⟨by kernel_rfl, fun x_ hu => by kernel_rfl⟩) hB ?_
      simp only [Act.put, List.setIfInBounds_toArray, List.set_cons_zero, List.set_cons_succ, List.getElem_toArray, List.getElem_cons_zero, List.getElem_cons_succ]
      refine any_take (i := 1) (v := (.bool true)) #[true, false, false, false, false, false, false, false, false, false, false] rfl (by kernel_rfl) (by kernel_rfl) (by kernel_rfl) (by kernel_rfl) (fun _ _ _ h => h) (.inl ⟨by kernel_rfl, fun x_ hu => exec_bool _ (.tmp 9) rfl h1 4 (by kernel_rfl) _ (sv_right (hu.get 1 (x := ⟨h1, SV, 62⟩) rfl) (unhide hSV))⟩) hB ?_
      simp only [Act.put, List.setIfInBounds_toArray, List.set_cons_zero, List.set_cons_succ, List.getElem_toArray, List.getElem_cons_zero, List.getElem_cons_succ]
      refine any_take (i := 2) (v := (.bool false)) #[true, true, false, false, false, false, false, false, false, false, false] rfl (by kernel_rfl) (by kernel_rfl) (by kernel_rfl) (by kernel_rfl) (fun _ _ _ h => h) (.inl ⟨by kernel_rfl, fun x_ hu => by kernel_rfl⟩) hB ?_
      simp only [Act.put, List.setIfInBounds_toArray, List.set_cons_zero, List.set_cons_succ, List.getElem_toArray, List.getElem_cons_zero, List.getElem_cons_succ]
      refine any_take (i := 3) (v := (.bool false)) #[true, true, true, false, false, false, false, false, false, false, false] rfl (by kernel_rfl) (by kernel_rfl) (by kernel_rfl) (by kernel_rfl) (fun _ _ _ h => h) (.inl ⟨by kernel_rfl, fun x_ hu => by kernel_rfl⟩) hB ?_
      simp only [Act.put, List.setIfInBounds_toArray, List.set_cons_zero, List.set_cons_succ, List.getElem_toArray, List.getElem_cons_zero, List.getElem_cons_succ]
      refine any_take (i := 4) (v := (.pointer (some ⟨h1, 2, none⟩))) #[true, true, true, true, false, false, false, false, false, false, false] rfl (by kernel_rfl) (by kernel_rfl) (by kernel_rfl) (by kernel_rfl) (fun _ _ _ h => h) (.inl ⟨by kernel_rfl, fun x_ hu => by kernel_rfl⟩) hB ?_
      simp only [Act.put, List.setIfInBounds_toArray, List.set_cons_zero, List.set_cons_succ, List.getElem_toArray, List.getElem_cons_zero, List.getElem_cons_succ]
      refine any_take (i := 5) (v := (.int .i64 (X2 : Int))) #[true, true, true, true, true, false, false, false, false, false, false] rfl (by kernel_rfl) (by kernel_rfl) (by kernel_rfl) (by kernel_rfl) (fun _ _ _ h => h) (.inl ⟨by kernel_rfl, fun x_ hu => exec_i64 _ (.tmp 13) rfl h1 2 (by kernel_rfl) _ (sv_size (hu.get 1 (x := ⟨h1, SV, 62⟩) rfl) (unhide hSV))⟩) hB ?_
      simp only [Act.put, List.setIfInBounds_toArray, List.set_cons_zero, List.set_cons_succ, List.getElem_toArray, List.getElem_cons_zero, List.getElem_cons_succ]
      refine any_take (i := 6) (v := (.agg #[.slice (some ⟨p0, o0, none⟩) n sc])) #[true, true, true, true, true, true, false, false, false, false, false] rfl (by kernel_rfl) (by kernel_rfl) (by kernel_rfl) (by kernel_rfl) (fun _ _ _ h => h) (.inl ⟨by kernel_rfl, fun x_ hu => exec_arr _ 38 (.tmp 1) rfl (w.heap.size) (by kernel_rfl) #[.slice (some ⟨p0, o0, none⟩) n sc] 38 _ (hu.get 0 (x := ⟨w.heap.size, #[.slice (some ⟨p0, o0, none⟩) n sc], 38⟩) rfl) Tryd.underlying38 rfl (by rw [Tryd.infoRd11]; rfl)⟩) hB ?_
      simp only [Act.put, List.setIfInBounds_toArray, List.set_cons_zero, List.set_cons_succ, List.getElem_toArray, List.getElem_cons_zero, List.getElem_cons_succ]
      refine any_one (i := 7) (by kernel_rfl) rfl (fun K_ hQ => ?_)
      refine step_callw (by kernel_rfl) 43 #[.agg #[.slice (some ⟨p0, o0, none⟩) n sc]] (by kernel_rfl) ((rhalf_ok (some ⟨p0, o0, none⟩) n sc hn hn2 _).mono ?_)
      rintro r u4 ⟨rfl, hg⟩
      refine ⟨_, rfl, ?_⟩
      rw [← unhide hh]
      replace hB := hB.more hg
      replace hlh := hide ((unhide hlh).gr hg)
      clear hg
      refine hQ.out _ _ hB (fun _ => ?_)
      clear hQ K_
      simp only [Act.put, List.setIfInBounds_toArray, List.set_cons_zero, List.set_cons_succ, List.getElem_toArray, List.getElem_cons_zero, List.getElem_cons_succ]
      refine any_take (i := 8) (v := (.int .i64 (m : Int))) #[true, true, true, true, true, true, true, true, false, false, false] rfl (by kernel_rfl) (by kernel_rfl) (by kernel_rfl) (by kernel_rfl) (fun _ _ _ h => h) (.inl ⟨by kernel_rfl, fun x_ hu => by go_simp⟩) hB ?_
      simp only [Act.put, List.setIfInBounds_toArray, List.set_cons_zero, List.set_cons_succ, List.getElem_toArray, List.getElem_cons_zero, List.getElem_cons_succ]
      refine any_take (i := 9) (v := (.bool true)) #[true, true, true, true, true, true, true, true, true, false, false] rfl (by kernel_rfl) (by kernel_rfl) (by kernel_rfl) (by kernel_rfl) (fun _ _ _ h => h) (.inl ⟨by kernel_rfl, fun x_ hu => by go_simp⟩) hB ?_
      simp only [Act.put, List.setIfInBounds_toArray, List.set_cons_zero, List.set_cons_succ, List.getElem_toArray, List.getElem_cons_zero, List.getElem_cons_succ]
      refine any_take (i := 10) (v := (.bool true)) #[true, true, true, true, true, true, true, true, true, true, false] rfl (by kernel_rfl) (by kernel_rfl) (by kernel_rfl) (by kernel_rfl) (fun _ _ _ h => h) (.inl ⟨by kernel_rfl, fun x_ hu => by kernel_rfl⟩) hB ?_
      simp only [Act.put, List.setIfInBounds_toArray, List.set_cons_zero, List.set_cons_succ, List.getElem_toArray, List.getElem_cons_zero, List.getElem_cons_succ]
      refine any_done (by kernel_rfl) ?_
      have hZ : Hid (Rsn B n w (.returned (.tuple #[.slice none 0 0, .bool false])) u4) := rsn_no (unhide hcs) (.inr (by show 64 * ((n - 2) / 4) < X2; rw [← unhide hh, ← unhide hm]; exact hbig)) hB.gr
      replace hB := hide hB
      go_wp2_with fail
      rw [unhide hT]
      exact unhide hZ
    have bI : ¬ (m : Int) < (X2 : Int) := by omega
    refine any_start (S := fun v => Bl w [⟨w.heap.size, #[.slice (some ⟨p0, o0, none⟩) n sc], 38⟩, ⟨h1, SV, 62⟩] v) (by kernel_rfl) ?_
    replace hB := hB.drew
    replace hlh := hide ((unhide hlh).gr (Gr.refl _).drew)
    generalize World.drew _ = x0 at *
    simp only [List.size_toArray, List.length_cons, List.length_nil, Array.replicate, List.replicate]
    refine any_take (i := 0) (v := (.pointer (some ⟨h1, 4, none⟩))) #[false, false, false, false, false, false, false, false, false, false, false] rfl (by kernel_rfl) (by kernel_rfl) (by kernel_rfl) (by kernel_rfl) (fun _ _ _ h => h) (.inl ⟨by kernel_rfl, fun x_ hu => by kernel_rfl⟩) hB ?_
    simp only [Act.put, List.setIfInBounds_toArray, List.set_cons_zero, List.set_cons_succ, List.getElem_toArray, List.getElem_cons_zero, List.getElem_cons_succ]
    refine any_take (i := 1) (v := (.bool true)) #[true, false, false, false, false, false, false, false, false, false, false] rfl (by kernel_rfl) (by kernel_rfl) (by kernel_rfl) (by kernel_rfl) (fun _ _ _ h => h) (.inl ⟨by kernel_rfl, fun x_ hu => exec_bool _ (.tmp 9) rfl h1 4 (by kernel_rfl) _ (sv_right (hu.get 1 (x := ⟨h1, SV, 62⟩) rfl) (unhide hSV))⟩) hB ?_
    simp only [Act.put, List.setIfInBounds_toArray, List.set_cons_zero, List.set_cons_succ, List.getElem_toArray, List.getElem_cons_zero, List.getElem_cons_succ]
    refine any_take (i := 2) (v := (.bool false)) #[true, true, false, false, false, false, false, false, false, false, false] rfl (by kernel_rfl) (by kernel_rfl) (by kernel_rfl) (by kernel_rfl) (fun _ _ _ h => h) (.inl ⟨by kernel_rfl, fun x_ hu => by kernel_rfl⟩) hB ?_
    simp only [Act.put, List.setIfInBounds_toArray, List.set_cons_zero, List.set_cons_succ, List.getElem_toArray, List.getElem_cons_zero, List.getElem_cons_succ]
    refine any_take (i := 3) (v := (.bool false)) #[true, true, true, false, false, false, false, false, false, false, false] rfl (by kernel_rfl) (by kernel_rfl) (by kernel_rfl) (by kernel_rfl) (fun _ _ _ h => h) (.inl ⟨by kernel_rfl, fun x_ hu => by kernel_rfl⟩) hB ?_
    simp only [Act.put, List.setIfInBounds_toArray, List.set_cons_zero, List.set_cons_succ, List.getElem_toArray, List.getElem_cons_zero, List.getElem_cons_succ]
    refine any_take (i := 4) (v := (.pointer (some ⟨h1, 2, none⟩))) #[true, true, true, true, false, false, false, false, false, false, false] rfl (by kernel_rfl) (by kernel_rfl) (by kernel_rfl) (by kernel_rfl) (fun _ _ _ h => h) (.inl ⟨by kernel_rfl, fun x_ hu => by kernel_rfl⟩) hB ?_
    simp only [Act.put, List.setIfInBounds_toArray, List.set_cons_zero, List.set_cons_succ, List.getElem_toArray, List.getElem_cons_zero, List.getElem_cons_succ]
    refine any_take (i := 5) (v := (.int .i64 (X2 : Int))) #[true, true, true, true, true, false, false, false, false, false, false] rfl (by kernel_rfl) (by kernel_rfl) (by kernel_rfl) (by kernel_rfl) (fun _ _ _ h => h) (.inl ⟨by kernel_rfl, fun x_ hu => exec_i64 _ (.tmp 13) rfl h1 2 (by kernel_rfl) _ (sv_size (hu.get 1 (x := ⟨h1, SV, 62⟩) rfl) (unhide hSV))⟩) hB ?_
    simp only [Act.put, List.setIfInBounds_toArray, List.set_cons_zero, List.set_cons_succ, List.getElem_toArray, List.getElem_cons_zero, List.getElem_cons_succ]
    refine any_take (i := 6) (v := (.agg #[.slice (some ⟨p0, o0, none⟩) n sc])) #[true, true, true, true, true, true, false, false, false, false, false] rfl (by kernel_rfl) (by kernel_rfl) (by kernel_rfl) (by kernel_rfl) (fun _ _ _ h => h) (.inl ⟨by kernel_rfl, fun x_ hu => exec_arr _ 38 (.tmp 1) rfl (w.heap.size) (by kernel_rfl) #[.slice (some ⟨p0, o0, none⟩) n sc] 38 _ (hu.get 0 (x := ⟨w.heap.size, #[.slice (some ⟨p0, o0, none⟩) n sc], 38⟩) rfl) Tryd.underlying38 rfl (by rw [Tryd.infoRd11]; rfl)⟩) hB ?_
    simp only [Act.put, List.setIfInBounds_toArray, List.set_cons_zero, List.set_cons_succ, List.getElem_toArray, List.getElem_cons_zero, List.getElem_cons_succ]
    refine any_one (i := 7) (by kernel_rfl) rfl (fun K_ hQ => ?_)
    refine step_callw (by kernel_rfl) 43 #[.agg #[.slice (some ⟨p0, o0, none⟩) n sc]] (by kernel_rfl) ((rhalf_ok (some ⟨p0, o0, none⟩) n sc hn hn2 _).mono ?_)
    rintro r u4 ⟨rfl, hg⟩
    refine ⟨_, rfl, ?_⟩
    rw [← unhide hh]
    replace hB := hB.more hg
    replace hlh := hide ((unhide hlh).gr hg)
    clear hg
    refine hQ.out _ _ hB (fun _ => ?_)
    clear hQ K_
    simp only [Act.put, List.setIfInBounds_toArray, List.set_cons_zero, List.set_cons_succ, List.getElem_toArray, List.getElem_cons_zero, List.getElem_cons_succ]
    refine any_take (i := 8) (v := (.int .i64 (m : Int))) #[true, true, true, true, true, true, true, true, false, false, false] rfl (by kernel_rfl) (by kernel_rfl) (by kernel_rfl) (by kernel_rfl) (fun _ _ _ h => h) (.inl ⟨by kernel_rfl, fun x_ hu => by go_simp⟩) hB ?_
    simp only [Act.put, List.setIfInBounds_toArray, List.set_cons_zero, List.set_cons_succ, List.getElem_toArray, List.getElem_cons_zero, List.getElem_cons_succ]
    refine any_take (i := 9) (v := (.bool false)) #[true, true, true, true, true, true, true, true, true, false, false] rfl (by kernel_rfl) (by kernel_rfl) (by kernel_rfl) (by kernel_rfl) (fun _ _ _ h => h) (.inl ⟨by kernel_rfl, fun x_ hu => by go_simp⟩) hB ?_
    simp only [Act.put, List.setIfInBounds_toArray, List.set_cons_zero, List.set_cons_succ, List.getElem_toArray, List.getElem_cons_zero, List.getElem_cons_succ]
    refine any_take (i := 10) (v := (.bool false)) #[true, true, true, true, true, true, true, true, true, true, false] rfl (by kernel_rfl) (by kernel_rfl) (by kernel_rfl) (by kernel_rfl) (fun _ _ _ h => h) (.inl ⟨by kernel_rfl, fun x_ hu => by kernel_rfl⟩) hB ?_
    simp only [Act.put, List.setIfInBounds_toArray, List.set_cons_zero, List.set_cons_succ, List.getElem_toArray, List.getElem_cons_zero, List.getElem_cons_succ]
    refine any_done (by kernel_rfl) ?_
    obtain ⟨Bf, hBf⟩ : ∃ f : Nat → List Int, f = fun i => B.getD i [] := ⟨_, rfl⟩
    obtain ⟨ph, hph⟩ : ∃ x, x = X0 * h := ⟨_, rfl⟩
    have hph1 : ph ≤ h := by
      rw [hph]
      have : X0 = 0 ∨ X0 = 1 := by omega
      rcases this with e | e <;> rw [e] <;> omega
    have hphI : (X0 : Int) * (h : Int) = (ph : Int) := by rw [hph, Int.natCast_mul]
    have ew1 : IntKind.i64.wrap ((X0 : Int) * (h : Int)) = (ph : Int) := by rw [hphI, IntKind.wrap_i64]; omega
    obtain ⟨o, ho⟩ : ∃ x, x = 2 + ph := ⟨_, rfl⟩
    have ew2 : IntKind.i64.wrap (2 + (ph : Int)) = (o : Int) := by rw [IntKind.wrap_i64]; omega
    obtain ⟨K, hK⟩ : ∃ x, x = (X2 + 63) / 64 := ⟨_, rfl⟩
    have hKh : K ≤ h := by have := unhide hm; omega
    have hmI : m = 64 * h := unhide hm
    have hbb : ∀ i, i < K → BB (Bf (o + i)) := by
      intro i hi
      rw [hBf]
      exact unhide hB0 _ (mem_of_getD (by omega))
    have hrl : ∀ k, k ≤ K → (rows Bf o k).length = 64 * k ∧ IsB (rows Bf o k) := fun k hk => rows_len k (fun i hi => hbb i (by omega))
    have hO0 : Hid (Ob w.heap.size u4 (.slice none 0 0) (rows Bf o 0)) := ob_none _ _
    replace hBf := hide hBf; replace hph := hide hph; replace ho := hide ho; replace hK := hide hK; replace hbb := hide hbb; replace hrl := hide hrl; replace hphI := hide hphI; replace hmI := hide hmI
    replace hB := hide hB
    go_wp2_with fail
    go_loopw [5, 6] (fun v iv wr => ∃ k : Nat, k ≤ K ∧ iv = .int .i64 (k : Int) ∧ Hid (Ob w.heap.size wr v (rows Bf o k)) ∧ Hid (Bl w [⟨w.heap.size, #[.slice (some ⟨p0, o0, none⟩) n sc], 38⟩, ⟨h1, SV, 62⟩] wr) ∧ Hid (Ob w.heap.size wr (.slice ha 16 hc) H)) (fun _ iv _ => K - (intOf iv).toNat)
    case atStart => exact ⟨0, by omega, rfl, hO0, hB, hlh⟩
    case round =>
    clear hO0 hB hlh
    obtain ⟨k, hk, rfl, hO, hB, hlh⟩ := hrel
    obtain ⟨q, hq⟩ : ∃ x, x = 64 * k := ⟨_, rfl⟩
    have hkq := unhide hrl k hk
    rw [← hq] at hkq
    obtain ⟨ka, kd, rfl, kl⟩ := ob_lb (unhide hO) hkq.2 (n := q) hkq.1
    have hKe := unhide hK
    have hme := unhide hmI
    replace kl := hide kl; replace hkq := hide hkq
    by_cases hk8 : k < K
    · skip
      have kI : (q : Int) < (X2 : Int) := by omega
      obtain ⟨J, hJ⟩ : ∃ x, x = o + k := ⟨_, rfl⟩
      have ho2 := unhide ho
      have hJn : J < n := by omega
      have ew3 : IntKind.i64.wrap ((o : Int) + (k : Int)) = (J : Int) := by rw [IntKind.wrap_i64]; omega
      have ew4 : IntKind.i64.wrap ((k : Int) + 1) = ((k + 1 : Nat) : Int) := by rw [IntKind.wrap_i64]; omega
      have hqs : q + 64 ≤ 140737488355328 := by omega
      have hbJ : BB (Bf J) := by rw [hJ]; exact unhide hbb k hk8
      replace hbJ := hide hbJ; replace hJ := hide hJ
      clear ho2
      replace hKe := hide hKe; replace hme := hide hme; replace hq := hide hq
      go_upto_region 6 with fail
      replace hB := unhide hB
      refine wp_region_lit ?_
      refine list_val (.slice ka q kd) (by kernel_rfl) (by kernel_rfl) ?_
      simp only [Act.put, List.setIfInBounds_toArray, List.set_cons_zero, List.set_cons_succ, List.getElem_toArray, List.getElem_cons_zero, List.getElem_cons_succ]
      refine list_val (.int .i64 q) (by kernel_rfl) (by kernel_rfl) ?_
      simp only [Act.put, List.setIfInBounds_toArray, List.set_cons_zero, List.set_cons_succ, List.getElem_toArray, List.getElem_cons_zero, List.getElem_cons_succ]
      refine list_val (.pointer (some ⟨h1, 2, none⟩)) (by kernel_rfl) (by kernel_rfl) ?_
      simp only [Act.put, List.setIfInBounds_toArray, List.set_cons_zero, List.set_cons_succ, List.getElem_toArray, List.getElem_cons_zero, List.getElem_cons_succ]
      refine list_val (.int .i64 (X2 : Int)) (by kernel_rfl) (exec_i64 _ (.tmp 22) rfl h1 2 (by kernel_rfl) _ (sv_size (hB.get 1 (x := ⟨h1, SV, 62⟩) rfl) (unhide hSV))) ?_
      simp only [Act.put, List.setIfInBounds_toArray, List.set_cons_zero, List.set_cons_succ, List.getElem_toArray, List.getElem_cons_zero, List.getElem_cons_succ]
      refine list_val (.bool true) (by kernel_rfl) (by go_simp) ?_
      simp only [Act.put, List.setIfInBounds_toArray, List.set_cons_zero, List.set_cons_succ, List.getElem_toArray, List.getElem_cons_zero, List.getElem_cons_succ]
      refine wpList_nil ?_
      replace hB := hide hB
      go_upto_region 8 with fail
      replace hB := unhide hB
      refine any_start (S := fun v => Bl w [⟨w.heap.size, #[.slice (some ⟨p0, o0, none⟩) n sc], 38⟩, ⟨h1, SV, 62⟩] v) (by kernel_rfl) ?_
      replace hB := hB.drew
      replace hlh := hide ((unhide hlh).gr (Gr.refl _).drew)
      replace kl := hide ((unhide kl).gr (Gr.refl _).drew)
      generalize World.drew _ = x0 at *
      simp only [List.size_toArray, List.length_cons, List.length_nil, Array.replicate, List.replicate]
      refine any_take (i := 0) (v := (.slice ka q kd)) #[false, false, false, false, false, false, false, false, false, false, false, false, false, false, false] rfl (by kernel_rfl) (by kernel_rfl) (by kernel_rfl) (by kernel_rfl) (fun _ _ _ h => h) (.inl ⟨by kernel_rfl, fun x_ hu => by kernel_rfl⟩) hB ?_
      simp only [Act.put, List.setIfInBounds_toArray, List.set_cons_zero, List.set_cons_succ, List.getElem_toArray, List.getElem_cons_zero, List.getElem_cons_succ]
      refine any_take (i := 1) (v := (.pointer (some ⟨w.heap.size, 0, none⟩))) #[true, false, false, false, false, false, false, false, false, false, false, false, false, false, false] rfl (by kernel_rfl) (by kernel_rfl) (by kernel_rfl) (by kernel_rfl) (fun _ _ _ h => h) (.inl ⟨by kernel_rfl, fun x_ hu => by kernel_rfl⟩) hB ?_
      simp only [Act.put, List.setIfInBounds_toArray, List.set_cons_zero, List.set_cons_succ, List.getElem_toArray, List.getElem_cons_zero, List.getElem_cons_succ]
      refine any_take (i := 2) (v := (.slice (some ⟨p0, o0, none⟩) n sc)) #[true, true, false, false, false, false, false, false, false, false, false, false, false, false, false] rfl (by kernel_rfl) (by kernel_rfl) (by kernel_rfl) (by kernel_rfl) (fun _ _ _ h => h) (.inl ⟨by kernel_rfl, fun x_ hu => exec_sb _ (.tmp 28) rfl (w.heap.size) 0 (by kernel_rfl) (some ⟨p0, o0, none⟩) n sc (cell_of (hu.get 0 (x := ⟨w.heap.size, #[.slice (some ⟨p0, o0, none⟩) n sc], 38⟩) rfl) (i := 0) rfl)⟩) hB ?_
      simp only [Act.put, List.setIfInBounds_toArray, List.set_cons_zero, List.set_cons_succ, List.getElem_toArray, List.getElem_cons_zero, List.getElem_cons_succ]
      refine any_take (i := 3) (v := (.pointer (some ⟨h1, 0, none⟩))) #[true, true, true, false, false, false, false, false, false, false, false, false, false, false, false] rfl (by kernel_rfl) (by kernel_rfl) (by kernel_rfl) (by kernel_rfl) (fun _ _ _ h => h) (.inl ⟨by kernel_rfl, fun x_ hu => by kernel_rfl⟩) hB ?_
      simp only [Act.put, List.setIfInBounds_toArray, List.set_cons_zero, List.set_cons_succ, List.getElem_toArray, List.getElem_cons_zero, List.getElem_cons_succ]
      refine any_take (i := 4) (v := (.int .i64 (X0 : Int))) #[true, true, true, true, false, false, false, false, false, false, false, false, false, false, false] rfl (by kernel_rfl) (by kernel_rfl) (by kernel_rfl) (by kernel_rfl) (fun _ _ _ h => h) (.inl ⟨by kernel_rfl, fun x_ hu => exec_i64 _ (.tmp 30) rfl h1 0 (by kernel_rfl) _ (sv_place (hu.get 1 (x := ⟨h1, SV, 62⟩) rfl) (unhide hSV))⟩) hB ?_
      simp only [Act.put, List.setIfInBounds_toArray, List.set_cons_zero, List.set_cons_succ, List.getElem_toArray, List.getElem_cons_zero, List.getElem_cons_succ]
      refine any_take (i := 5) (v := (.agg #[.slice (some ⟨p0, o0, none⟩) n sc])) #[true, true, true, true, true, false, false, false, false, false, false, false, false, false, false] rfl (by kernel_rfl) (by kernel_rfl) (by kernel_rfl) (by kernel_rfl) (fun _ _ _ h => h) (.inl ⟨by kernel_rfl, fun x_ hu => exec_arr _ 38 (.tmp 1) rfl (w.heap.size) (by kernel_rfl) #[.slice (some ⟨p0, o0, none⟩) n sc] 38 _ (hu.get 0 (x := ⟨w.heap.size, #[.slice (some ⟨p0, o0, none⟩) n sc], 38⟩) rfl) Tryd.underlying38 rfl (by rw [Tryd.infoRd11]; rfl)⟩) hB ?_
      simp only [Act.put, List.setIfInBounds_toArray, List.set_cons_zero, List.set_cons_succ, List.getElem_toArray, List.getElem_cons_zero, List.getElem_cons_succ]
      refine any_take (i := 9) (v := (.int .i64 (k : Int))) #[true, true, true, true, true, true, false, false, false, false, false, false, false, false, false] rfl (by kernel_rfl) (by kernel_rfl) (by kernel_rfl) (by kernel_rfl) (fun _ _ _ h => h) (.inl ⟨by kernel_rfl, fun x_ hu => by kernel_rfl⟩) hB ?_
      simp only [Act.put, List.setIfInBounds_toArray, List.set_cons_zero, List.set_cons_succ, List.getElem_toArray, List.getElem_cons_zero, List.getElem_cons_succ]
      refine any_one (i := 6) (by kernel_rfl) rfl (fun K_ hQ => ?_)
      refine step_callw (by kernel_rfl) 43 #[.agg #[.slice (some ⟨p0, o0, none⟩) n sc]] (by kernel_rfl) ((rhalf_ok (some ⟨p0, o0, none⟩) n sc hn hn2 _).mono ?_)
      rintro r y1 ⟨rfl, hg⟩
      refine ⟨_, rfl, ?_⟩
      rw [← unhide hh]
      replace hB := hB.more hg
      replace hlh := hide ((unhide hlh).gr hg)
      replace kl := hide ((unhide kl).gr hg)
      clear hg
      refine hQ.out _ _ hB (fun _ => ?_)
      clear hQ K_
      simp only [Act.put, List.setIfInBounds_toArray, List.set_cons_zero, List.set_cons_succ, List.getElem_toArray, List.getElem_cons_zero, List.getElem_cons_succ]
      refine any_take (i := 7) (v := (.int .i64 (ph : Int))) #[true, true, true, true, true, true, true, false, false, true, false, false, false, false, false] rfl (by kernel_rfl) (by kernel_rfl) (by kernel_rfl) (by kernel_rfl) (fun _ _ _ h => h) (.inl ⟨by kernel_rfl, fun x_ hu => by go_simp⟩) hB ?_
      simp only [Act.put, List.setIfInBounds_toArray, List.set_cons_zero, List.set_cons_succ, List.getElem_toArray, List.getElem_cons_zero, List.getElem_cons_succ]
      refine any_take (i := 8) (v := (.int .i64 (o : Int))) #[true, true, true, true, true, true, true, true, false, true, false, false, false, false, false] rfl (by kernel_rfl) (by kernel_rfl) (by kernel_rfl) (by kernel_rfl) (fun _ _ _ h => h) (.inl ⟨by kernel_rfl, fun x_ hu => by go_simp⟩) hB ?_
      simp only [Act.put, List.setIfInBounds_toArray, List.set_cons_zero, List.set_cons_succ, List.getElem_toArray, List.getElem_cons_zero, List.getElem_cons_succ]
      refine any_take (i := 10) (v := (.int .i64 (J : Int))) #[true, true, true, true, true, true, true, true, true, true, false, false, false, false, false] rfl (by kernel_rfl) (by kernel_rfl) (by kernel_rfl) (by kernel_rfl) (fun _ _ _ h => h) (.inl ⟨by kernel_rfl, fun x_ hu => by go_simp⟩) hB ?_
      simp only [Act.put, List.setIfInBounds_toArray, List.set_cons_zero, List.set_cons_succ, List.getElem_toArray, List.getElem_cons_zero, List.getElem_cons_succ]
      refine any_take (i := 11) (v := (.pointer (some ⟨p0, o0 + 64 * J, none⟩))) #[true, true, true, true, true, true, true, true, true, true, true, false, false, false, false] rfl (by kernel_rfl) (by kernel_rfl) (by kernel_rfl) (by kernel_rfl) (fun _ _ _ h => h) (.inl ⟨by kernel_rfl, fun x_ hu => exec_ib _ (.tmp 29) (.tmp 37) rfl p0 o0 n sc J rfl rfl hJn⟩) hB ?_
      simp only [Act.put, List.setIfInBounds_toArray, List.set_cons_zero, List.set_cons_succ, List.getElem_toArray, List.getElem_cons_zero, List.getElem_cons_succ]
      refine any_take (i := 12) (v := (.slice (some ⟨p0, o0 + 64 * J, none⟩) 64 64)) #[true, true, true, true, true, true, true, true, true, true, true, true, false, false, false] rfl (by kernel_rfl) (by kernel_rfl) (by kernel_rfl) (by kernel_rfl) (fun _ _ _ h => h) (.inl ⟨by kernel_rfl, fun x_ hu => by kernel_rfl⟩) hB ?_
      simp only [Act.put, List.setIfInBounds_toArray, List.set_cons_zero, List.set_cons_succ, List.getElem_toArray, List.getElem_cons_zero, List.getElem_cons_succ]
      refine any_one (i := 13) (by kernel_rfl) rfl (fun K_ hQ => ?_)
      refine step_callw (by kernel_rfl) 44 #[.slice ka q kd, .slice (some ⟨p0, o0 + 64 * J, none⟩) 64 64] (by kernel_rfl) ((both_ok (rows Bf o k) (Bf J) _ _ q kd 64 64 hqs _ (unhide kl) (row_lb (by obtain ⟨p1, o1, he, r1⟩ := (unhide hL).at_ J hJn; rw [getD_map bv B J [] [] (by omega)] at r1; have e1 := Option.some.inj he; injection e1 with e2 e3 e4; subst e2 e3; have r2 := range_gr r1 hB.gr; rw [unhide hBf]; exact r2) (unhide hbJ))).mono ?_)
      rintro r y2 ⟨v2, rfl, hO3, hg⟩
      refine ⟨_, rfl, ?_⟩
      replace hO3 := ob_base hO3 hB.gr.size
      replace hB := hB.more hg
      replace hlh := hide ((unhide hlh).gr hg)
      rw [unhide hJ] at hO3
      have hO4 : Hid (Ob w.heap.size y2 v2 (rows Bf o (k + 1))) := hO3
      clear hg hO3 kl hO
      refine hQ.out _ _ hB (fun _ => ?_)
      clear hQ K_
      simp only [Act.put, List.setIfInBounds_toArray, List.set_cons_zero, List.set_cons_succ, List.getElem_toArray, List.getElem_cons_zero, List.getElem_cons_succ]
      refine any_one (i := 14) (by kernel_rfl) rfl (fun K_ hQ => ?_)
      replace hQ := hide hQ
      go_simp
      refine (unhide hQ).out _ _ hB (fun _ => ?_)
      clear hQ K_
      refine any_done (by kernel_rfl) ?_
      replace hB := hide hB
      go_wp2_with fail
      go_roundw
      case rel => exact ⟨k + 1, by omega, by first | rfl | rw [ew4] | go_num, hO4, hB, hlh⟩
      case measure => simp [intOf]; omega
    obtain rfl : k = K := by omega
    have kI : ¬ (q : Int) < (X2 : Int) := by omega
    have qX : X2 ≤ q := by omega
    have hcp := (unhide kl).cap
    have cI : 0 ≤ (X2 : Int) ∧ (X2 : Int) ≤ (kd : Int) := by omega
    obtain ⟨L, hLe⟩ : ∃ x, x = (rows Bf o k).take X2 := ⟨_, rfl⟩
    have hLl : L.length = X2 := by rw [hLe, List.length_take, (unhide hkq).1]; omega
    have hLb : IsB L := by rw [hLe]; exact fun x hx => (unhide hkq).2 x (List.mem_of_mem_take hx)
    have hLs : L = snapL B n ⟨X0, X1, X2, H⟩ := by
      rw [hLe, unhide hBf, unhide ho, unhide hph, hKe, unhide hh]
      simp only [snapL]
    obtain ⟨t, ht⟩ : ∃ t, t = decide (sh16 L = H) := ⟨_, rfl⟩
    replace hLe := hide hLe; replace hLb := hide hLb; replace hLs := hide hLs; replace ht := hide ht
    clear hO hkq
    replace hKe := hide hKe; replace hme := hide hme; replace hq := hide hq
    go_upto_region 6 with fail
    replace hB := unhide hB
    refine wp_region_lit ?_
    refine list_val (.slice ka q kd) (by kernel_rfl) (by kernel_rfl) ?_
    simp only [Act.put, List.setIfInBounds_toArray, List.set_cons_zero, List.set_cons_succ, List.getElem_toArray, List.getElem_cons_zero, List.getElem_cons_succ]
    refine list_val (.int .i64 q) (by kernel_rfl) (by kernel_rfl) ?_
    simp only [Act.put, List.setIfInBounds_toArray, List.set_cons_zero, List.set_cons_succ, List.getElem_toArray, List.getElem_cons_zero, List.getElem_cons_succ]
    refine list_val (.pointer (some ⟨h1, 2, none⟩)) (by kernel_rfl) (by kernel_rfl) ?_
    simp only [Act.put, List.setIfInBounds_toArray, List.set_cons_zero, List.set_cons_succ, List.getElem_toArray, List.getElem_cons_zero, List.getElem_cons_succ]
    refine list_val (.int .i64 (X2 : Int)) (by kernel_rfl) (exec_i64 _ (.tmp 22) rfl h1 2 (by kernel_rfl) _ (sv_size (hB.get 1 (x := ⟨h1, SV, 62⟩) rfl) (unhide hSV))) ?_
    simp only [Act.put, List.setIfInBounds_toArray, List.set_cons_zero, List.set_cons_succ, List.getElem_toArray, List.getElem_cons_zero, List.getElem_cons_succ]
    refine list_val (.bool false) (by kernel_rfl) (by go_simp) ?_
    simp only [Act.put, List.setIfInBounds_toArray, List.set_cons_zero, List.set_cons_succ, List.getElem_toArray, List.getElem_cons_zero, List.getElem_cons_succ]
    refine wpList_nil ?_
    replace hB := hide hB
    go_upto_region 9 with fail
    replace hB := unhide hB
    refine wp_region_lit ?_
    refine list_val (.slice ka q kd) (by kernel_rfl) (by kernel_rfl) ?_
    simp only [Act.put, List.setIfInBounds_toArray, List.set_cons_zero, List.set_cons_succ, List.getElem_toArray, List.getElem_cons_zero, List.getElem_cons_succ]
    refine list_val (.pointer (some ⟨h1, 2, none⟩)) (by kernel_rfl) (by kernel_rfl) ?_
    simp only [Act.put, List.setIfInBounds_toArray, List.set_cons_zero, List.set_cons_succ, List.getElem_toArray, List.getElem_cons_zero, List.getElem_cons_succ]
    refine list_val (.int .i64 (X2 : Int)) (by kernel_rfl) (exec_i64 _ (.tmp 42) rfl h1 2 (by kernel_rfl) _ (sv_size (hB.get 1 (x := ⟨h1, SV, 62⟩) rfl) (unhide hSV))) ?_
    simp only [Act.put, List.setIfInBounds_toArray, List.set_cons_zero, List.set_cons_succ, List.getElem_toArray, List.getElem_cons_zero, List.getElem_cons_succ]
    refine list_val (.slice ka X2 kd) (by kernel_rfl) (by go_simp) ?_
    simp only [Act.put, List.setIfInBounds_toArray, List.set_cons_zero, List.set_cons_succ, List.getElem_toArray, List.getElem_cons_zero, List.getElem_cons_succ]
    refine list_call 44 #[.slice ka X2 kd, .slice none 0 0] (by kernel_rfl) (by kernel_rfl) ((both_ok L [] _ none X2 kd 0 0 (by omega) _ (by have h := (unhide kl).pre X2 qX; rw [← unhide hLe] at h; exact h.gr (Gr.refl _)) (Lb.nil _)).mono ?_)
    rintro r z1 ⟨v5, rfl, hO5, hg⟩
    refine ⟨_, rfl, ?_⟩
    rw [List.append_nil] at hO5
    replace hO5 := ob_base hO5 hB.gr.size
    obtain ⟨va, vc, rfl, vl⟩ := ob_lb hO5 (unhide hLb) hLl
    replace hB := hB.more hg
    replace hlh := hide ((unhide hlh).gr hg)
    replace hO5 := hide hO5; replace vl := hide vl
    clear hg kl
    simp only [Act.put, List.setIfInBounds_toArray, List.set_cons_zero, List.set_cons_succ, List.getElem_toArray, List.getElem_cons_zero, List.getElem_cons_succ]
    (refine wpList_step fun K hK => ?_; replace hK := hide hK; go_simp; refine unhide hK _ _ ?_; clear hK K)
    refine wpList_nil ?_
    replace hB := hide hB
    go_upto_region 10 with fail
    replace hB := unhide hB
    refine any_start (S := fun v => Bl w [⟨w.heap.size, #[.slice (some ⟨p0, o0, none⟩) n sc], 38⟩, ⟨h1, SV, 62⟩] v) (by kernel_rfl) ?_
    replace hB := hB.drew
    replace hlh := hide ((unhide hlh).gr (Gr.refl _).drew)
    replace vl := hide ((unhide vl).gr (Gr.refl _).drew)
    replace hO5 := hide ((unhide hO5).gr (Gr.refl _).drew)
    generalize World.drew _ = x0 at *
    simp only [List.size_toArray, List.length_cons, List.length_nil, Array.replicate, List.replicate]
    refine any_take (i := 0) (v := (.slice va X2 vc)) #[false, false, false, false, false, false, false, false] rfl (by kernel_rfl) (by kernel_rfl) (by kernel_rfl) (by kernel_rfl) (fun _ _ _ h => h) (.inl ⟨by kernel_rfl, fun x_ hu => by kernel_rfl⟩) hB ?_
    simp only [Act.put, List.setIfInBounds_toArray, List.set_cons_zero, List.set_cons_succ, List.getElem_toArray, List.getElem_cons_zero, List.getElem_cons_succ]
    refine any_take (i := 1) (v := (.slice va X2 vc)) #[true, false, false, false, false, false, false, false] rfl (by kernel_rfl) (by kernel_rfl) (by kernel_rfl) (by kernel_rfl) (fun _ _ _ h => h) (.inl ⟨by kernel_rfl, fun x_ hu => by kernel_rfl⟩) hB ?_
    simp only [Act.put, List.setIfInBounds_toArray, List.set_cons_zero, List.set_cons_succ, List.getElem_toArray, List.getElem_cons_zero, List.getElem_cons_succ]
    refine any_take (i := 3) (v := (.pointer (some ⟨h1, 3, none⟩))) #[true, true, false, false, false, false, false, false] rfl (by kernel_rfl) (by kernel_rfl) (by kernel_rfl) (by kernel_rfl) (fun _ _ _ h => h) (.inl ⟨by kernel_rfl, fun x_ hu => by kernel_rfl⟩) hB ?_
    simp only [Act.put, List.setIfInBounds_toArray, List.set_cons_zero, List.set_cons_succ, List.getElem_toArray, List.getElem_cons_zero, List.getElem_cons_succ]
    refine any_take (i := 4) (v := (.slice ha 16 hc)) #[true, true, false, true, false, false, false, false] rfl (by kernel_rfl) (by kernel_rfl) (by kernel_rfl) (by kernel_rfl) (fun _ _ _ h => h) (.inl ⟨by kernel_rfl, fun x_ hu => exec_sby _ (.tmp 49) rfl h1 3 (by kernel_rfl) ha 16 hc (sv_hash (hu.get 1 (x := ⟨h1, SV, 62⟩) rfl) (unhide hSV))⟩) hB ?_
    simp only [Act.put, List.setIfInBounds_toArray, List.set_cons_zero, List.set_cons_succ, List.getElem_toArray, List.getElem_cons_zero, List.getElem_cons_succ]
    refine any_one (i := 2) (by kernel_rfl) rfl (fun K_ hQ => ?_)
    refine step_callw (by kernel_rfl) 45 #[.slice va X2 vc] (by kernel_rfl) ((rshort_ok L va X2 vc _ (unhide vl) (by omega)).mono ?_)
    rintro r z2 ⟨v6, rfl, hO6, hg⟩
    refine ⟨_, rfl, ?_⟩
    replace hB := hB.more hg
    replace hlh := hide ((unhide hlh).gr hg)
    replace hO5 := hide ((unhide hO5).gr hg)
    obtain ⟨sa, s9, rfl, ls⟩ := ob_lb hO6 (sh16_isB _ (sumL_isB _)) (sh16_len _)
    clear hO6 hg vl
    refine hQ.out _ _ hB (fun _ => ?_)
    clear hQ K_
    simp only [Act.put, List.setIfInBounds_toArray, List.set_cons_zero, List.set_cons_succ, List.getElem_toArray, List.getElem_cons_zero, List.getElem_cons_succ]
    refine any_one (i := 5) (by kernel_rfl) rfl (fun K_ hQ => ?_)
    refine step_callw (by kernel_rfl) 19 #[.slice sa 16 s9, .slice ha 16 hc] (by kernel_rfl) ((rsame_ok (sh16 L) H _ _ 16 16 s9 hc _ ls (ob_lb2 (unhide hlh) (unhide hHb) hHl) (by omega)).mono ?_)
    rintro r z3 ⟨rfl, hg⟩
    refine ⟨_, rfl, ?_⟩
    rw [← unhide ht]
    replace hB := hB.more hg
    replace hlh := hide ((unhide hlh).gr hg)
    replace hO5 := hide ((unhide hO5).gr hg)
    clear hg ls
    refine hQ.out _ _ hB (fun _ => ?_)
    clear hQ K_
    simp only [Act.put, List.setIfInBounds_toArray, List.set_cons_zero, List.set_cons_succ, List.getElem_toArray, List.getElem_cons_zero, List.getElem_cons_succ]
    refine any_one (i := 6) (by kernel_rfl) rfl (fun K_ hQ => ?_)
    replace hQ := hide hQ
    go_simp
    refine (unhide hQ).out _ _ hB (fun _ => ?_)
    clear hQ K_
    refine any_one (i := 7) (by kernel_rfl) rfl (fun K_ hQ => ?_)
    replace hQ := hide hQ
    go_simp
    refine (unhide hQ).out _ _ hB (fun _ => ?_)
    clear hQ K_
    refine any_done (by kernel_rfl) ?_
    have hZ : Hid (Rsn B n w (.returned (.tuple #[.slice va X2 vc, .bool t])) z3) := rsn_yes (unhide hcs) rfl (by show X2 ≤ 64 * ((n - 2) / 4); rw [← unhide hh, ← unhide hm]; omega) hB.gr (unhide hLs) (unhide ht) (unhide hO5)
    replace hB := hide hB
    go_wp2_with fail
    rw [unhide hT]
    exact unhide hZ
def Sec (D : Dk) (w : World) (r : Ending) (w' : World) : Prop := ∃ a c, r = .returned (.tuple #[.agg #[.slice a D.safe.length c], .bool true]) ∧ Ls 64 w' a D.safe.length c ((heldL D).map bv) ∧ Fr2 w none a ∧ Gr w w'
set_option maxHeartbeats 400000 in
theorem sectors_ok (F : List Nat) (gd m : Nat) (D : Dk) (hD : D.Ok m) (hm : m ≤ 1000000) (hdd : D.dead = false) (w : World) (hL : Lies F gd D w) : Calls Tryd.prog 15 #[P0 gd] w (Sec D w) := by
  obtain ⟨T, hT⟩ : ∃ T, T = Sec D w := ⟨_, rfl⟩
  rw [← hT]
  replace hT := hide hT
  obtain ⟨n, hn⟩ : ∃ n, n = D.safe.length := ⟨_, rfl⟩
  have hn512 : n ≤ 512 := by rw [hn]; exact hD.hi1
  replace hn := hide hn; replace hD := hide hD; replace hL := hide hL; replace hdd := hide hdd
  go_enter Tryd.func15, Tryd.ntmps15
  go_upto_region 2 with fail
  have hB := (((Bl.nil w).new #[.slice none 0 0] 38).new #[.slice none 0 0] 38)
  simp only [size_alloc, List.nil_append, List.cons_append] at hB
  generalize World.alloc _ _ = u at *
  replace hB : Bl w [⟨w.heap.size, #[.slice none 0 0], 38⟩, ⟨w.heap.size + 1, #[.slice none 0 0], 38⟩] u := hB
  refine wp_region_lit ?_
  refine list_val (.pointer (some ⟨gd, 0, none⟩)) (by kernel_rfl) (by kernel_rfl) ?_
  simp only [Act.put, List.setIfInBounds_toArray, List.set_cons_zero, List.set_cons_succ, List.getElem_toArray, List.getElem_cons_zero, List.getElem_cons_succ]
  refine list_call 42 #[.pointer (some ⟨gd, 0, none⟩)] (by kernel_rfl) (by kernel_rfl) ((dlen_ok F gd m D (unhide hD) hm _ ((unhide hL).gr hB.gr)).mono ?_)
  rintro r u1 ⟨rfl, hg⟩
  refine ⟨_, rfl, ?_⟩
  rw [← unhide hn]
  replace hB := hB.more hg
  clear hg
  simp only [Act.put, List.setIfInBounds_toArray, List.set_cons_zero, List.set_cons_succ, List.getElem_toArray, List.getElem_cons_zero, List.getElem_cons_succ]
  refine list_val (.int .i64 0) (by kernel_rfl) (by kernel_rfl) ?_
  simp only [Act.put, List.setIfInBounds_toArray, List.set_cons_zero, List.set_cons_succ, List.getElem_toArray, List.getElem_cons_zero, List.getElem_cons_succ]
  refine wpList_nil ?_
  have hor : Hid (Or_ 64 50 w.heap.size u1 (.slice none 0 0) ((heldN D 0).map bv)) := ⟨(fun r hr => by have h9 : r ∈ ([] : List (List Value)) := hr; cases h9), rfl, .inl ⟨rfl, rfl⟩⟩
  replace hB := hide hB
  go_wp2_with fail
  go_loopw [10] (fun i wr => ∃ (j : Nat) (v : Value), j ≤ n ∧ i = .int .i64 j ∧ Hid (Bl w [⟨w.heap.size, #[.slice none 0 0], 38⟩, ⟨w.heap.size + 1, #[v], 38⟩] wr) ∧ Hid (Or_ 64 50 w.heap.size wr v ((heldN D j).map bv))) (fun i _ => n - (intOf i).toNat)
  case atStart => exact ⟨0, .slice none 0 0, by omega, rfl, hB, hor⟩
  case round =>
  clear hB hor
  obtain ⟨j, v, hj, rfl, hB, hor⟩ := hrel
  obtain ⟨av, cv, hav, hlsv⟩ := (unhide hor).ls
  rw [List.length_map, heldN_len] at hav hlsv
  subst hav
  replace hlsv := hide hlsv
  by_cases hjl : j < n
  · skip
    have jI : (j : Int) < (n : Int) := by omega
    clear hlsv
    go_upto_region 5 with fail
    have hW := unhide hB
    clear hB
    refine wp_region_lit ?_
    refine list_val (.pointer (some ⟨gd, 0, none⟩)) (by kernel_rfl) (by kernel_rfl) ?_
    simp only [Act.put, List.setIfInBounds_toArray, List.set_cons_zero, List.set_cons_succ, List.getElem_toArray, List.getElem_cons_zero, List.getElem_cons_succ]
    refine list_val (.int .i64 (j : Int)) (by kernel_rfl) (by kernel_rfl) ?_
    simp only [Act.put, List.setIfInBounds_toArray, List.set_cons_zero, List.set_cons_succ, List.getElem_toArray, List.getElem_cons_zero, List.getElem_cons_succ]
    refine list_call 24 #[.pointer (some ⟨gd, 0, none⟩), .int .i64 (j : Int)] (by kernel_rfl) (by kernel_rfl) ((dread_ok F gd m D (unhide hD) hm (j : Int) _ ((unhide hL).gr hW.gr)).mono ?_)
    rintro r v1 ⟨rfl, hg⟩
    refine ⟨_, rfl, ?_⟩
    have hbb := Dk.readB_bb (unhide hD) (j : Int)
    have hsc := heldN_succ D j
    have he0 : D.readE (j : Int) = 0 := by
      have hh : D.has (j : Int) := ⟨by omega, by rw [← unhide hn]; exact jI⟩
      unfold Dk.readE
      rw [unhide hdd, if_neg (by decide), if_pos hh]
    rw [he0]
    obtain ⟨b, hb⟩ : ∃ b, b = D.readB (j : Int) := ⟨_, rfl⟩
    rw [← hb]
    rw [← hb] at hbb hsc
    have hbl := hbb.1
    have hB := (Bl.nil wr).more hg
    replace hb := hide hb; replace hsc := hide hsc; replace hW := hide hW
    clear hg he0
    simp only [Act.put, List.setIfInBounds_toArray, List.set_cons_zero, List.set_cons_succ, List.getElem_toArray, List.getElem_cons_zero, List.getElem_cons_succ]
    refine list_val (.tuple #[.agg (kc b), .int .i64 0]) (by kernel_rfl) (by kernel_rfl) ?_
    simp only [Act.put, List.setIfInBounds_toArray, List.set_cons_zero, List.set_cons_succ, List.getElem_toArray, List.getElem_cons_zero, List.getElem_cons_succ]
    refine list_val (.agg (kc b)) (by kernel_rfl) (by kernel_rfl) ?_
    simp only [Act.put, List.setIfInBounds_toArray, List.set_cons_zero, List.set_cons_succ, List.getElem_toArray, List.getElem_cons_zero, List.getElem_cons_succ]
    refine list_val (.int .i64 0) (by kernel_rfl) (by kernel_rfl) ?_
    simp only [Act.put, List.setIfInBounds_toArray, List.set_cons_zero, List.set_cons_succ, List.getElem_toArray, List.getElem_cons_zero, List.getElem_cons_succ]
    refine list_valw (.pointer (some ⟨v1.heap.size, 0, none⟩)) (v1.alloc (.cells (kc ZB) 50 (0, 0))) (by kernel_rfl) (by kernel_rfl) ?_
    replace hB := hB.new (kc ZB) 50
    simp only [List.nil_append, List.cons_append] at hB
    generalize World.alloc _ _ = v2 at *
    generalize v1.heap.size = g5 at *
    replace hB : Bl wr [⟨g5, kc ZB, 50⟩] v2 := hB
    simp only [Act.put, List.setIfInBounds_toArray, List.set_cons_zero, List.set_cons_succ, List.getElem_toArray, List.getElem_cons_zero, List.getElem_cons_succ]
    refine list_store 50 (.tmp 6) (.tmp 17) (g5) (kc b) 50 (kc ZB) (by kernel_rfl) rfl (by kernel_rfl) (by kernel_rfl) (hB.get 0 (x := ⟨g5, kc ZB, 50⟩) rfl) (by rw [Tryd.infoB, kc_size, hbl]) ((show (kc ZB).size = 64 from rfl).trans ((kc_size _).trans hbl).symm) (kc_one _) ?_
    replace hB := hB.set 0 (x := ⟨g5, kc ZB, 50⟩) rfl (kc b)
    simp only [List.set_cons_zero, List.set_cons_succ] at hB
    generalize World.setRow _ _ _ = v3 at *
    replace hB : Bl wr [⟨g5, kc b, 50⟩] v3 := hB
    simp only [Act.put, List.setIfInBounds_toArray, List.set_cons_zero, List.set_cons_succ, List.getElem_toArray, List.getElem_cons_zero, List.getElem_cons_succ]
    (refine wpList_step fun K hK => ?_; replace hK := hide hK; go_simp; refine unhide hK _ _ ?_; clear hK K)
    refine wpList_nil ?_
    replace hB := hide hB
    go_upto_region 8 with fail
    replace hB := unhide hB
    have hX := (unhide hW).more hB.gr
    clear hW
    refine wp_region_lit ?_
    refine list_val (.pointer (some ⟨w.heap.size + 1, 0, none⟩)) (by kernel_rfl) (by kernel_rfl) ?_
    simp only [Act.put, List.setIfInBounds_toArray, List.set_cons_zero, List.set_cons_succ, List.getElem_toArray, List.getElem_cons_zero, List.getElem_cons_succ]
    refine list_val (.slice av j cv) (by kernel_rfl) (exec_sb _ (.tmp 22) rfl (w.heap.size + 1) 0 (by kernel_rfl) av j cv (cell_of (hX.get 1 (x := ⟨w.heap.size + 1, #[.slice av j cv], 38⟩) rfl) (i := 0) rfl)) ?_
    simp only [Act.put, List.setIfInBounds_toArray, List.set_cons_zero, List.set_cons_succ, List.getElem_toArray, List.getElem_cons_zero, List.getElem_cons_succ]
    refine list_val (.agg (kc b)) (by kernel_rfl) (exec_arr _ 50 (.tmp 6) rfl g5 (by kernel_rfl) (kc b) 50 _ (hB.get 0 (x := ⟨g5, kc b, 50⟩) rfl) Tryd.underlying50 rfl (by rw [Tryd.infoB, kc_size, hbl])) ?_
    simp only [Act.put, List.setIfInBounds_toArray, List.set_cons_zero, List.set_cons_succ, List.getElem_toArray, List.getElem_cons_zero, List.getElem_cons_succ]
    refine list_valw (.slice (some ⟨v3.heap.size, 0, none⟩) 1 1) (v3.alloc (.cells (kc b) 50 (0, 0))) (by kernel_rfl) (exec_bb1 _ (.tmp 24) rfl b hbl (by kernel_rfl)) ?_
    have hls : Ls 64 (v3.alloc (.cells (kc b) 50 (0, 0))) (some ⟨v3.heap.size, 0, none⟩) 1 1 [bv b] := ⟨rfl, (by intro r hr; rw [List.mem_singleton] at hr; subst hr; rw [bv_len, hbl]), .inr ⟨v3.heap.size, 0, rfl, by simp only [List.flatten_cons, List.flatten_nil, List.append_nil]; exact range_row (blk_new _ _)⟩, Nat.le_refl _, by omega, fun p e => by have e3 := Option.some.inj e; rw [← e3, size_alloc]; show v3.heap.size < _; omega⟩
    have hGo := hB.gr.alloc (.cells (kc b) 50 (0, 0))
    replace hX := hX.more ((Gr.refl v3).alloc (.cells (kc b) 50 (0, 0)))
    generalize World.alloc _ _ = v4 at *
    generalize v3.heap.size = g6 at *
    simp only [Act.put, List.setIfInBounds_toArray, List.set_cons_zero, List.set_cons_succ, List.getElem_toArray, List.getElem_cons_zero, List.getElem_cons_succ]
    refine wpList_step fun K_ hQ => ?_
    rw [if_pos (by kernel_rfl)]
    refine app_rows lt_b (.tmp 23) (.tmp 25) rfl w.heap.size _ ((heldN D j).map bv) rfl ((unhide hor).gr hGo) (some ⟨g6, 0, none⟩) 1 1 [bv b] rfl hls (by intro r hr; rw [List.mem_singleton] at hr; subst hr; exact bv_one' _) (by rw [List.length_map, heldN_len]; omega) hX.gr.size ?_
    intro v5_ v5 hor5 hgr
    replace hX := hX.grownR ((unhide hor).gr hGo) (Nat.le_refl _) hgr (by intro y hy; simp only [List.mem_cons, List.not_mem_nil, or_false] at hy; rcases hy with rfl | rfl <;> (show (38 : Nat) ≠ 50; decide))
    have e9 : (heldN D j).map bv ++ [bv b] = (heldN D (j + 1)).map bv := by rw [unhide hsc, List.map_append]; rfl
    rw [e9] at hor5
    obtain ⟨a5, c5, ha5, -⟩ := hor5.ls
    rw [List.length_map, heldN_len] at ha5
    subst ha5
    clear hgr hls hGo e9 hB hor
    have hB := hX
    clear hX
    refine hQ _ _ ?_
    clear hQ K_
    simp only [Act.put, List.setIfInBounds_toArray, List.set_cons_zero, List.set_cons_succ, List.getElem_toArray, List.getElem_cons_zero, List.getElem_cons_succ]
    refine list_val (.pointer (some ⟨w.heap.size + 1, 0, none⟩)) (by kernel_rfl) (by kernel_rfl) ?_
    simp only [Act.put, List.setIfInBounds_toArray, List.set_cons_zero, List.set_cons_succ, List.getElem_toArray, List.getElem_cons_zero, List.getElem_cons_succ]
    have hor6 := hide (or_bt hor5 (hB.get 1 (x := ⟨w.heap.size + 1, #[.slice av j cv], 38⟩) rfl) (show (38 : TypeId) ≠ 50 by decide) (Bt.setCell _ 0 (.slice a5 (j + 1) c5)))
    clear hor5
    have c4 := cell_of (hB.get 1 (x := ⟨w.heap.size + 1, #[.slice av j cv], 38⟩) rfl) (i := 0) rfl
    have fz := froz_of (i := 0) (hB.get 1 (x := ⟨w.heap.size + 1, #[.slice av j cv], 38⟩) rfl)
    have hB2 := hB.cell 1 (x := ⟨w.heap.size + 1, #[.slice av j cv], 38⟩) rfl 0 (.slice a5 (j + 1) c5)
    simp only [List.set_cons_zero, List.set_cons_succ] at hB2
    replace hB2 : Bl w [⟨w.heap.size, #[.slice none 0 0], 38⟩, ⟨w.heap.size + 1, #[.slice a5 (j + 1) c5], 38⟩] _ := hB2
    clear hB
    replace hB2 := hide hB2
    dsimp only at c4 fz
    (refine wpList_step fun K hK => ?_; replace hK := hide hK; go_simp; refine unhide hK _ _ ?_; clear hK K)
    clear c4 fz
    have hB := unhide hB2
    clear hB2
    generalize World.setCell _ _ _ = v6 at *
    refine wpList_nil ?_
    replace hB := hide hB
    go_wp2_with fail
    go_roundw
    case rel => exact ⟨j + 1, _, by omega, by go_num, hB, hor6⟩
    case measure => simp [intOf]; omega
  have jI : ¬ (j : Int) < (n : Int) := by omega
  obtain rfl : j = n := by omega
  go_upto_region 10 with fail
  replace hB := unhide hB
  refine wp_region_lit ?_
  refine list_val (.agg #[.slice av j cv]) (by kernel_rfl) (exec_arr _ 38 (.tmp 4) rfl (w.heap.size + 1) (by kernel_rfl) #[.slice av j cv] 38 _ (hB.get 1 (x := ⟨w.heap.size + 1, #[.slice av j cv], 38⟩) rfl) Tryd.underlying38 rfl (by rw [Tryd.infoRd11]; rfl)) ?_
  simp only [Act.put, List.setIfInBounds_toArray, List.set_cons_zero, List.set_cons_succ, List.getElem_toArray, List.getElem_cons_zero, List.getElem_cons_succ]
  refine list_store 38 (.tmp 2) (.tmp 29) (w.heap.size) (#[.slice av j cv]) 38 #[.slice none 0 0] (by kernel_rfl) rfl (by kernel_rfl) (by kernel_rfl) (hB.get 0 (x := ⟨w.heap.size, #[.slice none 0 0], 38⟩) rfl) (by rw [Tryd.infoRd11]; rfl) rfl (by simp [Value.oneCell']) ?_
  have hor6 := or_bt (unhide hor) (hB.get 0 (x := ⟨w.heap.size, #[.slice none 0 0], 38⟩) rfl) (show (38 : TypeId) ≠ 50 by decide) ((Bt.refl (w.heap.size) _).row_self (#[.slice av j cv]))
  replace hB := hB.set 0 (x := ⟨w.heap.size, #[.slice none 0 0], 38⟩) rfl (#[.slice av j cv])
  simp only [List.set_cons_zero, List.set_cons_succ] at hB
  generalize World.setRow _ _ _ = v7 at *
  replace hB : Bl w [⟨w.heap.size, #[.slice av j cv], 38⟩, ⟨w.heap.size + 1, #[.slice av j cv], 38⟩] v7 := hB
  simp only [Act.put, List.setIfInBounds_toArray, List.set_cons_zero, List.set_cons_succ, List.getElem_toArray, List.getElem_cons_zero, List.getElem_cons_succ]
  (refine wpList_step fun K hK => ?_; replace hK := hide hK; go_simp; refine unhide hK _ _ ?_; clear hK K)
  refine wpList_nil ?_
  obtain ⟨a9, c9, ha9, hls9⟩ := hor6.ls
  rw [List.length_map, heldN_len] at ha9 hls9
  obtain ⟨rfl, rfl⟩ : av = a9 ∧ cv = c9 := by injection ha9 with h1 h2 h3; exact ⟨h1, h3⟩
  clear ha9
  have hfr := hor6.fr (Nat.le_refl _)
  replace hor6 := hide hor6; replace hls9 := hide hls9; replace hfr := hide hfr
  replace hB := hide hB
  go_wp2_with fail
  replace hB := unhide hB
  rw [unhide hT]
  exact bodyPost_ret (v := .tuple #[.agg (#[.slice av j cv]), .bool true]) (results_cell_tmp Tryd.results15 _ _ (w.heap.size) 38 (#[.slice av j cv]) (0, 0) _ rfl (.bool true) rfl (hB.get 0 (x := ⟨w.heap.size, #[.slice av j cv], 38⟩) rfl) Tryd.underlying38 rfl (by rw [Tryd.infoRd11]; rfl)) rfl ⟨av, cv, by rw [← unhide hn], by unfold heldL; rw [← unhide hn]; exact unhide hls9, unhide hfr, hB.gr⟩
theorem held_at {D : Dk} (hd : D.dead = false) (i : Nat) (hi : i < D.safe.length) : (heldL D).getD i [] = D.cur i := by
  unfold heldL heldN
  rw [List.getD_eq_getElem?_getD, List.getElem?_map, List.getElem?_range hi]
  exact read_cur hd i hi
theorem hs_snapL {B : List (List Int)} {n : Nat} {s : Sup} {L : List Int} (k : Hs (fun i => B.getD i []) ((n - 2) / 4) s L) : snapL B n s = L ∧ cntS (B.getD 0 []) (B.getD 1 []) = (s, true) ∧ sh16 L = s.hash ∧ s.size ≤ 64 * ((n - 2) / 4) := ⟨hs_rows k, k.cnt, k.hash.symm, k.fit⟩
theorem Rsn.hs {B : List (List Int)} {n : Nat} {s : Sup} {L : List Int} (k : Hs (fun i => B.getD i []) ((n - 2) / 4) s L) {w w' : World} {r : Ending} (h : Rsn B n w r w') : ∃ v, r = .returned (.tuple #[v, .bool true]) ∧ Ob w.heap.size w' v L ∧ Gr w w' := by
  obtain ⟨e1, e2, e3, e4⟩ := hs_snapL k
  obtain ⟨h1, _, h3⟩ := h
  rw [e2] at h3
  obtain ⟨v, h4, h5⟩ := h3 rfl e4
  dsimp only at h4 h5
  rw [e1] at h4 h5
  rw [decide_eq_true e3] at h4
  exact ⟨v, h4, h5, h1⟩
def Opn (gd : Nat) (D : Dk) (s : Sup) (w : World) (r : Ending) (w' : World) : Prop := ∃ g G, r = .returned (.tuple #[P0 g, .int .i64 0]) ∧ Sto G g gd D.safe.length s w' ∧ (∀ i ∈ G, w.heap.size ≤ i) ∧ Gr w w'
set_option maxHeartbeats 4000000 in
theorem eopen_ok (F : List Nat) (gd m : Nat) (D : Dk) (s : Sup) (L : List Int) (hD : D.Ok m) (hm : m ≤ 900000) (hd : D.dead = false) (hn : 64 ≤ D.safe.length) (w : World) (hL : Lies F gd D w) (ho : Os D ((D.safe.length - 2) / 4) s L) (hf : Fst w) : Calls Tryd.prog 18 #[P0 gd] w (Opn gd D s w) := by
  obtain ⟨T, hT⟩ : ∃ T, T = Opn gd D s w := ⟨_, rfl⟩
  rw [← hT]
  replace hT := hide hT
  replace hL := hide hL; replace hD := hide hD; replace hf := hide hf; replace ho := hide ho
  go_enter Tryd.func18, Tryd.ntmps18
  go_upto_region 1 with fail
  have hB := Bl.nil w
  refine wp_region_lit ?_
  refine list_val (.pointer (some ⟨gd, 0, none⟩)) (by kernel_rfl) (by kernel_rfl) ?_
  simp only [Act.put, List.setIfInBounds_toArray, List.set_cons_zero, List.set_cons_succ, List.getElem_toArray, List.getElem_cons_zero, List.getElem_cons_succ]
  refine list_call 35 #[P0 gd] (by kernel_rfl) (by kernel_rfl) ((on_ok F gd m D (unhide hD) hm hn w (unhide hL)).mono ?_)
  rintro r u1 ⟨gs, rfl, hg1, hg2, hg⟩
  replace hB := hB.join hg [⟨gs, stN D.safe.length gd, 89⟩] (by intro x hx; rw [List.mem_singleton] at hx; subst hx; exact ⟨hg2, hg1⟩) (List.pairwise_singleton _ _)
  replace hB : Bl w [⟨gs, stN D.safe.length gd, 89⟩] u1 := hB
  clear hg hg2
  refine ⟨_, rfl, ?_⟩
  simp only [Act.put, List.setIfInBounds_toArray, List.set_cons_zero, List.set_cons_succ, List.getElem_toArray, List.getElem_cons_zero, List.getElem_cons_succ]
  refine list_val (.tuple #[.pointer (some ⟨gs, 0, none⟩), .int .i64 0]) (by kernel_rfl) (by kernel_rfl) ?_
  simp only [Act.put, List.setIfInBounds_toArray, List.set_cons_zero, List.set_cons_succ, List.getElem_toArray, List.getElem_cons_zero, List.getElem_cons_succ]
  refine list_val (.pointer (some ⟨gs, 0, none⟩)) (by kernel_rfl) (by kernel_rfl) ?_
  simp only [Act.put, List.setIfInBounds_toArray, List.set_cons_zero, List.set_cons_succ, List.getElem_toArray, List.getElem_cons_zero, List.getElem_cons_succ]
  refine list_val (.int .i64 0) (by kernel_rfl) (by kernel_rfl) ?_
  simp only [Act.put, List.setIfInBounds_toArray, List.set_cons_zero, List.set_cons_succ, List.getElem_toArray, List.getElem_cons_zero, List.getElem_cons_succ]
  (refine wpList_step fun K hK => ?_; replace hK := hide hK; go_simp; refine unhide hK _ _ ?_; clear hK K)
  (refine wpList_step fun K hK => ?_; replace hK := hide hK; go_simp; refine unhide hK _ _ ?_; clear hK K)
  refine wpList_nil ?_
  replace hB := hide hB
  go_upto_region 4 with fail
  replace hB := unhide hB
  refine wp_region_lit ?_
  refine list_val (.pointer (some ⟨gs, 0, none⟩)) (by kernel_rfl) (by kernel_rfl) ?_
  simp only [Act.put, List.setIfInBounds_toArray, List.set_cons_zero, List.set_cons_succ, List.getElem_toArray, List.getElem_cons_zero, List.getElem_cons_succ]
  have hst : Sto [gs] gs gd D.safe.length s u1 := ⟨rfl, (hB.get 0 (x := ⟨gs, stN D.safe.length gd, 89⟩) rfl)⟩
  refine list_call 17 #[P0 gs] (by kernel_rfl) (by kernel_rfl) ((esnap_ok F [gs] gs gd m D s L (unhide hD) hm hd hn u1 ((unhide hL).gr hB.gr) hst (unhide ho) ((unhide hf).gr hB.gr)).mono ?_)
  rintro r u2 ⟨vb, rfl, -, hg⟩
  replace hB := hB.more hg
  replace hst := hide (hst.gr hg)
  clear hg
  refine ⟨_, rfl, ?_⟩
  simp only [Act.put, List.setIfInBounds_toArray, List.set_cons_zero, List.set_cons_succ, List.getElem_toArray, List.getElem_cons_zero, List.getElem_cons_succ]
  refine list_val (.tuple #[vb, .int .i64 0]) (by kernel_rfl) (by kernel_rfl) ?_
  simp only [Act.put, List.setIfInBounds_toArray, List.set_cons_zero, List.set_cons_succ, List.getElem_toArray, List.getElem_cons_zero, List.getElem_cons_succ]
  refine list_val vb (by kernel_rfl) (by kernel_rfl) ?_
  simp only [Act.put, List.setIfInBounds_toArray, List.set_cons_zero, List.set_cons_succ, List.getElem_toArray, List.getElem_cons_zero, List.getElem_cons_succ]
  refine list_val (.int .i64 0) (by kernel_rfl) (by kernel_rfl) ?_
  simp only [Act.put, List.setIfInBounds_toArray, List.set_cons_zero, List.set_cons_succ, List.getElem_toArray, List.getElem_cons_zero, List.getElem_cons_succ]
  (refine wpList_step fun K hK => ?_; replace hK := hide hK; go_simp; refine unhide hK _ _ ?_; clear hK K)
  (refine wpList_step fun K hK => ?_; replace hK := hide hK; go_simp; refine unhide hK _ _ ?_; clear hK K)
  refine wpList_nil ?_
  have hZ : Hid (Opn gd D s w (.returned (.tuple #[.pointer (some ⟨gs, 0, none⟩), .int .i64 0])) u2) := ⟨gs, [gs], rfl, unhide hst, fun i hi => by rw [List.mem_singleton] at hi; rw [hi]; exact hg1, hB.gr⟩
  replace hB := hide hB
  go_wp2_with fail
  rw [unhide hT]
  exact unhide hZ
theorem Fd.up {D : Dk} {m k : Nat} {s : Sup} {L : List Int} (h : Fd D m s L) (hk : m ≤ k) : Fd D k s L := ⟨h.ok.up hk, h.dead, h.left, h.len, h.pend, h.hs⟩
theorem dk0_cur (n j : Nat) (hj : j < n) : (dk0 n).cur j = ZB := by
  unfold Dk.cur dk0
  show (List.replicate n ZB).getD j [] = ZB
  rw [List.getD_eq_getElem?_getD, List.getElem?_replicate, if_pos hj]
  rfl
end Go.Proofs.YtomihjeiaignnaaDoor

namespace Go.Proofs.YtomihjeiaignnaaDoor
open Go.ChangeShapes Go.WideShapes Go.ChangeAt Go.RowKit
set_option maxRecDepth 100000
set_option linter.unusedVariables false
set_option linter.unusedSimpArgs false
theorem Tryd.cellsBy : Tryd.prog.cellsOf 32 = 1 := by kernel_rfl
structure Lr (k : Nat) (W : World) (a : Option Addr) (n c : Nat) (R : List (List Value)) : Prop where
  len : R.length = n
  sl : n = 0 ∨ ∃ p o, a = some ⟨p, o, none⟩ ∧ ∀ i, i < n → W.rangeAt p (o + k * i) (R.getD i [])
  cap : n ≤ c
  max : c < 9223372036854775808
theorem Lr.at_ {k : Nat} {w : World} {a : Option Addr} {n c : Nat} {R : List (List Value)} (h : Lr k w a n c R) (i : Nat) (hi : i < n) : ∃ p o, a = some ⟨p, o, none⟩ ∧ w.rangeAt p (o + k * i) (R.getD i []) := by
  rcases h.sl with h0 | ⟨p, o, h1, h2⟩
  · omega
  · exact ⟨p, o, h1, h2 i hi⟩
structure Lp (W : World) (a : Option Addr) (n c : Nat) (ps : List (List Int)) : Prop where
  len : ps.length = n
  sl : n = 0 ∨ ∃ p o, a = some ⟨p, o, none⟩ ∧ ∀ i, i < n → ∃ ai ni ci, W.cell? ⟨p, o + i, none⟩ = some (.slice ai ni ci) ∧ Lb W ai ni ci (ps.getD i []) ∧ ci ≤ 140737488351232
  cap : n ≤ c
  max : c < 9223372036854775808
theorem Lp.gr {w v : World} {a : Option Addr} {n c : Nat} {ps : List (List Int)} (h : Lp w a n c ps) (g : Gr w v) : Lp v a n c ps := by
  refine ⟨h.len, ?_, h.cap, h.max⟩
  rcases h.sl with h | ⟨p, o, h1, h2⟩
  · exact .inl h
  · refine .inr ⟨p, o, h1, fun i hi => ?_⟩
    obtain ⟨ai, ni, ci, h3, h4, h5⟩ := h2 i hi
    exact ⟨ai, ni, ci, g.cell h3, h4.gr g, h5⟩
theorem Lp.at_ {w : World} {a : Option Addr} {n c : Nat} {ps : List (List Int)} (h : Lp w a n c ps) (i : Nat) (hi : i < n) : ∃ p o ai ni ci, a = some ⟨p, o, none⟩ ∧ w.cell? ⟨p, o + i, none⟩ = some (.slice ai ni ci) ∧ Lb w ai ni ci (ps.getD i []) ∧ ci ≤ 140737488351232 := by
  rcases h.sl with h0 | ⟨p, o, h1, h2⟩
  · omega
  · obtain ⟨ai, ni, ci, h3, h4, h5⟩ := h2 i hi
    exact ⟨p, o, ai, ni, ci, h1, h3, h4, h5⟩
end Go.Proofs.YtomihjeiaignnaaDoor

namespace Go.Proofs.YtomihjeiaignnaaDoor
open Go.RowKit
set_option maxRecDepth 100000
set_option linter.unusedSimpArgs false
set_option linter.unusedVariables false
theorem held_all {D : Dk} {m : Nat} (hD : D.Ok m) : ∀ b ∈ heldL D, BB b := by
  intro b hb
  unfold heldL heldN at hb
  obtain ⟨i, _, rfl⟩ := List.mem_map.1 hb
  exact Dk.readB_bb hD _
end Go.Proofs.YtomihjeiaignnaaDoor
