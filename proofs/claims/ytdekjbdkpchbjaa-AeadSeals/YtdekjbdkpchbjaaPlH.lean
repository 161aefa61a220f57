/-
  What Write makes of a Code.
-/
import Derived.Test.YtdekjbdkpchbjaaPlG
namespace Go.Proofs.Ytdekjbdkpchbjaa
open Go.RowKit
set_option maxRecDepth 100000
set_option linter.unusedSimpArgs false
set_option linter.unusedVariables false
/-- the numbers of a key -/
def rK (K : List Int) : Nat := V (nb (clL K))
def sK (K : List Int) : Nat := V (nb (K.drop 16))
/-- the Code at g stands for the bytes L -/
def Cd (K : List Int) (g : Nat) (L : List Int) (w : World) : Prop := ∃ l S M A, Lies g l ((L.length % 16 : Nat) : Int) S M A w ∧ IsB l ∧ l.take (L.length % 16) = L.drop (16 * (L.length / 16)) ∧ Fc ((acN (rK K) L (L.length / 16) : Nat) : Int) S ∧ Fd M ∧ M.v = (rK K : Int) ∧ Fd A ∧ A.v = (sK K : Int)
theorem bN_left {L : List Int} (P : List Int) (k : Nat) (h : 16 * (k + 1) ≤ L.length) : bN (L ++ P) k = bN L k := by
  unfold bN
  rw [List.drop_append_of_le_length (by omega), List.take_append_of_le_length (by rw [List.length_drop]; omega)]
theorem acN_left (r : Nat) {L : List Int} (P : List Int) : ∀ k, 16 * k ≤ L.length → acN r (L ++ P) k = acN r L k
  | 0, _ => rfl
  | k + 1, h => by rw [acN, acN, acN_left r P k (by omega), bN_left P k h]
theorem acN_append (r : Nat) {L : List Int} (P : List Int) (m : Nat) (hL : L.length = 16 * m) : ∀ k, acN r (L ++ P) (m + k) = acF r (acN r L m) P k
  | 0 => acN_left r P m (by omega)
  | k + 1 => by
    have e : m + (k + 1) = (m + k) + 1 := by omega
    have e2 : bN (L ++ P) (m + k) = bN P k := by
      unfold bN
      rw [Nat.mul_add, ← List.drop_drop, ← hL, List.drop_left]
    rw [e, acN, acF, acN_append r P m hL k, e2]
theorem lay_zero (l B : List Int) : (lay l 0 B).take B.length = B := by
  unfold lay
  simp
theorem lay_take (l B : List Int) (f : Nat) (hf : f ≤ l.length) : (lay l f B).take (f + B.length) = l.take f ++ B := by
  unfold lay
  rw [← List.append_assoc]
  have e : (l.take f ++ B).length = f + B.length := by rw [List.length_append, List.length_take, Nat.min_eq_left hf]
  rw [← e, List.take_left]
/-- behind whole blocks -/
theorem Cd.whole {K : List Int} {g : Nat} {L P l : List Int} {S M A : F5} {v : World} (hL : L.length % 16 = 0) (h1 : Lies g (lay l 0 (P.drop (16 * (P.length / 16)))) ((P.length % 16 : Nat) : Int) S M A v) (h2 : IsB l) (h3 : IsB P)
    (h4 : Fc ((acF (rK K) (acN (rK K) L (L.length / 16)) P (P.length / 16) : Nat) : Int) S) (h5 : Fd M) (h6 : M.v = (rK K : Int)) (h7 : Fd A) (h8 : A.v = (sK K : Int)) : Cd K g (L ++ P) v := by
  have e1 : (L ++ P).length / 16 = L.length / 16 + P.length / 16 := by rw [List.length_append]; omega
  have e2 : (L ++ P).length % 16 = P.length % 16 := by rw [List.length_append]; omega
  have e3 : (P.drop (16 * (P.length / 16))).length = P.length % 16 := by rw [List.length_drop]; omega
  refine ⟨_, S, M, A, by rw [e2]; exact h1, lay_isB h2 (h3.drop _), ?_, ?_, h5, h6, h7, h8⟩
  · rw [e2, e1, ← e3, lay_zero, Nat.mul_add, ← List.drop_drop, show 16 * (L.length / 16) = L.length by omega, List.drop_left]
  · rw [e1, acN_append (rK K) P (L.length / 16) (by omega)]
    exact h4
/-- bytes that do not fill the block -/
theorem Cd.part {K : List Int} {g : Nat} {L P l : List Int} {S M A : F5} {v : World} (hk : L.length % 16 + P.length < 16) (hl : l.length = 16) (hlt : l.take (L.length % 16) = L.drop (16 * (L.length / 16))) (h1 : Lies g (lay l (L.length % 16) P) ((L.length % 16 + P.length : Nat) : Int) S M A v) (h2 : IsB l) (h3 : IsB P)
    (h4 : Fc ((acN (rK K) L (L.length / 16) : Nat) : Int) S) (h5 : Fd M) (h6 : M.v = (rK K : Int)) (h7 : Fd A) (h8 : A.v = (sK K : Int)) : Cd K g (L ++ P) v := by
  have e1 : (L ++ P).length / 16 = L.length / 16 := by rw [List.length_append]; omega
  have e2 : (L ++ P).length % 16 = L.length % 16 + P.length := by rw [List.length_append]; omega
  refine ⟨_, S, M, A, by rw [e2]; exact h1, lay_isB h2 h3, ?_, ?_, h5, h6, h7, h8⟩
  · rw [e2, e1, lay_take l P _ (by omega), hlt, List.drop_append_of_le_length (by omega)]
  · rw [e1, acN_left (rK K) P (L.length / 16) (by omega)]
    exact h4
/-- the block that is filled -/
theorem ac_fill (r : Nat) {L C l : List Int} (hk : 0 < L.length % 16) (hl : l.length = 16) (hC : C.length = 16 - L.length % 16) (hlt : l.take (L.length % 16) = L.drop (16 * (L.length / 16))) : acF r (acN r L (L.length / 16)) (lay l (L.length % 16) C) 1 = acN r (L ++ C) ((L ++ C).length / 16) := by
  have e1 : (L ++ C).length / 16 = L.length / 16 + 1 := by rw [List.length_append]; omega
  have e3 : lay l (L.length % 16) C = L.drop (16 * (L.length / 16)) ++ C := by
    have := lay_take l C (L.length % 16) (by omega)
    rw [List.take_of_length_le (by rw [lay_len _ _ _ (by omega)]; omega), hlt] at this
    exact this
  rw [e1, acN, acF, acF, acN_left r C (L.length / 16) (by omega), e3]
  congr 3
  unfold bN
  rw [Nat.mul_zero, List.drop_zero, List.drop_append_of_le_length (by omega)]
theorem exec_i64 {op : Oper} {a : Act} (w : World) (x : Operand) (ho : op.op = .load 3 x) (g i : Nat) (hx : a.eval x = .pointer (some ⟨g, i, none⟩)) (v : Int) (hc : w.cell? ⟨g, i, none⟩ = some (.int .i64 v)) : (execOp a.eval op).run Try.prog w = .ok (.value (.int .i64 v)) w := by
  unfold execOp
  simp only [ho, hx, Instr.loadAt, Instr.sureAddr, Sem.run_bind, Sem.run_pure, Result.andThen_ok]
  go_simp
/-- what Write answers and leaves -/
def Wrote (K : List Int) (g : Nat) (L : List Int) (w : World) (r : Ending) (w' : World) : Prop := r = .returned (.int .i64 0) ∧ Cd K g L w' ∧ Bt g w w'
theorem Lies.froz {g : Nat} {l : List Int} {f : Int} {S M A : F5} {w : World} (h : Lies g l f S M A w) (i : Nat) : w.frozen? ⟨g, i, none⟩ = false := froz_of h.2
theorem Lies.off {g : Nat} {l : List Int} {f : Int} {M A : F5} {w : World} (hb : IsB l) (hl : l.length = 16) : Off g l f M A w (some ⟨g, 0, none⟩) 16 16 l := fun v S _ h => ⟨hl, hb, .inr ⟨g, 0, rfl, h.left⟩, Nat.le_refl _, by omega⟩
theorem Bt.setCell {g : Nat} (w : World) (o : Nat) (x : Value) : Bt g w (w.setCell ⟨g, o, none⟩ x) := setCells_bt [x] w g o
set_option maxHeartbeats 4000000 in
theorem write_whole (K L P : List Int) (g : Nat) (hL : L.length % 16 = 0) (s : Option Addr) (n cap : Nat) (w : World) (hC : Cd K g L w) (lb : ∀ v, Bt g w v → Lb v s n cap P) : Calls Try.prog 28 #[.pointer (some ⟨g, 0, none⟩), .slice s n cap] w (Wrote K g (L ++ P) w) := by
  obtain ⟨l, S, M, A, hH, hlB, hlt, hc, hMd, hMr, hAd, hAs⟩ := hC
  obtain ⟨T, hT⟩ : ∃ T, T = Wrote K g (L ++ P) w := ⟨_, rfl⟩
  rw [← hT]
  replace hT := hide hT
  have hl16 := hH.1
  rw [hL] at hH
  have cc : w.cell? ⟨g, 16, none⟩ = some (.int .i64 0) := hH.fill
  have hPl := (lb w (Bt.refl g w)).len
  have hPb := (lb w (Bt.refl g w)).isB
  have hO : Off g l 0 M A w s n cap P := fun v S h1 h2 => lb v h1
  have hBt := Bt.refl g w
  replace hH : Lies g l 0 S M A w := hH
  replace hH := hide hH; replace hO := hide hO; replace hBt := hide hBt; replace hlt := hide hlt; replace hPl := hide hPl; replace hL := hide hL
  clear lb
  go_enter Try.func28, Try.ntmps28
  go_upto_region 10 with fail
  clear cc
  replace hH := unhide hH; replace hO := unhide hO; replace hBt := unhide hBt; replace hPl := unhide hPl
  refine any_start (S := fun _ => True) (by kernel_rfl) ?_
  replace hH := hH.gr (Gr.refl _).drew
  replace hO : Off _ _ _ _ _ _ _ _ _ _ := fun v S h1 h2 => hO v S (((Gr.refl _).drew.bt g).trans h1) h2
  replace hBt := hBt.trans ((Gr.refl _).drew.bt g)
  generalize World.drew _ = x0 at *
  simp only [List.size_toArray, List.length_cons, List.length_nil, Array.replicate, List.replicate]
  refine any_take (i := 0) (v := (.pointer (some ⟨g, 0, none⟩))) #[false, false, false, false, false, false, false, false, false, false, false, false, false, false] rfl (by kernel_rfl) (by kernel_rfl) (by kernel_rfl) (by kernel_rfl) (fun _ _ _ h => h) (.inl ⟨by kernel_rfl, fun x_ hu => by kernel_rfl⟩) trivial ?_
  simp only [Act.put, List.setIfInBounds_toArray, List.set_cons_zero, List.set_cons_succ, List.getElem_toArray, List.getElem_cons_zero, List.getElem_cons_succ]
  refine any_take (i := 1) (v := (.pointer (some ⟨g, 0, none⟩))) #[true, false, false, false, false, false, false, false, false, false, false, false, false, false] rfl (by kernel_rfl) (by kernel_rfl) (by kernel_rfl) (by kernel_rfl) (fun _ _ _ h => h) (.inl ⟨by kernel_rfl, fun x_ hu => by kernel_rfl⟩) trivial ?_
  simp only [Act.put, List.setIfInBounds_toArray, List.set_cons_zero, List.set_cons_succ, List.getElem_toArray, List.getElem_cons_zero, List.getElem_cons_succ]
  refine any_take (i := 2) (v := (.pointer (some ⟨g, 0, none⟩))) #[true, true, false, false, false, false, false, false, false, false, false, false, false, false] rfl (by kernel_rfl) (by kernel_rfl) (by kernel_rfl) (by kernel_rfl) (fun _ _ _ h => h) (.inl ⟨by kernel_rfl, fun x_ hu => by kernel_rfl⟩) trivial ?_
  simp only [Act.put, List.setIfInBounds_toArray, List.set_cons_zero, List.set_cons_succ, List.getElem_toArray, List.getElem_cons_zero, List.getElem_cons_succ]
  refine any_take (i := 3) (v := (.pointer (some ⟨g, 0, none⟩))) #[true, true, true, false, false, false, false, false, false, false, false, false, false, false] rfl (by kernel_rfl) (by kernel_rfl) (by kernel_rfl) (by kernel_rfl) (fun _ _ _ h => h) (.inl ⟨by kernel_rfl, fun x_ hu => by kernel_rfl⟩) trivial ?_
  simp only [Act.put, List.setIfInBounds_toArray, List.set_cons_zero, List.set_cons_succ, List.getElem_toArray, List.getElem_cons_zero, List.getElem_cons_succ]
  refine any_take (i := 4) (v := (.pointer (some ⟨g, 0, none⟩))) #[true, true, true, true, false, false, false, false, false, false, false, false, false, false] rfl (by kernel_rfl) (by kernel_rfl) (by kernel_rfl) (by kernel_rfl) (fun _ _ _ h => h) (.inl ⟨by kernel_rfl, fun x_ hu => by kernel_rfl⟩) trivial ?_
  simp only [Act.put, List.setIfInBounds_toArray, List.set_cons_zero, List.set_cons_succ, List.getElem_toArray, List.getElem_cons_zero, List.getElem_cons_succ]
  refine any_take (i := 5) (v := (.slice (some ⟨g, 0, none⟩) 16 16)) #[true, true, true, true, true, false, false, false, false, false, false, false, false, false] rfl (by kernel_rfl) (by kernel_rfl) (by kernel_rfl) (by kernel_rfl) (fun _ _ _ h => h) (.inl ⟨by kernel_rfl, fun x_ hu => by kernel_rfl⟩) trivial ?_
  simp only [Act.put, List.setIfInBounds_toArray, List.set_cons_zero, List.set_cons_succ, List.getElem_toArray, List.getElem_cons_zero, List.getElem_cons_succ]
  refine any_take (i := 6) (v := (.pointer (some ⟨g, 0, none⟩))) #[true, true, true, true, true, true, false, false, false, false, false, false, false, false] rfl (by kernel_rfl) (by kernel_rfl) (by kernel_rfl) (by kernel_rfl) (fun _ _ _ h => h) (.inl ⟨by kernel_rfl, fun x_ hu => by kernel_rfl⟩) trivial ?_
  simp only [Act.put, List.setIfInBounds_toArray, List.set_cons_zero, List.set_cons_succ, List.getElem_toArray, List.getElem_cons_zero, List.getElem_cons_succ]
  refine any_take (i := 7) (v := (.slice s n cap)) #[true, true, true, true, true, true, true, false, false, false, false, false, false, false] rfl (by kernel_rfl) (by kernel_rfl) (by kernel_rfl) (by kernel_rfl) (fun _ _ _ h => h) (.inl ⟨by kernel_rfl, fun x_ hu => by kernel_rfl⟩) trivial ?_
  simp only [Act.put, List.setIfInBounds_toArray, List.set_cons_zero, List.set_cons_succ, List.getElem_toArray, List.getElem_cons_zero, List.getElem_cons_succ]
  refine any_one (i := 8) (by kernel_rfl) rfl (fun K_ hQ => ?_)
  refine step_callw (by kernel_rfl) 40 #[.pointer (some ⟨g, 0, none⟩), .slice s n cap] (by kernel_rfl) ((take_ok (rK K) (acN (rK K) L (L.length / 16)) g l 0 S M A hMd hMr P s n cap hPl hPb _ hH hc hO).mono ?_)
  rintro r x1 ⟨a2, c2, S2, rfl, hO2, hTI⟩
  refine ⟨_, rfl, ?_⟩
  have hdl : (P.drop (16 * (P.length / 16))).length = P.length % 16 := by rw [List.length_drop]; omega
  obtain ⟨d, hd⟩ : ∃ d, d = P.length % 16 := ⟨_, rfl⟩
  have hd16 : d < 16 := by omega
  rw [← hd] at hO2 hdl ⊢
  have hlb2 := hO2 x1 S2 hTI.bt hTI.lies
  replace hd := hide hd
  clear hH hO
  refine hQ.out _ _ trivial (fun _ => ?_)
  clear hQ K_
  simp only [Act.put, List.setIfInBounds_toArray, List.set_cons_zero, List.set_cons_succ, List.getElem_toArray, List.getElem_cons_zero, List.getElem_cons_succ]
  refine any_one (i := 9) (by kernel_rfl) rfl (fun K_ hQ => ?_)
  rw [if_pos (by kernel_rfl)]
  obtain ⟨D, hD⟩ : ∃ D, D = P.drop (16 * (P.length / 16)) := ⟨_, rfl⟩
  rw [← hD] at hlb2 hdl
  replace hD := hide hD
  refine copy_wp (.tmp 57) (.tmp 60) rfl g 0 16 16 a2 d c2 (by kernel_rfl) (by kernel_rfl) (cdl l 0 S2 M A) 71 hTI.lies.2 D (by rw [hdl]; exact (Nat.min_eq_left (by omega)).symm) hlb2.sl (by rw [cdl_len _ _ _ _ _ hTI.lies.1, hdl]; omega) ?_
  have hH := hTI.lies.setL 0 D (by rw [hdl]; omega)
  have hBt2 := hBt.trans (hTI.bt.trans (setCells_bt (D.map (Value.int .u8)) x1 g 0))
  have hcar2 := hTI.car
  clear hTI hlb2 hO2 hBt
  generalize World.setCells _ _ _ _ = x2 at *
  rw [hdl]
  refine hQ.out _ _ trivial (fun _ => ?_)
  clear hQ K_
  simp only [Act.put, List.setIfInBounds_toArray, List.set_cons_zero, List.set_cons_succ, List.getElem_toArray, List.getElem_cons_zero, List.getElem_cons_succ]
  refine any_take (i := 10) (v := (.pointer (some ⟨g, 0, none⟩))) #[true, true, true, true, true, true, true, true, true, true, false, false, false, false] rfl (by kernel_rfl) (by kernel_rfl) (by kernel_rfl) (by kernel_rfl) (fun _ _ _ h => h) (.inl ⟨by kernel_rfl, fun x_ hu => by kernel_rfl⟩) trivial ?_
  simp only [Act.put, List.setIfInBounds_toArray, List.set_cons_zero, List.set_cons_succ, List.getElem_toArray, List.getElem_cons_zero, List.getElem_cons_succ]
  refine any_take (i := 11) (v := (.pointer (some ⟨g, 0, none⟩))) #[true, true, true, true, true, true, true, true, true, true, true, false, false, false] rfl (by kernel_rfl) (by kernel_rfl) (by kernel_rfl) (by kernel_rfl) (fun _ _ _ h => h) (.inl ⟨by kernel_rfl, fun x_ hu => by kernel_rfl⟩) trivial ?_
  simp only [Act.put, List.setIfInBounds_toArray, List.set_cons_zero, List.set_cons_succ, List.getElem_toArray, List.getElem_cons_zero, List.getElem_cons_succ]
  refine any_take (i := 12) (v := (.pointer (some ⟨g, 16, none⟩))) #[true, true, true, true, true, true, true, true, true, true, true, true, false, false] rfl (by kernel_rfl) (by kernel_rfl) (by kernel_rfl) (by kernel_rfl) (fun _ _ _ h => h) (.inl ⟨by kernel_rfl, fun x_ hu => by kernel_rfl⟩) trivial ?_
  simp only [Act.put, List.setIfInBounds_toArray, List.set_cons_zero, List.set_cons_succ, List.getElem_toArray, List.getElem_cons_zero, List.getElem_cons_succ]
  refine any_one (i := 13) (by kernel_rfl) rfl (fun K_ hQ => ?_)
  have c4 := hH.fill
  have fz := hH.froz 16
  have hH3 := hide (hH.setF (d : Int))
  have hBt3 := hide (hBt2.trans (Bt.setCell x2 16 (.int .i64 (d : Int))))
  clear hBt2 hH
  replace hQ := hide hQ
  go_simp
  refine (unhide hQ).out _ _ trivial (fun _ => ?_)
  clear hQ K_ c4 fz
  generalize World.setCell _ _ _ = x3 at *
  refine any_done (by kernel_rfl) ?_
  have hW : Hid (Wrote K g (L ++ P) w (.returned (.int .i64 0)) x3) := ⟨rfl, Cd.whole (unhide hL) (by rw [unhide hd, unhide hD] at hH3; exact unhide hH3) hlB hPb hcar2 hMd hMr hAd hAs, unhide hBt3⟩
  clear hH3 hBt3 hcar2
  go_wp2_with fail
  rw [unhide hT]
  exact unhide hW
set_option maxHeartbeats 8000000 in
theorem write_some (K L P : List Int) (g : Nat) (hL : 0 < L.length % 16) (s : Option Addr) (n cap : Nat) (w : World) (hC : Cd K g L w) (lb : ∀ v, Bt g w v → Lb v s n cap P) : Calls Try.prog 28 #[.pointer (some ⟨g, 0, none⟩), .slice s n cap] w (Wrote K g (L ++ P) w) := by
  obtain ⟨l, S, M, A, hH, hlB, hlt, hc, hMd, hMr, hAd, hAs⟩ := hC
  obtain ⟨T, hT⟩ : ∃ T, T = Wrote K g (L ++ P) w := ⟨_, rfl⟩
  rw [← hT]
  replace hT := hide hT
  have hl16 := hH.1
  obtain ⟨f, hf⟩ : ∃ f, f = L.length % 16 := ⟨_, rfl⟩
  rw [← hf] at hH hL hlt
  have cc := hH.fill
  have hPl := (lb w (Bt.refl g w)).len
  have hPb := (lb w (Bt.refl g w)).isB
  have hcn := hide (lb w (Bt.refl g w)).cap
  have hBt := Bt.refl g w
  obtain ⟨m, hm2⟩ : ∃ m, m = min n (16 - f) := ⟨_, rfl⟩
  obtain ⟨E, hE⟩ : ∃ E, E = P.take m := ⟨_, rfl⟩
  have hmn : Hid (m ≤ n) := by show m ≤ n; omega
  have hEl : E.length = m := by rw [hE, List.length_take, hPl]; exact Nat.min_eq_left (unhide hmn)
  have hEB : IsB E := by rw [hE]; exact hPb.take m
  have hsrc : Hid (∀ v, Bt g w v → (E = [] ∨ ∃ p q, s = some ⟨p, q, none⟩ ∧ At v p q E)) := by
    intro v hv
    rcases (lb v hv).sl with h | ⟨p, q, h1, h2⟩
    · left; rw [hE, h]; simp
    · right; exact ⟨p, q, h1, by rw [hE]; exact h2.take m⟩
  obtain ⟨q, hq⟩ : ∃ q, q = f + m := ⟨_, rfl⟩
  have f16 : f < 16 := by omega
  have q16 : q ≤ 16 := by omega
  have hfm : f + m ≤ 16 := by omega
  have k0 : 0 < (f : Int) := by omega
  have k1 : (f : Int) ≤ 16 := by omega
  have k2 : ¬ (16 : Int) < f := by omega
  have k3 : ¬ 16 = f := by omega
  have k5 : (f : Int) + (m : Int) = (q : Int) := by omega
  have k6 : IntKind.i64.wrap (q : Int) = (q : Int) := by rw [IntKind.wrap_i64]; omega
  replace lb := hide lb
  replace hH := hide hH; replace hBt := hide hBt; replace hlt := hide hlt; replace hPl := hide hPl; replace hE := hide hE; replace hf := hide hf; replace hm2 := hide hm2; replace hq := hide hq
  go_enter Try.func28, Try.ntmps28
  go_upto_region 4 with fail
  clear cc
  replace hH := unhide hH; replace hBt := unhide hBt
  replace hm2 : Hid (m = Nat.min n (16 - f)) := hm2
  refine any_start (S := fun v => v.cell? ⟨g, 16, none⟩ = some (.int .i64 (f : Int))) (by kernel_rfl) ?_
  replace hH := hH.gr (Gr.refl _).drew
  replace hBt := hBt.trans ((Gr.refl _).drew.bt g)
  have hS := hH.fill
  generalize World.drew _ = x0 at *
  simp only [List.size_toArray, List.length_cons, List.length_nil, Array.replicate, List.replicate]
  refine any_take (i := 0) (v := (.pointer (some ⟨g, 0, none⟩))) #[false, false, false, false, false, false, false, false, false, false, false, false, false] rfl (by kernel_rfl) (by kernel_rfl) (by kernel_rfl) (by kernel_rfl) (fun _ _ _ h => h) (.inl ⟨by kernel_rfl, fun x_ hu => by kernel_rfl⟩) hS ?_
  simp only [Act.put, List.setIfInBounds_toArray, List.set_cons_zero, List.set_cons_succ, List.getElem_toArray, List.getElem_cons_zero, List.getElem_cons_succ]
  refine any_take (i := 1) (v := (.pointer (some ⟨g, 0, none⟩))) #[true, false, false, false, false, false, false, false, false, false, false, false, false] rfl (by kernel_rfl) (by kernel_rfl) (by kernel_rfl) (by kernel_rfl) (fun _ _ _ h => h) (.inl ⟨by kernel_rfl, fun x_ hu => by kernel_rfl⟩) hS ?_
  simp only [Act.put, List.setIfInBounds_toArray, List.set_cons_zero, List.set_cons_succ, List.getElem_toArray, List.getElem_cons_zero, List.getElem_cons_succ]
  refine any_take (i := 2) (v := (.pointer (some ⟨g, 0, none⟩))) #[true, true, false, false, false, false, false, false, false, false, false, false, false] rfl (by kernel_rfl) (by kernel_rfl) (by kernel_rfl) (by kernel_rfl) (fun _ _ _ h => h) (.inl ⟨by kernel_rfl, fun x_ hu => by kernel_rfl⟩) hS ?_
  simp only [Act.put, List.setIfInBounds_toArray, List.set_cons_zero, List.set_cons_succ, List.getElem_toArray, List.getElem_cons_zero, List.getElem_cons_succ]
  refine any_take (i := 3) (v := (.pointer (some ⟨g, 0, none⟩))) #[true, true, true, false, false, false, false, false, false, false, false, false, false] rfl (by kernel_rfl) (by kernel_rfl) (by kernel_rfl) (by kernel_rfl) (fun _ _ _ h => h) (.inl ⟨by kernel_rfl, fun x_ hu => by kernel_rfl⟩) hS ?_
  simp only [Act.put, List.setIfInBounds_toArray, List.set_cons_zero, List.set_cons_succ, List.getElem_toArray, List.getElem_cons_zero, List.getElem_cons_succ]
  refine any_take (i := 4) (v := (.pointer (some ⟨g, 0, none⟩))) #[true, true, true, true, false, false, false, false, false, false, false, false, false] rfl (by kernel_rfl) (by kernel_rfl) (by kernel_rfl) (by kernel_rfl) (fun _ _ _ h => h) (.inl ⟨by kernel_rfl, fun x_ hu => by kernel_rfl⟩) hS ?_
  simp only [Act.put, List.setIfInBounds_toArray, List.set_cons_zero, List.set_cons_succ, List.getElem_toArray, List.getElem_cons_zero, List.getElem_cons_succ]
  refine any_take (i := 5) (v := (.pointer (some ⟨g, 0, none⟩))) #[true, true, true, true, true, false, false, false, false, false, false, false, false] rfl (by kernel_rfl) (by kernel_rfl) (by kernel_rfl) (by kernel_rfl) (fun _ _ _ h => h) (.inl ⟨by kernel_rfl, fun x_ hu => by kernel_rfl⟩) hS ?_
  simp only [Act.put, List.setIfInBounds_toArray, List.set_cons_zero, List.set_cons_succ, List.getElem_toArray, List.getElem_cons_zero, List.getElem_cons_succ]
  refine any_take (i := 6) (v := (.pointer (some ⟨g, 0, none⟩))) #[true, true, true, true, true, true, false, false, false, false, false, false, false] rfl (by kernel_rfl) (by kernel_rfl) (by kernel_rfl) (by kernel_rfl) (fun _ _ _ h => h) (.inl ⟨by kernel_rfl, fun x_ hu => by kernel_rfl⟩) hS ?_
  simp only [Act.put, List.setIfInBounds_toArray, List.set_cons_zero, List.set_cons_succ, List.getElem_toArray, List.getElem_cons_zero, List.getElem_cons_succ]
  refine any_take (i := 7) (v := (.pointer (some ⟨g, 16, none⟩))) #[true, true, true, true, true, true, true, false, false, false, false, false, false] rfl (by kernel_rfl) (by kernel_rfl) (by kernel_rfl) (by kernel_rfl) (fun _ _ _ h => h) (.inl ⟨by kernel_rfl, fun x_ hu => by kernel_rfl⟩) hS ?_
  simp only [Act.put, List.setIfInBounds_toArray, List.set_cons_zero, List.set_cons_succ, List.getElem_toArray, List.getElem_cons_zero, List.getElem_cons_succ]
  refine any_take (i := 8) (v := (.int .i64 f)) #[true, true, true, true, true, true, true, true, false, false, false, false, false] rfl (by kernel_rfl) (by kernel_rfl) (by kernel_rfl) (by kernel_rfl) (fun _ _ _ h => h) (.inl ⟨by kernel_rfl, fun x_ hu => exec_i64 _ (.tmp 21) rfl g 16 (by kernel_rfl) f hu⟩) hS ?_
  simp only [Act.put, List.setIfInBounds_toArray, List.set_cons_zero, List.set_cons_succ, List.getElem_toArray, List.getElem_cons_zero, List.getElem_cons_succ]
  refine any_take (i := 9) (v := (.slice (some ⟨g, f, none⟩) (16 - f) (16 - f))) #[true, true, true, true, true, true, true, true, true, false, false, false, false] rfl (by kernel_rfl) (by kernel_rfl) (by kernel_rfl) (by kernel_rfl) (fun _ _ _ h => h) (.inl ⟨by kernel_rfl, fun x_ hu => by go_simp⟩) hS ?_
  simp only [Act.put, List.setIfInBounds_toArray, List.set_cons_zero, List.set_cons_succ, List.getElem_toArray, List.getElem_cons_zero, List.getElem_cons_succ]
  refine any_take (i := 10) (v := (.slice s n cap)) #[true, true, true, true, true, true, true, true, true, true, false, false, false] rfl (by kernel_rfl) (by kernel_rfl) (by kernel_rfl) (by kernel_rfl) (fun _ _ _ h => h) (.inl ⟨by kernel_rfl, fun x_ hu => by kernel_rfl⟩) hS ?_
  simp only [Act.put, List.setIfInBounds_toArray, List.set_cons_zero, List.set_cons_succ, List.getElem_toArray, List.getElem_cons_zero, List.getElem_cons_succ]
  refine any_one (i := 11) (by kernel_rfl) rfl (fun K_ hQ => ?_)
  rw [if_pos (by kernel_rfl)]
  refine copy_wp (.tmp 23) (.tmp 24) rfl g f (16 - f) (16 - f) s n cap (by kernel_rfl) (by kernel_rfl) (cdl l (f : Int) S M A) 71 hH.2 E (by rw [hEl]; exact unhide hm2) (unhide hsrc _ hBt) (by rw [cdl_len _ _ _ _ _ hl16, hEl]; omega) ?_
  replace hH := hH.setL f E (by rw [hEl]; omega)
  replace hBt := hBt.trans (setCells_bt (E.map (Value.int .u8)) x0 g f)
  generalize World.setCells _ _ _ _ = x1 at *
  rw [hEl]
  have hS := hH.fill
  refine hQ.out _ _ hS (fun _ => ?_)
  clear hQ K_
  simp only [Act.put, List.setIfInBounds_toArray, List.set_cons_zero, List.set_cons_succ, List.getElem_toArray, List.getElem_cons_zero, List.getElem_cons_succ]
  refine any_one (i := 12) (by kernel_rfl) rfl (fun K_ hQ => ?_)
  replace hQ := hide hQ
  go_simp
  refine (unhide hQ).out _ _ hS (fun _ => ?_)
  clear hQ K_
  refine any_done (by kernel_rfl) ?_
  clear hsrc
  replace hH := hide hH; replace hBt := hide hBt; replace hS := hide hS
  go_upto_region 5 with fail
  replace hH := unhide hH; replace hBt := unhide hBt
  have c4 := hH.fill
  refine wp_region_lit ?_
  refine list_val (.pointer (some ⟨g, 0, none⟩)) (by kernel_rfl) (by kernel_rfl) ?_
  simp only [Act.put, List.setIfInBounds_toArray, List.set_cons_zero, List.set_cons_succ, List.getElem_toArray, List.getElem_cons_zero, List.getElem_cons_succ]
  refine list_val (.pointer (some ⟨g, 0, none⟩)) (by kernel_rfl) (by kernel_rfl) ?_
  simp only [Act.put, List.setIfInBounds_toArray, List.set_cons_zero, List.set_cons_succ, List.getElem_toArray, List.getElem_cons_zero, List.getElem_cons_succ]
  refine list_val (.pointer (some ⟨g, 0, none⟩)) (by kernel_rfl) (by kernel_rfl) ?_
  simp only [Act.put, List.setIfInBounds_toArray, List.set_cons_zero, List.set_cons_succ, List.getElem_toArray, List.getElem_cons_zero, List.getElem_cons_succ]
  refine list_val (.pointer (some ⟨g, 16, none⟩)) (by kernel_rfl) (by kernel_rfl) ?_
  simp only [Act.put, List.setIfInBounds_toArray, List.set_cons_zero, List.set_cons_succ, List.getElem_toArray, List.getElem_cons_zero, List.getElem_cons_succ]
  refine list_val (.int .i64 f) (by kernel_rfl) (exec_i64 _ (.tmp 29) rfl g 16 (by kernel_rfl) f c4) ?_
  simp only [Act.put, List.setIfInBounds_toArray, List.set_cons_zero, List.set_cons_succ, List.getElem_toArray, List.getElem_cons_zero, List.getElem_cons_succ]
  refine list_val (.int .i64 m) (by kernel_rfl) (by kernel_rfl) ?_
  simp only [Act.put, List.setIfInBounds_toArray, List.set_cons_zero, List.set_cons_succ, List.getElem_toArray, List.getElem_cons_zero, List.getElem_cons_succ]
  refine list_val (.int .i64 q) (by kernel_rfl) (by go_simp) ?_
  simp only [Act.put, List.setIfInBounds_toArray, List.set_cons_zero, List.set_cons_succ, List.getElem_toArray, List.getElem_cons_zero, List.getElem_cons_succ]
  refine list_val (.pointer (some ⟨g, 0, none⟩)) (by kernel_rfl) (by kernel_rfl) ?_
  simp only [Act.put, List.setIfInBounds_toArray, List.set_cons_zero, List.set_cons_succ, List.getElem_toArray, List.getElem_cons_zero, List.getElem_cons_succ]
  refine list_val (.pointer (some ⟨g, 0, none⟩)) (by kernel_rfl) (by kernel_rfl) ?_
  simp only [Act.put, List.setIfInBounds_toArray, List.set_cons_zero, List.set_cons_succ, List.getElem_toArray, List.getElem_cons_zero, List.getElem_cons_succ]
  refine list_val (.pointer (some ⟨g, 16, none⟩)) (by kernel_rfl) (by kernel_rfl) ?_
  simp only [Act.put, List.setIfInBounds_toArray, List.set_cons_zero, List.set_cons_succ, List.getElem_toArray, List.getElem_cons_zero, List.getElem_cons_succ]
  have fz := hH.froz 16
  have hH5 := hide (hH.setF (q : Int))
  have hBt5 := hide (hBt.trans (Bt.setCell x1 16 (.int .i64 (q : Int))))
  clear hBt hH
  (refine wpList_step fun K hK => ?_; replace hK := hide hK; go_simp; refine unhide hK _ _ ?_; clear hK K)
  clear c4 fz
  refine wpList_nil ?_
  have hS5 := (unhide hH5).fill
  generalize World.setCell _ _ _ = x2 at *
  obtain ⟨l2, hl2e⟩ : ∃ l2, l2 = lay l f E := ⟨_, rfl⟩
  rw [← hl2e] at hH5
  have hl2 : l2.length = 16 := (unhide hH5).1
  have hlB2 : IsB l2 := by rw [hl2e]; exact lay_isB hlB hEB
  by_cases hpart : q < 16
  · have q1 : (q : Int) < 16 := by omega
    have hW : Hid (Wrote K g (L ++ P) w (.returned (.int .i64 0)) x2) := by
      have hm3 := unhide hm2
      have hmm : m = n := by
        have h1 : m = min n (16 - f) := hm3
        have := unhide hq
        omega
      have hEP : E = P := by rw [unhide hE]; exact List.take_of_length_le (by rw [unhide hPl]; omega)
      have hq2 : q = L.length % 16 + P.length := by rw [← unhide hf, unhide hPl, unhide hq, hmm]
      refine ⟨rfl, Cd.part (l := l) (by omega) hl16 (by rw [← unhide hf]; exact unhide hlt) ?_ hlB hPb hc hMd hMr hAd hAs, unhide hBt5⟩
      rw [← hq2, ← unhide hf, ← hEP, ← hl2e]
      exact unhide hH5
    clear hH5 hBt5
    replace hl2e := hide hl2e
    go_wp2_with fail
    rw [unhide hT]
    exact unhide hW
  · have q1 : ¬ (q : Int) < 16 := by omega
    have hfill := hide (ac_fill (rK K) (L := L) (C := E) (l := l) (by rw [← unhide hf]; exact hL) hl16 (by rw [hEl, ← unhide hf]; have := unhide hq; omega) (by rw [← unhide hf]; exact unhide hlt))
    have hq3 : Hid (q = 16) := by show q = 16; omega
    replace hl2e := hide hl2e
    go_upto_region 8 with fail
    replace hS5 := hide hS5
    have hH := unhide hH5
    have hBt := unhide hBt5
    clear hH5 hBt5
    refine wp_region_lit ?_
    refine list_val (.pointer (some ⟨g, 0, none⟩)) (by kernel_rfl) (by kernel_rfl) ?_
    simp only [Act.put, List.setIfInBounds_toArray, List.set_cons_zero, List.set_cons_succ, List.getElem_toArray, List.getElem_cons_zero, List.getElem_cons_succ]
    refine list_val (.pointer (some ⟨g, 0, none⟩)) (by kernel_rfl) (by kernel_rfl) ?_
    simp only [Act.put, List.setIfInBounds_toArray, List.set_cons_zero, List.set_cons_succ, List.getElem_toArray, List.getElem_cons_zero, List.getElem_cons_succ]
    refine list_val (.pointer (some ⟨g, 0, none⟩)) (by kernel_rfl) (by kernel_rfl) ?_
    simp only [Act.put, List.setIfInBounds_toArray, List.set_cons_zero, List.set_cons_succ, List.getElem_toArray, List.getElem_cons_zero, List.getElem_cons_succ]
    refine list_val (.pointer (some ⟨g, 0, none⟩)) (by kernel_rfl) (by kernel_rfl) ?_
    simp only [Act.put, List.setIfInBounds_toArray, List.set_cons_zero, List.set_cons_succ, List.getElem_toArray, List.getElem_cons_zero, List.getElem_cons_succ]
    refine list_val (.pointer (some ⟨g, 0, none⟩)) (by kernel_rfl) (by kernel_rfl) ?_
    simp only [Act.put, List.setIfInBounds_toArray, List.set_cons_zero, List.set_cons_succ, List.getElem_toArray, List.getElem_cons_zero, List.getElem_cons_succ]
    refine list_val (.slice (some ⟨g, 0, none⟩) 16 16) (by kernel_rfl) (by kernel_rfl) ?_
    simp only [Act.put, List.setIfInBounds_toArray, List.set_cons_zero, List.set_cons_succ, List.getElem_toArray, List.getElem_cons_zero, List.getElem_cons_succ]
    refine list_call 40 #[.pointer (some ⟨g, 0, none⟩), .slice (some ⟨g, 0, none⟩) 16 16] (by kernel_rfl) (by kernel_rfl) ((take_ok (rK K) (acN (rK K) L (L.length / 16)) g l2 (q : Int) S M A hMd hMr l2 (some ⟨g, 0, none⟩) 16 16 hl2 hlB2 _ hH hc (Lies.off hlB2 hl2)).mono ?_)
    rintro r x6 ⟨a3, c3, S3, rfl, -, hTI⟩
    refine ⟨_, rfl, ?_⟩
    rw [hl2] at hTI ⊢
    have hH := hTI.lies
    replace hBt := hBt.trans hTI.bt
    have hc3 := hTI.car
    rw [show 16 / 16 = 1 from rfl] at hc3
    clear hTI
    simp only [Act.put, List.setIfInBounds_toArray, List.set_cons_zero, List.set_cons_succ, List.getElem_toArray, List.getElem_cons_zero, List.getElem_cons_succ]
    refine wpList_nil ?_
    replace hH := hide hH; replace hBt := hide hBt; replace hc3 := hide hc3
    go_upto_region 9 with fail
    refine wp_region_lit ?_
    refine list_val (.slice s n cap) (by kernel_rfl) (by kernel_rfl) ?_
    simp only [Act.put, List.setIfInBounds_toArray, List.set_cons_zero, List.set_cons_succ, List.getElem_toArray, List.getElem_cons_zero, List.getElem_cons_succ]
    refine list_val (.int .i64 m) (by kernel_rfl) (by kernel_rfl) ?_
    simp only [Act.put, List.setIfInBounds_toArray, List.set_cons_zero, List.set_cons_succ, List.getElem_toArray, List.getElem_cons_zero, List.getElem_cons_succ]
    refine list_val (.slice (if cap = m then s else s.map (·.add m)) (n - m) (cap - m)) (by kernel_rfl) (exec_from _ (.tmp 49) (.tmp 50) rfl s n cap m (by kernel_rfl) (by kernel_rfl) (unhide hcn) (unhide hmn)) ?_
    simp only [Act.put, List.setIfInBounds_toArray, List.set_cons_zero, List.set_cons_succ, List.getElem_toArray, List.getElem_cons_zero, List.getElem_cons_succ]
    obtain ⟨a9, ha9⟩ : ∃ x, x = (if cap = m then s else s.map (·.add m)) := ⟨_, rfl⟩
    rw [← ha9]
    replace ha9 := hide ha9
    obtain ⟨n9, hn9⟩ : ∃ x, x = n - m := ⟨_, rfl⟩
    obtain ⟨c9, hc9⟩ : ∃ x, x = cap - m := ⟨_, rfl⟩
    rw [← hn9, ← hc9]
    replace hn9 := hide hn9
    replace hc9 := hide hc9
    (refine wpList_step fun K hK => ?_; replace hK := hide hK; go_simp; refine unhide hK _ _ ?_; clear hK K)
    refine wpList_nil ?_
    have hPl9 : (P.drop m).length = n9 := by rw [List.length_drop, unhide hPl, ← unhide hn9]
    have hPb9 : IsB (P.drop m) := hPb.drop m
    have hO9 : Hid (Off g l2 (q : Int) M A x6 a9 n9 c9 (P.drop m)) := by
      intro v S9 h1 h2
      have := (unhide lb v ((unhide hBt).trans h1)).rest m (unhide hmn)
      rw [← unhide ha9, ← unhide hn9, ← unhide hc9] at this
      exact this
    replace hPl9 := hide hPl9
    go_upto_region 10 with fail
    replace hPl9 := unhide hPl9
    have hO := unhide hO9
    clear hO9
    replace hH := unhide hH; replace hBt := unhide hBt
    have hc4 : Fc ((acN (rK K) (L ++ E) ((L ++ E).length / 16) : Nat) : Int) S3 := by
      have h1 := unhide hc3
      have h2 := unhide hfill
      rw [← unhide hf, ← unhide hl2e] at h2
      rw [h2] at h1
      exact h1
    clear hc3 hfill
    obtain ⟨P9, hP9⟩ : ∃ x, x = P.drop m := ⟨_, rfl⟩
    rw [← hP9] at hO hPl9 hPb9
    have hP9l := hPl9
    have hP9b := hPb9
    refine any_start (S := fun _ => True) (by kernel_rfl) ?_
    replace hH := hH.gr (Gr.refl _).drew
    replace hO : Off _ _ _ _ _ _ _ _ _ _ := fun v S h1 h2 => hO v S (((Gr.refl _).drew.bt g).trans h1) h2
    replace hBt := hBt.trans ((Gr.refl _).drew.bt g)
    generalize World.drew _ = x0 at *
    simp only [List.size_toArray, List.length_cons, List.length_nil, Array.replicate, List.replicate]
    refine any_take (i := 0) (v := (.pointer (some ⟨g, 0, none⟩))) #[false, false, false, false, false, false, false, false, false, false, false, false, false, false] rfl (by kernel_rfl) (by kernel_rfl) (by kernel_rfl) (by kernel_rfl) (fun _ _ _ h => h) (.inl ⟨by kernel_rfl, fun x_ hu => by kernel_rfl⟩) trivial ?_
    simp only [Act.put, List.setIfInBounds_toArray, List.set_cons_zero, List.set_cons_succ, List.getElem_toArray, List.getElem_cons_zero, List.getElem_cons_succ]
    refine any_take (i := 1) (v := (.pointer (some ⟨g, 0, none⟩))) #[true, false, false, false, false, false, false, false, false, false, false, false, false, false] rfl (by kernel_rfl) (by kernel_rfl) (by kernel_rfl) (by kernel_rfl) (fun _ _ _ h => h) (.inl ⟨by kernel_rfl, fun x_ hu => by kernel_rfl⟩) trivial ?_
    simp only [Act.put, List.setIfInBounds_toArray, List.set_cons_zero, List.set_cons_succ, List.getElem_toArray, List.getElem_cons_zero, List.getElem_cons_succ]
    refine any_take (i := 2) (v := (.pointer (some ⟨g, 0, none⟩))) #[true, true, false, false, false, false, false, false, false, false, false, false, false, false] rfl (by kernel_rfl) (by kernel_rfl) (by kernel_rfl) (by kernel_rfl) (fun _ _ _ h => h) (.inl ⟨by kernel_rfl, fun x_ hu => by kernel_rfl⟩) trivial ?_
    simp only [Act.put, List.setIfInBounds_toArray, List.set_cons_zero, List.set_cons_succ, List.getElem_toArray, List.getElem_cons_zero, List.getElem_cons_succ]
    refine any_take (i := 3) (v := (.pointer (some ⟨g, 0, none⟩))) #[true, true, true, false, false, false, false, false, false, false, false, false, false, false] rfl (by kernel_rfl) (by kernel_rfl) (by kernel_rfl) (by kernel_rfl) (fun _ _ _ h => h) (.inl ⟨by kernel_rfl, fun x_ hu => by kernel_rfl⟩) trivial ?_
    simp only [Act.put, List.setIfInBounds_toArray, List.set_cons_zero, List.set_cons_succ, List.getElem_toArray, List.getElem_cons_zero, List.getElem_cons_succ]
    refine any_take (i := 4) (v := (.pointer (some ⟨g, 0, none⟩))) #[true, true, true, true, false, false, false, false, false, false, false, false, false, false] rfl (by kernel_rfl) (by kernel_rfl) (by kernel_rfl) (by kernel_rfl) (fun _ _ _ h => h) (.inl ⟨by kernel_rfl, fun x_ hu => by kernel_rfl⟩) trivial ?_
    simp only [Act.put, List.setIfInBounds_toArray, List.set_cons_zero, List.set_cons_succ, List.getElem_toArray, List.getElem_cons_zero, List.getElem_cons_succ]
    refine any_take (i := 5) (v := (.slice (some ⟨g, 0, none⟩) 16 16)) #[true, true, true, true, true, false, false, false, false, false, false, false, false, false] rfl (by kernel_rfl) (by kernel_rfl) (by kernel_rfl) (by kernel_rfl) (fun _ _ _ h => h) (.inl ⟨by kernel_rfl, fun x_ hu => by kernel_rfl⟩) trivial ?_
    simp only [Act.put, List.setIfInBounds_toArray, List.set_cons_zero, List.set_cons_succ, List.getElem_toArray, List.getElem_cons_zero, List.getElem_cons_succ]
    refine any_take (i := 6) (v := (.pointer (some ⟨g, 0, none⟩))) #[true, true, true, true, true, true, false, false, false, false, false, false, false, false] rfl (by kernel_rfl) (by kernel_rfl) (by kernel_rfl) (by kernel_rfl) (fun _ _ _ h => h) (.inl ⟨by kernel_rfl, fun x_ hu => by kernel_rfl⟩) trivial ?_
    simp only [Act.put, List.setIfInBounds_toArray, List.set_cons_zero, List.set_cons_succ, List.getElem_toArray, List.getElem_cons_zero, List.getElem_cons_succ]
    refine any_take (i := 7) (v := (.slice a9 n9 c9)) #[true, true, true, true, true, true, true, false, false, false, false, false, false, false] rfl (by kernel_rfl) (by kernel_rfl) (by kernel_rfl) (by kernel_rfl) (fun _ _ _ h => h) (.inl ⟨by kernel_rfl, fun x_ hu => by kernel_rfl⟩) trivial ?_
    simp only [Act.put, List.setIfInBounds_toArray, List.set_cons_zero, List.set_cons_succ, List.getElem_toArray, List.getElem_cons_zero, List.getElem_cons_succ]
    refine any_one (i := 8) (by kernel_rfl) rfl (fun K_ hQ => ?_)
    refine step_callw (by kernel_rfl) 40 #[.pointer (some ⟨g, 0, none⟩), .slice a9 n9 c9] (by kernel_rfl) ((take_ok (rK K) (acN (rK K) (L ++ E) ((L ++ E).length / 16)) g l2 (q : Int) S3 M A hMd hMr P9 a9 n9 c9 hP9l hP9b _ hH hc4 hO).mono ?_)
    rintro r x1 ⟨a2, c2, S2, rfl, hO2, hTI⟩
    refine ⟨_, rfl, ?_⟩
    have hdl : (P9.drop (16 * (P9.length / 16))).length = P9.length % 16 := by rw [List.length_drop]; omega
    obtain ⟨d, hd⟩ : ∃ d, d = P9.length % 16 := ⟨_, rfl⟩
    have hd16 : d < 16 := by omega
    rw [← hd] at hO2 hdl ⊢
    have hlb2 := hO2 x1 S2 hTI.bt hTI.lies
    replace hd := hide hd
    clear hH hO
    refine hQ.out _ _ trivial (fun _ => ?_)
    clear hQ K_
    simp only [Act.put, List.setIfInBounds_toArray, List.set_cons_zero, List.set_cons_succ, List.getElem_toArray, List.getElem_cons_zero, List.getElem_cons_succ]
    refine any_one (i := 9) (by kernel_rfl) rfl (fun K_ hQ => ?_)
    rw [if_pos (by kernel_rfl)]
    obtain ⟨D, hD⟩ : ∃ D, D = P9.drop (16 * (P9.length / 16)) := ⟨_, rfl⟩
    rw [← hD] at hlb2 hdl
    replace hD := hide hD
    refine copy_wp (.tmp 57) (.tmp 60) rfl g 0 16 16 a2 d c2 (by kernel_rfl) (by kernel_rfl) (cdl l2 (q : Int) S2 M A) 71 hTI.lies.2 D (by rw [hdl]; exact (Nat.min_eq_left (by omega)).symm) hlb2.sl (by rw [cdl_len _ _ _ _ _ hTI.lies.1, hdl]; omega) ?_
    have hH := hTI.lies.setL 0 D (by rw [hdl]; omega)
    have hBt2 := hBt.trans (hTI.bt.trans (setCells_bt (D.map (Value.int .u8)) x1 g 0))
    have hcar2 := hTI.car
    clear hTI hlb2 hO2 hBt
    generalize World.setCells _ _ _ _ = x2 at *
    rw [hdl]
    refine hQ.out _ _ trivial (fun _ => ?_)
    clear hQ K_
    simp only [Act.put, List.setIfInBounds_toArray, List.set_cons_zero, List.set_cons_succ, List.getElem_toArray, List.getElem_cons_zero, List.getElem_cons_succ]
    refine any_take (i := 10) (v := (.pointer (some ⟨g, 0, none⟩))) #[true, true, true, true, true, true, true, true, true, true, false, false, false, false] rfl (by kernel_rfl) (by kernel_rfl) (by kernel_rfl) (by kernel_rfl) (fun _ _ _ h => h) (.inl ⟨by kernel_rfl, fun x_ hu => by kernel_rfl⟩) trivial ?_
    simp only [Act.put, List.setIfInBounds_toArray, List.set_cons_zero, List.set_cons_succ, List.getElem_toArray, List.getElem_cons_zero, List.getElem_cons_succ]
    refine any_take (i := 11) (v := (.pointer (some ⟨g, 0, none⟩))) #[true, true, true, true, true, true, true, true, true, true, true, false, false, false] rfl (by kernel_rfl) (by kernel_rfl) (by kernel_rfl) (by kernel_rfl) (fun _ _ _ h => h) (.inl ⟨by kernel_rfl, fun x_ hu => by kernel_rfl⟩) trivial ?_
    simp only [Act.put, List.setIfInBounds_toArray, List.set_cons_zero, List.set_cons_succ, List.getElem_toArray, List.getElem_cons_zero, List.getElem_cons_succ]
    refine any_take (i := 12) (v := (.pointer (some ⟨g, 16, none⟩))) #[true, true, true, true, true, true, true, true, true, true, true, true, false, false] rfl (by kernel_rfl) (by kernel_rfl) (by kernel_rfl) (by kernel_rfl) (fun _ _ _ h => h) (.inl ⟨by kernel_rfl, fun x_ hu => by kernel_rfl⟩) trivial ?_
    simp only [Act.put, List.setIfInBounds_toArray, List.set_cons_zero, List.set_cons_succ, List.getElem_toArray, List.getElem_cons_zero, List.getElem_cons_succ]
    refine any_one (i := 13) (by kernel_rfl) rfl (fun K_ hQ => ?_)
    have c4 := hH.fill
    have fz := hH.froz 16
    have hH3 := hide (hH.setF (d : Int))
    have hBt3 := hide (hBt2.trans (Bt.setCell x2 16 (.int .i64 (d : Int))))
    clear hBt2 hH
    replace hQ := hide hQ
    go_simp
    refine (unhide hQ).out _ _ trivial (fun _ => ?_)
    clear hQ K_ c4 fz
    generalize World.setCell _ _ _ = x3 at *
    refine any_done (by kernel_rfl) ?_
    have hW : Hid (Wrote K g (L ++ P) w (.returned (.int .i64 0)) x3) := by
      have e1 : L ++ P = (L ++ E) ++ P9 := by rw [hP9, unhide hE, List.append_assoc, List.take_append_drop]
      rw [e1]
      refine ⟨rfl, Cd.whole ?_ (by rw [unhide hd, unhide hD] at hH3; exact unhide hH3) hlB2 hPb9 hcar2 hMd hMr hAd hAs, unhide hBt3⟩
      rw [List.length_append, hEl]
      have h1 := unhide hf
      have h2 := unhide hq
      have h3 := unhide hq3
      omega
    clear hH3 hBt3 hcar2 hc4
    go_wp2_with fail
    rw [unhide hT]
    exact unhide hW
theorem write_ok (K L P : List Int) (g : Nat) (s : Option Addr) (n cap : Nat) (w : World) (hC : Cd K g L w) (lb : ∀ v, Bt g w v → Lb v s n cap P) : Calls Try.prog 28 #[.pointer (some ⟨g, 0, none⟩), .slice s n cap] w (Wrote K g (L ++ P) w) := by
  rcases Nat.eq_zero_or_pos (L.length % 16) with h | h
  · exact write_whole K L P g h s n cap w hC lb
  · exact write_some K L P g h s n cap w hC lb
set_option maxHeartbeats 400000 in
theorem write_nil (s : Option Addr) (n cap : Nat) (w : World) : Calls Try.prog 28 #[.pointer none, .slice s n cap] w (fun r w' => r = .returned (.int .i64 1) ∧ w' = w) := by
  go_enter Try.func28, Try.ntmps28
  go_wp2_with fail
  go_ret
  exact ⟨rfl, rfl⟩
end Go.Proofs.Ytdekjbdkpchbjaa
