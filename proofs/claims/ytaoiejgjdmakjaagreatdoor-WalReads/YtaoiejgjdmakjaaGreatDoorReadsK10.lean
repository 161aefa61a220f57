/-
  Of layer 12: what the proof leans on.
-/
import Derived.Test.YtaoiejgjdmakjaaGreatDoorReadsK9
namespace Go.Proofs.YtaoiejgjdmakjaaGreatDoor
open Go.RowKit
set_option maxRecDepth 100000
set_option linter.unusedSimpArgs false
set_option linter.unusedVariables false
def ned (n : Nat) : Nat := (n + 62) / 63 + 1
def mk48 (t k : Nat) (x : List Int) : List Int := 1 :: (lowL (t : Int) 8 ++ (lowL (k : Int) 4 ++ (lowL (x.length : Int) 4 ++ (sh16 x ++ List.replicate 15 0))))
def mkL (t k : Nat) (x : List Int) : List Int := mk48 t k x ++ sh16 (mk48 t k x)
theorem mk48_len (t k : Nat) (x : List Int) : (mk48 t k x).length = 48 := by
  unfold mk48
  simp only [List.length_cons, List.length_append, lowL_len, sh16_len, List.length_replicate]
theorem mkL_len (t k : Nat) (x : List Int) : (mkL t k x).length = 64 := by
  unfold mkL
  rw [List.length_append, mk48_len, sh16_len]
theorem mk48_isB (t k : Nat) (x : List Int) : IsB (mk48 t k x) := by
  unfold mk48
  have h : IsB (lowL (t : Int) 8 ++ (lowL (k : Int) 4 ++ (lowL (x.length : Int) 4 ++ (sh16 x ++ List.replicate 15 0)))) := isB_app (lowL_isB _ _) (isB_app (lowL_isB _ _) (isB_app (lowL_isB _ _) (isB_app (sh16_isB _ (sumL_isB _)) (isB_rep 15))))
  intro z hz
  rcases List.mem_cons.1 hz with e | e
  · omega
  · exact h z e
theorem mkL_bb (t k : Nat) (x : List Int) : BB (mkL t k x) := ⟨mkL_len t k x, isB_app (mk48_isB t k x) (sh16_isB _ (sumL_isB _))⟩
def trn (b : List Int) : Nat := (lowN ((b.drop 1).take 8)).toNat
def cn4 (b : List Int) : Nat := (lowN ((b.drop 13).take 4)).toNat
theorem mkL_first (t k : Nat) (x : List Int) : (mkL t k x).getD 0 0 = 1 := by
  unfold mkL mk48
  rfl
theorem mkL_trn (t k : Nat) (x : List Int) (ht : t < 18446744073709551616) : trn (mkL t k x) = t := by
  unfold trn mkL mk48
  generalize sh16 (1 :: (lowL (t : Int) 8 ++ (lowL (k : Int) 4 ++ (lowL (x.length : Int) 4 ++ (sh16 x ++ List.replicate 15 0))))) = H
  generalize sh16 x = G
  rw [List.cons_append, List.drop_succ_cons, List.drop_zero, List.append_assoc, take_app _ _ 8 (lowL_len _ _), lowN_lowL 8 (t : Int) (by omega) (by omega), Int.toNat_natCast]
theorem mkL_cn4 (t k : Nat) (x : List Int) (hx : x.length < 4294967296) : cn4 (mkL t k x) = x.length := by
  unfold cn4 mkL mk48
  generalize sh16 (1 :: (lowL (t : Int) 8 ++ (lowL (k : Int) 4 ++ (lowL (x.length : Int) 4 ++ (sh16 x ++ List.replicate 15 0))))) = H
  generalize sh16 x = G
  rw [List.cons_append, show (13 : Nat) = 12 + 1 from rfl, List.drop_succ_cons, List.append_assoc, show (12 : Nat) = 8 + 4 from rfl, drop_app _ _ 8 4 (lowL_len _ _), List.append_assoc, show (4 : Nat) = 4 + 0 from rfl, drop_app _ _ 4 0 (lowL_len _ _), List.drop_zero, List.append_assoc, show (4 + 0 : Nat) = 4 from rfl, take_app _ _ 4 (lowL_len _ _), lowN_lowL 4 (x.length : Int) (by omega) (by omega), Int.toNat_natCast]
def dat (x : List Int) (i : Nat) : List Int := 0 :: ((x.drop (63 * i)).take 63 ++ List.replicate (63 - ((x.drop (63 * i)).take 63).length) 0)
theorem dat_len (x : List Int) (i : Nat) : (dat x i).length = 64 := by
  unfold dat
  rw [List.length_cons, List.length_append, List.length_replicate]
  have : ((x.drop (63 * i)).take 63).length ≤ 63 := by rw [List.length_take]; omega
  omega
theorem dat_bb {x : List Int} (h : IsB x) (i : Nat) : BB (dat x i) := by
  refine ⟨dat_len x i, ?_⟩
  unfold dat
  intro z hz
  rcases List.mem_cons.1 hz with e | e
  · omega
  · rcases List.mem_append.1 e with e | e
    · exact h z (List.mem_of_mem_drop (List.mem_of_mem_take e))
    · have := List.eq_of_mem_replicate e
      omega
theorem dat_first (x : List Int) (i : Nat) : (dat x i).getD 0 0 = 0 := rfl
def bod (B : Nat → List Int) (o : Nat) : Nat → List Int
  | 0 => []
  | k + 1 => bod B o k ++ (B (o + k)).drop 1
theorem bod_dat {B : Nat → List Int} {o : Nat} {x : List Int} : ∀ (k : Nat), 63 * k ≤ x.length → (∀ i, i < k → B (o + i) = dat x i) → bod B o k = x.take (63 * k)
  | 0, _, _ => by simp [bod]
  | k + 1, hk, h => by
    rw [bod, bod_dat k (by omega) (fun i hi => h i (by omega)), h k (by omega)]
    have hl : ((x.drop (63 * k)).take 63).length = 63 := by rw [List.length_take, List.length_drop]; omega
    unfold dat
    rw [List.drop_succ_cons, List.drop_zero, hl, Nat.sub_self, List.replicate_zero, List.append_nil, ← List.take_add, show 63 * k + 63 = 63 * (k + 1) from by omega]
theorem bod_all {B : Nat → List Int} {o : Nat} {x : List Int} (k : Nat) (hk : k = (x.length + 62) / 63) (h : ∀ i, 63 * i < x.length → B (o + i) = dat x i) : (bod B o k).take x.length = x := by
  rcases Nat.eq_zero_or_pos x.length with h0 | h0
  · rw [h0, List.take_zero]
    exact (List.eq_nil_of_length_eq_zero h0).symm
  · obtain ⟨q, hq⟩ : ∃ q, k = q + 1 := ⟨k - 1, by omega⟩
    subst hq
    rw [bod, bod_dat q (by omega) (fun i hi => h i (by omega)), h q (by omega)]
    unfold dat
    rw [List.drop_succ_cons, List.drop_zero]
    have e : (x.drop (63 * q)).take 63 = x.drop (63 * q) := List.take_of_length_le (by rw [List.length_drop]; omega)
    rw [e, ← List.append_assoc, List.take_append_drop, List.take_append_of_le_length (Nat.le_refl _), List.take_length]
structure IsTx (B : Nat → List Int) (N t k a : Nat) (x : List Int) : Prop where
  fit : a + ned x.length ≤ N
  mrk : B a = mkL t k x
  da : ∀ i, 63 * i < x.length → B (a + 1 + i) = dat x i
theorem IsTx.small {B : Nat → List Int} {N t k a : Nat} {x : List Int} (h : IsTx B N t k a x) (hN : N ≤ 100000) : x.length < 4294967296 := by
  have := h.fit
  unfold ned at this
  omega
theorem IsTx.cnt {B : Nat → List Int} {N t k a : Nat} {x : List Int} (h : IsTx B N t k a x) (hN : N ≤ 100000) : cn4 (B a) = x.length := by rw [h.mrk]; exact mkL_cn4 t k x (h.small hN)
theorem istx_bod {B : Nat → List Int} {N t k a : Nat} {x : List Int} (h : IsTx B N t k a x) : (bod B (a + 1) (ned x.length - 1)).take x.length = x := bod_all _ (by unfold ned; omega) h.da
theorem IsTx.uniq {B : Nat → List Int} {N t k a : Nat} {x y : List Int} (h : IsTx B N t k a x) (g : IsTx B N t k a y) (hN : N ≤ 100000) : x = y := by
  have e : x.length = y.length := (h.cnt hN).symm.trans (g.cnt hN)
  have h1 := istx_bod h
  have h2 := istx_bod g
  rw [e] at h1
  exact h1.symm.trans h2
theorem IsTx.congr {B C : Nat → List Int} {N t k a : Nat} {x : List Int} (h : IsTx B N t k a x) (e : ∀ i, a ≤ i → i < a + ned x.length → C i = B i) : IsTx C N t k a x := by
  refine ⟨h.fit, (e a (Nat.le_refl _) (by unfold ned; omega)).trans h.mrk, fun i hi => (e _ (by omega) (by unfold ned; omega)).trans (h.da i hi)⟩
def usd : List (List Int) → Nat
  | [] => 0
  | x :: r => ned x.length + usd r
theorem usd_app (X Y : List (List Int)) : usd (X ++ Y) = usd X + usd Y := by
  induction X with
  | nil => rw [List.nil_append, usd, Nat.zero_add]
  | cons x r ih => rw [List.cons_append, usd, usd, ih]; omega
theorem usd_one (x : List Int) : usd [x] = ned x.length := by rw [usd, usd, Nat.add_zero]
def Lay (B : Nat → List Int) (N t : Nat) : Nat → Nat → List (List Int) → Prop
  | _, _, [] => True
  | k, a, x :: r => IsTx B N t k a x ∧ Lay B N t (k + 1) (a + ned x.length) r
theorem Lay.app {B : Nat → List Int} {N t : Nat} : ∀ (X Y : List (List Int)) {k a : Nat}, Lay B N t k a (X ++ Y) ↔ Lay B N t k a X ∧ Lay B N t (k + X.length) (a + usd X) Y
  | [], Y, k, a => by simp [Lay, usd]
  | x :: r, Y, k, a => by
    rw [List.cons_append, Lay, Lay, Lay.app r Y, List.length_cons, usd, and_assoc, show k + 1 + r.length = k + (r.length + 1) from by omega, Nat.add_assoc a]
theorem Lay.congr {B C : Nat → List Int} {N t : Nat} : ∀ (X : List (List Int)) {k a : Nat}, Lay B N t k a X → (∀ i, a ≤ i → i < a + usd X → C i = B i) → Lay C N t k a X
  | [], _, _, _, _ => trivial
  | x :: r, k, a, h, e => by
    rw [usd] at e
    exact ⟨h.1.congr (fun i h1 h2 => e i h1 (by omega)), Lay.congr r h.2 (fun i h1 h2 => e i (by omega) (by omega))⟩
structure Tl (B : Nat → List Int) (N t : Nat) (X : List (List Int)) : Prop where
  lay : Lay B N t 0 0 X
  fin : ∀ x, ¬ IsTx B N t X.length (usd X) x
theorem lay_uniq {B : Nat → List Int} {N t : Nat} (hN : N ≤ 100000) : ∀ (X Y : List (List Int)) {k a : Nat}, Lay B N t k a X → Lay B N t k a Y → (∀ x, ¬ IsTx B N t (k + X.length) (a + usd X) x) → (∀ x, ¬ IsTx B N t (k + Y.length) (a + usd Y) x) → X = Y
  | [], [], _, _, _, _, _, _ => rfl
  | [], y :: r, k, a, _, h, f, _ => absurd h.1 (f y)
  | x :: r, [], k, a, h, _, _, f => absurd h.1 (f x)
  | x :: r, y :: q, k, a, h, g, f1, f2 => by
    have e := h.1.uniq g.1 hN
    subst e
    rw [List.length_cons, usd] at f1 f2
    rw [lay_uniq hN r q h.2 g.2 (by rw [show k + 1 + r.length = k + (r.length + 1) from by omega, Nat.add_assoc]; exact f1) (by rw [show k + 1 + q.length = k + (q.length + 1) from by omega, Nat.add_assoc]; exact f2)]
theorem Tl.uniq {B : Nat → List Int} {N t : Nat} {X Y : List (List Int)} (hN : N ≤ 100000) (h : Tl B N t X) (g : Tl B N t Y) : X = Y :=
  lay_uniq hN X Y h.lay g.lay (by rw [Nat.zero_add, Nat.zero_add]; exact h.fin) (by rw [Nat.zero_add, Nat.zero_add]; exact g.fin)
theorem Tl.congr {B C : Nat → List Int} {N t : Nat} {X : List (List Int)} (h : Tl B N t X) (hu : usd X ≤ N) (e : ∀ i, i < N → C i = B i) : Tl C N t X :=
  ⟨h.lay.congr X (fun i _ h2 => e i (by omega)), fun x k => h.fin x (k.congr (fun i h1 h2 => (e i (by have := k.fit; omega)).symm))⟩
def Fre (t : Nat) (b : List Int) : Prop := b.getD 0 0 = 1 → trn b < t
theorem fre_dat (t : Nat) (x : List Int) (i : Nat) : Fre t (dat x i) := fun h => by rw [dat_first] at h; omega
theorem fre_mk {t : Nat} (ht : t < 18446744073709551616) (k : Nat) (x : List Int) : Fre (t + 1) (mkL t k x) := fun _ => by rw [mkL_trn t k x ht]; omega
theorem fre_zb (t : Nat) : Fre t ZB := fun h => by
  have : ZB.getD 0 0 = 0 := rfl
  omega
structure Wl (B : Nat → List Int) (N t : Nat) (X : List (List Int)) : Prop where
  lay : Lay B N t 0 0 X
  le : usd X ≤ N
  old : ∀ i, usd X ≤ i → i < N → Fre t (B i)
  all : ∀ i, i < N → Fre (t + 1) (B i)
theorem Wl.tl {B : Nat → List Int} {N t : Nat} {X : List (List Int)} (h : Wl B N t X) (ht : t < 18446744073709551616) : Tl B N t X := by
  refine ⟨h.lay, fun x k => ?_⟩
  have hf := k.fit
  have hn : 1 ≤ ned x.length := by unfold ned; omega
  have h1 := h.old (usd X) (Nat.le_refl _) (by omega)
  rw [k.mrk] at h1
  have h2 := h1 (mkL_first t _ x)
  rw [mkL_trn t _ x ht] at h2
  omega
theorem Wl.zero {B : Nat → List Int} {N : Nat} (t : Nat) (h : ∀ i, i < N → B i = ZB) : Wl B N t [] := ⟨trivial, Nat.zero_le _, fun i _ hi => by rw [h i hi]; exact fre_zb t, fun i hi => by rw [h i hi]; exact fre_zb _⟩
theorem Wl.turn {B : Nat → List Int} {N t : Nat} {X : List (List Int)} (h : Wl B N t X) : Wl B N (t + 1) [] := ⟨trivial, Nat.zero_le _, fun i _ hi => h.all i hi, fun i hi e => by have := h.all i hi e; omega⟩
theorem Wl.congr {B C : Nat → List Int} {N t : Nat} {X : List (List Int)} (h : Wl B N t X) (e : ∀ i, i < N → C i = B i) : Wl C N t X :=
  ⟨h.lay.congr X (fun i _ h2 => e i (by have := h.le; omega)), h.le, fun i h1 h2 => by rw [e i h2]; exact h.old i h1 h2, fun i h1 => by rw [e i h1]; exact h.all i h1⟩
theorem Wl.part {B C : Nat → List Int} {N t : Nat} {X : List (List Int)} (h : Wl B N t X) (x : List Int) (e : ∀ i, i < N → C i = B i ∨ (usd X < i ∧ C i = dat x (i - usd X - 1))) : Wl C N t X := by
  have hl := h.le
  refine ⟨h.lay.congr X (fun i _ h2 => ?_), h.le, fun i h1 h2 => ?_, fun i h1 => ?_⟩
  · rcases e i (by omega) with e | ⟨e, _⟩
    · exact e
    · omega
  · rcases e i h2 with e | ⟨_, e⟩
    · rw [e]; exact h.old i h1 h2
    · rw [e]; exact fre_dat _ _ _
  · rcases e i h1 with e | ⟨_, e⟩
    · rw [e]; exact h.all i h1
    · rw [e]; exact fre_dat _ _ _
theorem Wl.snoc {B C : Nat → List Int} {N t : Nat} {X : List (List Int)} (h : Wl B N t X) (ht : t < 18446744073709551616) (x : List Int) (hf : usd X + ned x.length ≤ N) (hm : C (usd X) = mkL t X.length x) (hd : ∀ i, 63 * i < x.length → C (usd X + 1 + i) = dat x i) (e : ∀ i, i < N → (i < usd X ∨ usd X + ned x.length ≤ i) → C i = B i) : Wl C N t (X ++ [x]) := by
  have hl := h.le
  have hs : ∀ i, usd X ≤ i → i < usd X + ned x.length → Fre (t + 1) (C i) := by
    intro i h1 h2
    rcases Nat.eq_or_lt_of_le h1 with h3 | h3
    · rw [← h3, hm]; exact fre_mk ht _ _
    · have e := hd (i - usd X - 1) (by unfold ned at h2; omega)
      rw [show usd X + 1 + (i - usd X - 1) = i from by omega] at e
      rw [e]; exact fre_dat _ _ _
  refine ⟨(Lay.app X [x]).2 ⟨h.lay.congr X (fun i _ h2 => e i (by omega) (.inl (by omega))), ?_⟩, by rw [usd_app, usd_one]; exact hf, fun i h1 h2 => ?_, fun i h1 => ?_⟩
  · rw [Nat.zero_add, Nat.zero_add]
    exact ⟨⟨hf, hm, hd⟩, trivial⟩
  · rw [usd_app, usd_one] at h1
    rw [e i h2 (.inr h1)]
    exact h.old i (by omega) h2
  · by_cases h2 : i < usd X ∨ usd X + ned x.length ≤ i
    · rw [e i h1 h2]; exact h.all i h1
    · exact hs i (by omega) (by omega)
def wrf (o : Nat) (f : Nat → List Int) (k : Nat) : List (Nat × List Int) := (List.range k).map fun i => (o + i, f i)
theorem wrf_succ (o : Nat) (f : Nat → List Int) (k : Nat) : wrf o f (k + 1) = wrf o f k ++ [(o + k, f k)] := by unfold wrf; rw [List.range_succ, List.map_append]; rfl
theorem wrf_mem {o : Nat} {f : Nat → List Int} {k : Nat} {x : Nat × List Int} (h : x ∈ wrf o f k) : o ≤ x.1 ∧ x.1 < o + k ∧ x.2 = f (x.1 - o) := by
  unfold wrf at h
  obtain ⟨i, hi, rfl⟩ := List.mem_map.1 h
  rw [List.mem_range] at hi
  dsimp only
  rw [show o + i - o = i from by omega]
  exact ⟨by omega, by omega, rfl⟩
theorem wrf_len (o : Nat) (f : Nat → List Int) (k : Nat) : (wrf o f k).length = k := by unfold wrf; simp
theorem wrf_cur (S : List (List Int)) (P : List (Nat × List Int)) (o : Nat) (f : Nat → List Int) (j : Nat) : ∀ k, curL S (P ++ wrf o f k) j (P ++ wrf o f k).length = if o ≤ j ∧ j < o + k then f (j - o) else curL S P j P.length
  | 0 => by rw [if_neg (by omega), show wrf o f 0 = [] from rfl, List.append_nil]
  | k + 1 => by
    rw [wrf_succ, ← List.append_assoc, curL_snoc, wrf_cur S P o f j k]
    dsimp only
    by_cases h : o + k = j
    · rw [if_pos h, if_pos (by omega)]
      congr 1
      omega
    · rw [if_neg h]
      by_cases h2 : o ≤ j ∧ j < o + k
      · rw [if_pos h2, if_pos (by omega)]
      · rw [if_neg h2, if_neg (by omega)]
theorem done_pend (D : Dk) : D.doneD.pend = D.pend := by unfold Dk.doneD; split <;> rfl
theorem step_keep {D : Dk} {m j : Nat} (hD : D.Ok m) (hp : ∀ x ∈ D.pend, x.1 ≠ j) (o : Option (Nat × List Int)) (ho : ∀ x, o = some x → x.1 ≠ j) : (∀ x ∈ (D.step o).1.pend, x.1 ≠ j) ∧ (D.step o).1.safe.getD j [] = D.safe.getD j [] := by
  cases o with
  | none =>
    show (∀ x ∈ D.syncD.pend, x.1 ≠ j) ∧ D.syncD.safe.getD j [] = _
    unfold Dk.syncD
    split
    · exact ⟨hp, rfl⟩
    · split
      · rw [done_pend, done_len]; exact ⟨hp, rfl⟩
      · refine ⟨fun x hx => (by cases hx), ?_⟩
        show (liv D.doneD.safe D.doneD.pend D.doneD.all D.doneD.pend.length).getD j [] = _
        rw [done_len, done_pend]
        rcases liv_pick D.safe D.pend D.doneD.all (fun x hx => (hD.pnd x hx).1) j D.pend.length (Nat.le_refl _) with h1 | ⟨k, h1, h2, _⟩
        · exact h1
        · exact absurd h2 (hp _ (mem_of_getD h1))
  | some x =>
    show (∀ y ∈ (D.writeD _ _).pend, y.1 ≠ j) ∧ (D.writeD _ _).safe.getD j [] = _
    unfold Dk.writeD
    split
    · exact ⟨hp, rfl⟩
    · split
      · split
        · rw [done_pend, done_len]; exact ⟨hp, rfl⟩
        · show (∀ y ∈ D.doneD.pend ++ [((x.1 : Int).toNat, x.2)], y.1 ≠ j) ∧ D.doneD.safe.getD j [] = _
          rw [done_pend, done_len, Int.toNat_natCast]
          refine ⟨fun y hy => ?_, rfl⟩
          rcases List.mem_append.1 hy with hy | hy
          · exact hp y hy
          · rw [List.mem_singleton] at hy
            rw [hy]
            exact ho x rfl
      · exact ⟨hp, rfl⟩
theorem run_keep {j : Nat} : ∀ (l : List (Option (Nat × List Int))) {D : Dk} {m : Nat}, D.Ok m → (∀ x, some x ∈ l → BB x.2 ∧ x.1 ≠ j) → (∀ x ∈ D.pend, x.1 ≠ j) → (∀ x ∈ (Dk.runD l D).1.pend, x.1 ≠ j) ∧ (Dk.runD l D).1.safe.getD j [] = D.safe.getD j []
  | [], D, m, _, _, hp => ⟨hp, rfl⟩
  | o :: r, D, m, hD, hl, hp => by
    have h1 := step_ok hD o (fun x e => (hl x (by rw [e]; exact List.mem_cons_self)).1)
    obtain ⟨h2, h3⟩ := step_keep hD hp o (fun x e => (hl x (by rw [e]; exact List.mem_cons_self)).2)
    rw [Dk.runD]
    split
    · obtain ⟨h4, h5⟩ := run_keep r h1 (fun x hx => hl x (List.mem_cons_of_mem _ hx)) h2
      exact ⟨h4, h5.trans h3⟩
    · exact ⟨h2, h3⟩
theorem run_cur {j : Nat} {l : List (Option (Nat × List Int))} {D : Dk} {m : Nat} (hD : D.Ok m) (hl : ∀ x, some x ∈ l → BB x.2 ∧ x.1 ≠ j) (hp : ∀ x ∈ D.pend, x.1 ≠ j) (keep : List Bool) : (Dk.runD l D).1.cur j = D.cur j ∧ ((Dk.runD l D).1.crashD keep).cur j = D.cur j := by
  obtain ⟨h1, h2⟩ := run_keep l hD hl hp
  have h3 := run_ok l hD (fun x hx => (hl x hx).1)
  rw [cur_none h1, h2, cur_none hp, crash_none (fun x hx => (h3.pnd x hx).1) keep h1, h2]
  exact ⟨rfl, rfl⟩
def appOps (o t k u : Nat) (x : List Int) : List (Option (Nat × List Int)) := (wrf (o + u + 1) (dat x) ((x.length + 62) / 63)).map some ++ [none, some (o + u, mkL t k x), none]
theorem app_len (o t k u : Nat) (x : List Int) : (appOps o t k u x).length = (x.length + 62) / 63 + 3 := by
  unfold appOps
  rw [List.length_append, List.length_map, wrf_len]
  rfl
theorem app_mem {o t k u : Nat} {x : List Int} (hx : IsB x) : ∀ y, some y ∈ appOps o t k u x → BB y.2 ∧ o + u ≤ y.1 ∧ y.1 < o + u + ned x.length := by
  intro y hy
  have hb := mkL_bb t k x
  unfold appOps at hy
  generalize mkL t k x = bk at *
  unfold ned
  rcases List.mem_append.1 hy with hy | hy
  · obtain ⟨z, hz, e⟩ := List.mem_map.1 hy
    have e2 := Option.some.inj e
    subst e2
    obtain ⟨h1, h2, h3⟩ := wrf_mem hz
    exact ⟨by rw [h3]; exact dat_bb hx _, by omega, by omega⟩
  · simp only [List.mem_cons, List.not_mem_nil, or_false, reduceCtorEq, false_or, Option.some.injEq] at hy
    rw [hy]
    exact ⟨hb, by simp, by simp⟩
set_option maxHeartbeats 400000 in
theorem app_run {D : Dk} {m o N t : Nat} {X : List (List Int)} {x : List Int} (hD : D.Ok m) (hd : D.dead = false) (hl : -1 ≤ D.left) (hp : D.pend = []) (hn : o + N ≤ D.safe.length) (k : Wl (fun i => D.cur (o + i)) N t X) (ht : t < 18446744073709551616) (hx : IsB x) (hf : usd X + ned x.length ≤ N) :
    ((Dk.runD (appOps o t X.length (usd X) x) D).2 = 0 ∧ Went D (Dk.runD (appOps o t X.length (usd X) x) D).1 ((x.length + 62) / 63 + 3) ∧ (Dk.runD (appOps o t X.length (usd X) x) D).1.pend = [] ∧ Wl (fun i => (Dk.runD (appOps o t X.length (usd X) x) D).1.cur (o + i)) N t (X ++ [x])) ∨
    (0 ≤ D.left ∧ (Dk.runD (appOps o t X.length (usd X) x) D).2 = 7 ∧ (Dk.runD (appOps o t X.length (usd X) x) D).1.dead = true ∧ ∀ keep, Wl (fun i => ((Dk.runD (appOps o t X.length (usd X) x) D).1.crashD keep).cur (o + i)) N t X ∨ Wl (fun i => ((Dk.runD (appOps o t X.length (usd X) x) D).1.crashD keep).cur (o + i)) N t (X ++ [x])) := by
  obtain ⟨bk, hbk⟩ : ∃ b, b = mkL t X.length x := ⟨_, rfl⟩
  obtain ⟨K, hK⟩ : ∃ K, K = (x.length + 62) / 63 := ⟨_, rfl⟩
  have hned : ned x.length = K + 1 := by unfold ned; omega
  rw [hned] at hf
  obtain ⟨u, hu⟩ : ∃ u, u = usd X := ⟨_, rfl⟩
  have htk : appOps o t X.length (usd X) x = (wrf (o + u + 1) (dat x) K).map some ++ [none, some (o + u, bk), none] := by unfold appOps; rw [hbk, hK, hu]
  rw [htk, run_app]
  rw [← hu] at hf
  have part : ∀ (C : Nat → List Int), (∀ j, C j = D.cur j ∨ (o + u + 1 ≤ j ∧ j < o + u + 1 + K ∧ C j = dat x (j - (o + u + 1)))) → Wl (fun i => C (o + i)) N t X := by
    intro C hC
    refine k.part x (fun i hi => ?_)
    rcases hC (o + i) with h1 | ⟨h1, h2, h3⟩
    · exact .inl h1
    · right
      rw [← hu]
      exact ⟨by omega, by show C (o + i) = _; rw [h3, show o + i - (o + u + 1) = i - u - 1 from by omega]⟩
  have whole : ∀ (C : Nat → List Int), C (o + u) = bk → (∀ j, j ≠ o + u → C j = if o + u + 1 ≤ j ∧ j < o + u + 1 + K then dat x (j - (o + u + 1)) else D.cur j) → Wl (fun i => C (o + i)) N t (X ++ [x]) := by
    intro C hm hC
    refine k.snoc ht x (by rw [hned, ← hu]; exact hf) (by show C (o + usd X) = _; rw [← hu, hm, hbk]) (fun i hi => ?_) (fun i hi h2 => ?_)
    · show C (o + (usd X + 1 + i)) = _
      rw [← hu, hC _ (by omega), if_pos (by omega), show o + (u + 1 + i) - (o + u + 1) = i from by omega]
    · rw [hned, ← hu] at h2
      show C (o + i) = D.cur (o + i)
      rw [hC _ (by omega), if_neg (by omega)]
  have cut1 : ∀ (E : Dk), E.safe = D.safe → (∃ q, E.pend = (wrf (o + u + 1) (dat x) K).take q) → ∀ keep, Wl (fun i => (E.crashD keep).cur (o + i)) N t X := by
    rintro E hs ⟨q, hpe⟩ keep
    have hm : ∀ y ∈ E.pend, y ∈ wrf (o + u + 1) (dat x) K := by
      intro y hy
      rw [hpe] at hy
      exact List.mem_of_mem_take hy
    have hr : ∀ y ∈ E.pend, y.1 < E.safe.length := by
      intro y hy
      rw [hs]
      have := wrf_mem (hm y hy)
      omega
    refine part _ (fun j => ?_)
    rw [crash_cur]
    rcases liv_pick E.safe E.pend keep hr j E.pend.length (Nat.le_refl _) with h1 | ⟨i, h1, h2, h3⟩
    · left
      rw [h1, hs, cur_none (by rw [hp]; intro y hy; cases hy)]
    · right
      obtain ⟨g1, g2, g3⟩ := wrf_mem (hm _ (mem_of_getD (d := (0, [])) h1))
      rw [h3, g3, h2]
      rw [h2] at g1 g2
      exact ⟨g1, g2, rfl⟩
  rcases run_writes (wrf (o + u + 1) (dat x) K) D hd (fun y hy => by have := wrf_mem hy; omega) hl with ⟨f1, f2, f3, f4⟩ | ⟨f0, f1, f2, f3, q, f4⟩
  case inr =>
    right
    rw [if_neg (by rw [f1]; decide)]
    rw [hp, List.nil_append] at f4
    exact ⟨f0, f1, f2, fun keep => .inl (cut1 _ f3 ⟨q, f4⟩ keep)⟩
  rw [if_pos f1]
  have c1 : ∀ j, (Dk.runD ((wrf (o + u + 1) (dat x) K).map some) D).1.cur j = if o + u + 1 ≤ j ∧ j < o + u + 1 + K then dat x (j - (o + u + 1)) else D.cur j := by
    intro j
    unfold Dk.cur
    rw [f3, f4]
    exact wrf_cur _ _ _ _ _ _
  rw [wrf_len] at f2
  generalize (Dk.runD ((wrf (o + u + 1) (dat x) K).map some) D).1 = D1 at *
  rw [hp, List.nil_append] at f4
  have hr1 : ∀ y ∈ D1.pend, y.1 < D1.safe.length := by
    intro y hy
    rw [f3]
    rw [f4] at hy
    have := wrf_mem hy
    omega
  rw [Dk.runD]
  by_cases h1 : D1.left = 0
  · obtain ⟨g1, g2, g3, g4⟩ := step_sync_off f2.dead h1
    right
    rw [if_neg (by rw [g1]; decide)]
    refine ⟨by have := f2.left; omega, g1, g2, fun keep => .inl ?_⟩
    exact cut1 _ (by rw [g3, f3]) ⟨K, by rw [g4, f4, List.take_of_length_le (by rw [wrf_len]; omega)]⟩ keep
  obtain ⟨g1, g2, g3, g4, g5, g6⟩ := step_sync f2.dead h1
  rw [if_pos g1]
  have c2 : ∀ j, (D1.step none).1.cur j = if o + u + 1 ≤ j ∧ j < o + u + 1 + K then dat x (j - (o + u + 1)) else D.cur j := fun j => (Dk.sync_cur f2.dead h1 hr1 j).trans (c1 j)
  generalize (D1.step none).1 = D2 at *
  clear cut1 c1 hr1
  have l2 : D.left < 0 → D2.left = D.left := by
    intro e
    have := f2.left e
    rw [g5, if_neg (by omega)]
    exact this
  have m2 : -1 ≤ D2.left := by have := f2.lo; rw [g5]; split <;> omega
  have n2 : D2.safe.length = D.safe.length := g3.trans f2.len
  have s2 : ∀ j, D2.safe.getD j [] = D2.cur j := fun j => (cur_none (D := D2) (j := j) (by rw [g4]; intro y hy; cases hy)).symm
  have part2 : ∀ (C : Nat → List Int), (∀ j, C j = D2.cur j) → Wl (fun i => C (o + i)) N t X := by
    intro C hC
    refine part C (fun j => ?_)
    rw [hC, c2]
    by_cases h : o + u + 1 ≤ j ∧ j < o + u + 1 + K
    · rw [if_pos h]; exact .inr ⟨h.1, h.2, rfl⟩
    · rw [if_neg h]; exact .inl rfl
  rw [Dk.runD]
  have hq3 : o + u < D2.safe.length := by omega
  by_cases h2 : D2.left = 0
  · obtain ⟨i1, i2, i3, i4⟩ := step_write_off g2 (o + u, bk) hq3 h2
    right
    rw [if_neg (by rw [i1]; decide)]
    refine ⟨by omega, i1, i2, fun keep => .inl (part2 _ fun j => ?_)⟩
    rw [crash_none (by rw [i4, g4]; intro y hy; cases hy) keep (by rw [i4, g4]; intro y hy; cases hy), i3]
    exact s2 j
  obtain ⟨i1, i2, i3, i4, i5, i6⟩ := step_write g2 (o + u, bk) hq3 h2
  rw [if_pos i1]
  rw [g4, List.nil_append] at i4
  have c3 : ∀ j, (D2.step (some (o + u, bk))).1.cur j = if o + u = j then bk else D2.cur j := by
    intro j
    have hw := Dk.write_cur g2 h2 ((o + u : Nat) : Int) ⟨by omega, by omega⟩ bk j
    rw [Int.toNat_natCast] at hw
    exact hw
  generalize (D2.step (some (o + u, bk))).1 = D3 at *
  rw [Dk.runD]
  have hr3 : ∀ y ∈ D3.pend, y.1 < D3.safe.length := by
    intro y hy
    rw [i4, List.mem_singleton] at hy
    rw [hy, i3]
    exact hq3
  by_cases h3 : D3.left = 0
  · obtain ⟨j1, j2, j3, j4⟩ := step_sync_off i2 h3
    right
    rw [if_neg (by rw [j1]; decide)]
    refine ⟨?_, j1, j2, fun keep => ?_⟩
    · rw [i5] at h3
      split at h3 <;> omega
    · generalize (D3.step none).1 = E at *
      have hrE : ∀ y ∈ E.pend, y.1 < E.safe.length := by rw [j3, j4]; exact hr3
      have hoth : ∀ j, j ≠ o + u → (E.crashD keep).cur j = D2.cur j := by
        intro j hj
        rw [crash_none hrE keep, j3, i3, s2]
        intro y hy
        rw [j4, i4, List.mem_singleton] at hy
        rw [hy]
        exact fun e => hj e.symm
      have hself : (E.crashD keep).cur (o + u) = D2.cur (o + u) ∨ (E.crashD keep).cur (o + u) = bk := by
        rw [crash_cur]
        rcases liv_pick E.safe E.pend keep hrE (o + u) E.pend.length (Nat.le_refl _) with h1 | ⟨i, h1, h2, h3⟩
        · left
          rw [h1, j3, i3, s2]
        · right
          rw [h3]
          have hy : E.pend.getD i (0, []) ∈ E.pend := mem_of_getD h1
          rw [j4, i4] at hy
          rw [List.mem_singleton] at hy
          rw [j4, i4, hy]
      rcases hself with h1 | h1
      · left
        refine part2 _ fun j => ?_
        by_cases hj : j = o + u
        · rw [hj]; exact h1
        · exact hoth j hj
      · right
        exact whole _ h1 (fun j hj => (hoth j hj).trans (c2 j))
  obtain ⟨j1, j2, j3, j4, j5, j6⟩ := step_sync i2 h3
  have c4 : ∀ j, (D3.step none).1.cur j = if o + u = j then bk else D2.cur j := fun j => (Dk.sync_cur i2 h3 hr3 j).trans (c3 j)
  rw [if_pos j1, Dk.runD]
  generalize (D3.step none).1 = D4 at *
  left
  refine ⟨rfl, ⟨j2, by rw [j3, i3, n2], fun e => ?_, ?_, ?_⟩, j4, whole _ (by rw [c4, if_pos rfl]) (fun j hj => by rw [c4, if_neg (fun e => hj e.symm)]; exact c2 j)⟩
  · have a1 := l2 e
    have a2 : D3.left = D2.left := by rw [i5, if_neg (by omega)]
    rw [j5, if_neg (by omega), a2, a1]
  · have a2 : -1 ≤ D3.left := by rw [i5]; split <;> omega
    rw [j5]
    split <;> omega
  · rw [j6, i6, g6, f2.ops, hK]
    omega
def lgo (n : Nat) : Nat := 2 + 2 * ((n - 2) / 4)
structure Wd (D : Dk) (m : Nat) (s : Sup) (L : List Int) (X : List (List Int)) : Prop where
  fd : Fd D m s L
  pn : D.pend = []
  wl : Wl (fun i => D.cur (lgo D.safe.length + i)) (D.safe.length - lgo D.safe.length) s.turn X
theorem lgo_le {n : Nat} (h : 64 ≤ n) : lgo n + (n - lgo n) = n ∧ 2 ≤ lgo n := by unfold lgo; omega
theorem wd_fmt {D : Dk} {m : Nat} (hD : D.Ok m) (hd : D.dead = false) (hl : D.left = -1) (hn : 64 ≤ D.safe.length) (hz : ∀ j, j < D.safe.length → D.cur j = ZB) : (Dk.runD fmtOps D).2 = 0 ∧ Wd (Dk.runD fmtOps D).1 (m + 3) sup0 [] [] ∧ (Dk.runD fmtOps D).1.safe.length = D.safe.length := by
  obtain ⟨h1, h2, h3, h4, h5⟩ := fmt_all hD hd hl hn
  have hg := lgo_le hn
  refine ⟨h1, ⟨h2, h4, ?_⟩, h3⟩
  rw [h3]
  exact Wl.zero _ (fun i hi => by rw [h5 _ (by omega)]; exact hz _ (by omega))
theorem wd_take {D : Dk} {m : Nat} {s : Sup} {L M : List Int} {X : List (List Int)} (k : Wd D m s L X) (hM : IsB M) (hf : M.length ≤ 64 * ((D.safe.length - 2) / 4)) (ht : s.turn + 1 < 18446744073709551616) : (Dk.runD (takeOps s ((D.safe.length - 2) / 4) M) D).2 = 0 ∧ Wd (Dk.runD (takeOps s ((D.safe.length - 2) / 4) M) D).1 (m + ((M.length + 63) / 64 + 3)) (s.next M) M [] ∧ (Dk.runD (takeOps s ((D.safe.length - 2) / 4) M) D).1.safe.length = D.safe.length := by
  obtain ⟨h1, h2, h3, h4, h5⟩ := take_all k.fd hM hf ht
  have hw := k.wl.turn
  generalize (Dk.runD (takeOps s ((D.safe.length - 2) / 4) M) D).1 = E at *
  refine ⟨h1, ⟨h2, h4, ?_⟩, h3⟩
  rw [h3, (s.next_is M).1]
  exact hw.congr (fun i hi => h5 _ (by unfold lgo; omega))
theorem wd_app {D : Dk} {m : Nat} {s : Sup} {L x : List Int} {X : List (List Int)} (k : Wd D m s L X) (hx : IsB x) (hf : usd X + ned x.length ≤ D.safe.length - lgo D.safe.length) (ht : s.turn < 18446744073709551616) : (Dk.runD (appOps (lgo D.safe.length) s.turn X.length (usd X) x) D).2 = 0 ∧ Wd (Dk.runD (appOps (lgo D.safe.length) s.turn X.length (usd X) x) D).1 (m + ((x.length + 62) / 63 + 3)) s L (X ++ [x]) ∧ (Dk.runD (appOps (lgo D.safe.length) s.turn X.length (usd X) x) D).1.safe.length = D.safe.length := by
  have hg := lgo_le k.fd.len
  have hl := k.fd.left
  have hpn := k.pn
  have hmem := app_mem (o := lgo D.safe.length) (t := s.turn) (k := X.length) (u := usd X) hx
  have hcur : ∀ j, j < lgo D.safe.length → (Dk.runD (appOps (lgo D.safe.length) s.turn X.length (usd X) x) D).1.cur j = D.cur j := fun j hj => (run_cur k.fd.ok (fun y hy => ⟨(hmem y hy).1, by have := (hmem y hy).2; omega⟩) (by rw [k.pn]; intro y hy; cases hy) []).1
  have hok := run_ok (appOps (lgo D.safe.length) s.turn X.length (usd X) x) k.fd.ok (fun y hy => (hmem y hy).1)
  rw [app_len] at hok
  have hsz := run_len (appOps (lgo D.safe.length) s.turn X.length (usd X) x) D
  rcases app_run k.fd.ok k.fd.dead (by omega) k.pn (by omega) k.wl ht hx hf with ⟨h1, h2, h3, h4⟩ | ⟨h0, _⟩
  · have hhs := k.fd.hs
    have hfit := hhs.fit
    have hpl := hhs.ok.p
    generalize (Dk.runD (appOps (lgo D.safe.length) s.turn X.length (usd X) x) D).1 = E at *
    refine ⟨h1, ⟨⟨hok, h2.dead, (h2.left (by omega)).trans hl, by rw [hsz]; exact k.fd.len, (by rw [h3]; intro y hy; cases hy), ?_⟩, h3, by rw [hsz]; exact h4⟩, hsz⟩
    rw [hsz]
    refine hhs.keep (hcur 0 (by omega)) (hcur 1 (by omega)) (fun i hi => hcur _ ?_)
    have hpl2 : s.place = 0 ∨ s.place = 1 := by omega
    unfold lgo
    rcases hpl2 with e | e <;> rw [e] <;> simp only [Nat.zero_mul, Nat.one_mul, Nat.add_zero] <;> omega
  · omega
def nedI (n : Int) : Int := if n < 0 then 0 else (n + 62) / 63 + 1
theorem nedI_nat (n : Nat) : nedI (n : Int) = ((ned n : Nat) : Int) := by
  unfold nedI ned
  rw [if_neg (by omega)]
  omega
set_option maxHeartbeats 1000000 in
theorem rneed_ok (n : Int) (h1 : -9223372036854775808 ≤ n) (h2 : n < 9223372036854775808) (w : World) : Calls Tryz.prog 46 #[.int .i64 n] w (Vl (.int .i64 (nedI n)) w) := by
  obtain ⟨T, hT⟩ : ∃ T, T = Vl (.int .i64 (nedI n)) w := ⟨_, rfl⟩
  rw [← hT]
  by_cases h0 : n < 0
  · have e : nedI n = 0 := by unfold nedI; rw [if_pos h0]
    rw [e] at hT
    replace hT := hide hT
    clear e
    have hZ : Hid (Vl (.int .i64 0) w (.returned (.int .i64 0)) w) := ⟨rfl, Gr.refl w⟩
    go_enter Tryz.func46, Tryz.ntmps46
    go_wp2_with fail
    rw [unhide hT]
    exact unhide hZ
  · obtain ⟨q, hq⟩ : ∃ q : Int, q = n / 63 := ⟨_, rfl⟩
    obtain ⟨r, hr⟩ : ∃ r : Int, r = n % 63 := ⟨_, rfl⟩
    have e1 : n.tdiv 63 = q := by rw [Int.tdiv_eq_ediv_of_nonneg (by omega), hq]
    have e2 : n.tmod 63 = r := by rw [Int.tmod_eq_emod_of_nonneg (by omega), hr]
    have e3 : IntKind.i64.wrap q = q := by rw [IntKind.wrap_i64]; omega
    have e4 : IntKind.i64.wrap r = r := by rw [IntKind.wrap_i64]; omega
    have e5 : IntKind.i64.wrap (q + 1) = q + 1 := by rw [IntKind.wrap_i64]; omega
    have e6 : IntKind.i64.wrap (q + 1 + 1) = q + 1 + 1 := by rw [IntKind.wrap_i64]; omega
    by_cases hr0 : 0 < r
    · have e : nedI n = q + 1 + 1 := by unfold nedI; rw [if_neg h0]; omega
      rw [e] at hT
      replace hT := hide hT
      replace hq := hide hq; replace hr := hide hr
      clear e
      have hZ : Hid (Vl (.int .i64 (q + 1 + 1)) w (.returned (.int .i64 (q + 1 + 1))) w) := ⟨rfl, Gr.refl w⟩
      go_enter Tryz.func46, Tryz.ntmps46
      go_wp2_with fail
      rw [unhide hT]
      exact unhide hZ
    · have e : nedI n = q + 1 := by unfold nedI; rw [if_neg h0]; omega
      rw [e] at hT
      replace hT := hide hT
      replace hq := hide hq; replace hr := hide hr
      clear e
      have hZ : Hid (Vl (.int .i64 (q + 1)) w (.returned (.int .i64 (q + 1))) w) := ⟨rfl, Gr.refl w⟩
      go_enter Tryz.func46, Tryz.ntmps46
      go_wp2_with fail
      rw [unhide hT]
      exact unhide hZ
theorem Ob.nil (b : Nat) (w : World) : Ob b w (.slice none 0 0) [] := ⟨rfl, .inl ⟨rfl, rfl⟩⟩
set_option maxHeartbeats 1000000 in
theorem low12_ok (X n : Nat) (hX : X < 18446744073709551616) (hn : n ≤ 8) (w : World) : Calls Tryz.prog 92 #[.int .u64 X, .int .i64 n] w (Infd (lowL (X : Int) n) w) := by
  obtain ⟨T, hT⟩ : ∃ T, T = Infd (lowL (X : Int) n) w := ⟨_, rfl⟩
  rw [← hT]
  replace hT := hide hT
  have hO0 : Hid (Ob w.heap.size w (.slice none 0 0) (lowL (X : Int) 0)) := Ob.nil _ w
  go_enter Tryz.func92, Tryz.ntmps92
  go_wp2_with fail
  go_loopw [5, 6] (fun v i wr => ∃ k : Nat, k ≤ n ∧ i = .int .i64 (k : Int) ∧ Hid (Ob w.heap.size wr v (lowL (X : Int) k)) ∧ Hid (Gr w wr)) (fun _ i _ => n - (intOf i).toNat)
  case atStart => exact ⟨0, by omega, rfl, hO0, Gr.refl w⟩
  case round =>
  clear hO0
  obtain ⟨k, hk, rfl, hO, hG⟩ := hrel
  obtain ⟨va, vc, rfl, -⟩ := ob_lb (unhide hO) (lowL_isB _ _) (n := k) (lowL_len _ _)
  by_cases hlt : k < n
  · skip
    have kI : (k : Int) < (n : Int) := by omega
    obtain ⟨q, hq⟩ : ∃ q : Nat, q = 8 * k := ⟨_, rfl⟩
    have eq8 : IntKind.i64.wrap (8 * (k : Int)) = (q : Int) := by rw [IntKind.wrap_i64]; omega
    have q64 : (q : Int) ≤ 64 := by omega
    obtain ⟨Y, hY⟩ : ∃ Y : Int, Y = (X : Int) / 2 ^ q := ⟨_, rfl⟩
    obtain ⟨y, hy⟩ : ∃ y : Int, y = Y % 256 := ⟨_, rfl⟩
    have eY : Y = (X : Int) / 256 ^ k := by rw [hY, hq, Int.pow_mul]; rfl
    have eb : IntKind.u8.wrap Y = y := by rw [IntKind.wrap_u8', hy]
    have hyr : 0 ≤ y ∧ y < 256 := by omega
    have hsn : lowL (X : Int) (k + 1) = lowL (X : Int) k ++ [y] := by rw [lowL_snoc, hy, eY]
    replace hq := hide hq; replace hY := hide hY; replace hy := hide hy; replace hsn := hide hsn; replace eY := hide eY
    have hll := lowL_len (X : Int) k
    generalize hL : lowL (X : Int) k = L at *
    replace hL := hide hL
    go_upto_region 5 with fail
    refine wp_region_lit ?_
    refine list_val (.slice va k vc) (by kernel_rfl) (by kernel_rfl) ?_
    simp only [nrm]
    refine list_val (.int .u64 X) (by kernel_rfl) (by kernel_rfl) ?_
    simp only [nrm]
    refine list_val (.int .i64 k) (by kernel_rfl) (by kernel_rfl) ?_
    simp only [nrm]
    refine list_val (.int .i64 (q : Int)) (by kernel_rfl) (by go_simp) ?_
    simp only [nrm]
    refine list_val (.int .u64 Y) (by kernel_rfl) (by have h9 := unhide hY; go_simp) ?_
    simp only [nrm]
    refine list_val (.int .u8 y) (by kernel_rfl) (by go_simp) ?_
    simp only [nrm]
    refine list_valw (.slice (some ⟨wr.heap.size, 0, none⟩) 1 1) (wr.alloc (.cells (kc [y]) 5 (0, 0))) (by kernel_rfl) (by kernel_rfl) ?_
    have l0 : Sl (wr.alloc (.cells (kc [y]) 5 (0, 0))) (some ⟨wr.heap.size, 0, none⟩) [y] := .inr ⟨_, 0, rfl, kc_at (blk_new _ _)⟩
    have hg := (Gr.refl wr).alloc (.cells (kc [y]) 5 (0, 0))
    have hO2 := (unhide hO).gr hg
    have hG2 := (unhide hG).trans hg
    clear hg hO hG
    generalize World.alloc _ _ = y1 at *
    generalize wr.heap.size = gz at *
    simp only [nrm]
    refine app_bs (by kernel_rfl) (.tmp 12) (.tmp 18) rfl w.heap.size _ _ rfl hO2 (some ⟨gz, 0, none⟩) 1 1 [y] rfl rfl l0 (by rw [hll]; omega) hG2.size ?_
    intro v2 y2 hO3 hgr
    have hG3 : Hid (Gr w y2) := hO2.grown (Nat.le_refl _) hG2 hgr
    have hO4 : Hid (Ob w.heap.size y2 v2 (lowL (X : Int) (k + 1))) := by
      show Ob _ _ _ _
      rw [unhide hsn]
      exact hO3
    clear hO2 hO3 hgr l0 hG2
    simp only [nrm]
    (refine wpList_step fun K hK => ?_; replace hK := hide hK; go_simp; refine unhide hK _ _ ?_; clear hK K)
    refine wpList_nil ?_
    go_wp2_with fail
    go_roundw
    case rel => exact ⟨k + 1, by omega, by go_num, hO4, hG3⟩
    case measure => simp [intOf]; omega
  have kI : ¬ (k : Int) < (n : Int) := by omega
  obtain rfl : k = n := by omega
  have hZ : Hid (Infd (lowL (X : Int) k) w (.returned (.slice va k vc)) wr) := ⟨_, rfl, unhide hO, unhide hG⟩
  clear hO hG
  go_wp2_with fail
  rw [unhide hT]
  exact unhide hZ
theorem Tryz.infoKy2 : (Tryz.prog.info? 124).map (·.size) = some 32 := by kernel_rfl
def Hlf (L : List Int) (w : World) (r : Ending) (w' : World) : Prop := ∃ g, r = .returned (.slice (some ⟨g, 0, none⟩) 16 32) ∧ Lb w' (some ⟨g, 0, none⟩) 16 32 L ∧ Gr w w'
set_option maxHeartbeats 4000000 in
theorem half12_ok (B : List Int) (a : Option Addr) (n c : Nat) (w : World) (hB : Lb w a n c B) (hn : n ≤ 170000000000000) : Calls Tryz.prog 93 #[.slice a n c] w (Hlf (sh16 B) w) := by
  obtain ⟨T, hT⟩ : ∃ T, T = Hlf (sh16 B) w := ⟨_, rfl⟩
  rw [← hT]
  replace hT := hide hT
  replace hB := hide hB
  go_enter Tryz.func93, Tryz.ntmps93
  go_upto_region 1 with fail
  refine wp_region_lit ?_
  refine list_val (.slice a n c) (by kernel_rfl) (by kernel_rfl) ?_
  simp only [nrm]
  refine list_call 105 #[.slice a n c] (by kernel_rfl) (by kernel_rfl) ((rsum_ok B (unhide hB).isB n (unhide hB).len (by omega) a c _ (unhide hB).sl).mono ?_)
  rintro r u1 ⟨rfl, hg⟩
  refine ⟨_, rfl, ?_⟩
  have hXl := sumL_len B
  have hXb := sumL_isB B
  have hX16 : Hid (sh16 B = (sumL B).take 16) := rfl
  generalize sumL B = X at *
  have hB2 := (Bl.nil w).more hg
  clear hg
  replace hXb := hide hXb
  simp only [nrm]
  refine list_valw (.pointer (some ⟨u1.heap.size, 0, none⟩)) (u1.alloc (.cells (kc (List.replicate 32 0)) 124 (0, 0))) (by kernel_rfl) (by kernel_rfl) ?_
  replace hB2 := hB2.new (kc (List.replicate 32 0)) 124
  simp only [List.nil_append, List.cons_append] at hB2
  generalize World.alloc _ _ = u2 at *
  generalize u1.heap.size = gk at *
  simp only [nrm]
  refine list_store 124 (.tmp 3) (.tmp 5) gk (kc X) 124 (kc (List.replicate 32 0)) (by kernel_rfl) rfl (by kernel_rfl) (by kernel_rfl) (hB2.get 0 (x := ⟨gk, kc (List.replicate 32 0), 124⟩) rfl) (by rw [Tryz.infoKy2, kc_size, hXl]) ((show (kc (List.replicate 32 0)).size = 32 from rfl).trans ((kc_size _).trans hXl).symm) (kc_one _) ?_
  replace hB2 := hB2.set 0 (x := ⟨gk, kc (List.replicate 32 0), 124⟩) rfl (kc X)
  simp only [List.set_cons_zero, List.set_cons_succ] at hB2
  generalize World.setRow _ _ _ = u3 at *
  simp only [nrm]
  refine wpList_nil ?_
  have hL16 : Lb u3 (some ⟨gk, 0, none⟩) 16 32 (X.take 16) := by
    have h := kc_at (hB2.get 0 (x := ⟨gk, kc X, 124⟩) rfl)
    refine ⟨by rw [List.length_take, hXl]; rfl, fun x hx => unhide hXb x (List.mem_of_mem_take hx), .inr ⟨gk, 0, rfl, fun j hj => ?_⟩, by omega, by omega⟩
    rw [List.length_take] at hj
    have hj2 : j < X.length := by omega
    rw [h j hj2, List.getD_eq_getElem?_getD, List.getD_eq_getElem?_getD, List.getElem?_take, if_pos (by omega)]
  have hZ : Hid (Hlf (sh16 B) w (.returned (.slice (some ⟨gk, 0, none⟩) 16 32)) u3) := by
    refine ⟨gk, rfl, ?_, hB2.gr⟩
    rw [unhide hX16]
    exact hL16
  clear hB2 hL16
  go_wp2_with fail
  rw [unhide hT]
  exact unhide hZ
set_option maxHeartbeats 4000000 in
theorem mark12_ok (t k : Nat) (ht : t < 18446744073709551616) (hk : k < 4294967296) (L : List Int) (a : Option Addr) (n c : Nat) (w : World) (hL : Lb w a n c L) (hn : n ≤ 170000000000000) : Calls Tryz.prog 72 #[.int .u64 t, .int .i64 k, .slice a n c] w (Vl (.agg (kc (mkL t k L))) w) := by
  obtain ⟨T, hT⟩ : ∃ T, T = Vl (.agg (kc (mkL t k L))) w := ⟨_, rfl⟩
  rw [← hT]
  replace hT := hide hT
  have hkw : IntKind.u64.wrap (k : Int) = (k : Int) := by rw [IntKind.wrap_u64]; omega
  have hnw : IntKind.u64.wrap (n : Int) = (n : Int) := by rw [IntKind.wrap_u64]; omega
  have hLn := hL.len
  have hsl := sh16_len L
  have hsb := sh16_isB L (sumL_isB L)
  obtain ⟨C, hC⟩ : ∃ C, C = mk48 t k L := ⟨_, rfl⟩
  have hCl : C.length = 48 := by rw [hC]; exact mk48_len t k L
  have hT2 : Hid (T = Vl (.agg (kc (C ++ sh16 C))) w) := by
    show T = _
    rw [unhide hT, hC]
    rfl
  obtain ⟨S, hS⟩ : ∃ S, S = sh16 L := ⟨_, rfl⟩
  have hCe : C = [1] ++ lowL (t : Int) 8 ++ lowL (k : Int) 4 ++ lowL (n : Int) 4 ++ S ++ List.replicate 15 0 := by
    rw [hC, hS]
    unfold mk48
    rw [hLn]
    generalize sh16 L = G
    simp only [List.append_assoc, List.cons_append, List.nil_append]
  rw [← hS] at hsl hsb
  replace hL := hide hL; replace hS := hide hS; replace hsb := hide hsb; replace hC := hide hC; replace hCe := hide hCe; replace hLn := hide hLn
  go_enter Tryz.func72, Tryz.ntmps72
  go_upto_region 1 with fail
  have hB := ((Bl.nil w).new #[.int .u8 0, .int .u8 0, .int .u8 0, .int .u8 0, .int .u8 0, .int .u8 0, .int .u8 0, .int .u8 0, .int .u8 0, .int .u8 0, .int .u8 0, .int .u8 0, .int .u8 0, .int .u8 0, .int .u8 0, .int .u8 0, .int .u8 0, .int .u8 0, .int .u8 0, .int .u8 0, .int .u8 0, .int .u8 0, .int .u8 0, .int .u8 0, .int .u8 0, .int .u8 0, .int .u8 0, .int .u8 0, .int .u8 0, .int .u8 0, .int .u8 0, .int .u8 0, .int .u8 0, .int .u8 0, .int .u8 0, .int .u8 0, .int .u8 0, .int .u8 0, .int .u8 0, .int .u8 0, .int .u8 0, .int .u8 0, .int .u8 0, .int .u8 0, .int .u8 0, .int .u8 0, .int .u8 0, .int .u8 0, .int .u8 0, .int .u8 0, .int .u8 0, .int .u8 0, .int .u8 0, .int .u8 0, .int .u8 0, .int .u8 0, .int .u8 0, .int .u8 0, .int .u8 0, .int .u8 0, .int .u8 0, .int .u8 0, .int .u8 0, .int .u8 0] 36)
  simp only [size_alloc, List.nil_append, List.cons_append] at hB
  generalize World.alloc _ _ = u at *
  replace hB : Bl w [⟨w.heap.size, kc ZB, 36⟩] u := hB
  refine wp_region_lit ?_
  refine list_valw (.slice (some ⟨u.heap.size, 0, none⟩) 1 1) (u.alloc (.cells (kc [1]) 5 (0, 0))) (by kernel_rfl) (by kernel_rfl) ?_
  have hO : Ob w.heap.size (u.alloc (.cells (kc [1]) 5 (0, 0))) (.slice (some ⟨u.heap.size, 0, none⟩) 1 1) [1] := blk_bytes [1] hB.gr.size (by decide)
  have hg := (Gr.refl u).alloc (.cells (kc [1]) 5 (0, 0))
  replace hB := hB.more hg
  clear hg
  generalize World.alloc _ _ = u1 at *
  generalize u.heap.size = h1 at *
  simp only [nrm]
  refine list_val (.int .u64 t) (by kernel_rfl) (by kernel_rfl) ?_
  simp only [nrm]
  refine list_call 92 #[.int .u64 t, .int .i64 8] (by kernel_rfl) (by kernel_rfl) ((low12_ok t 8 (by omega) (by omega) _).mono ?_)
  rintro r u2 ⟨vv, rfl, hq, hg⟩
  refine ⟨_, rfl, ?_⟩
  replace hB := hB.more hg
  replace hO := hO.gr hg
  obtain ⟨xa, xc, rfl, xl⟩ := ob_lb hq (lowL_isB _ _) (n := 8) (lowL_len _ _)
  clear hq hg
  simp only [nrm]
  refine app_bs (by kernel_rfl) (.tmp 9) (.tmp 11) rfl w.heap.size _ _ rfl hO xa 8 xc (lowL (t : Int) 8) rfl xl.len xl.sl (by have h9 := xl.len; simp only [List.length_append, List.length_cons, List.length_nil, lowL_len, hsl]; omega) hB.gr.size ?_
  intro vv u3 hO2 hgr
  replace hB := Bl.grownB hB hO hgr (by intro y hy; rw [List.mem_singleton] at hy; rw [hy]; show (36 : Nat) ≠ 5; decide)
  have hI : IsB ([1] ++ (lowL (t : Int) 8)) := (isB_app (show IsB [1] from by intro x hx; simp at hx; omega) (lowL_isB _ _))
  obtain ⟨ya, yc, rfl, -⟩ := ob_lb hO2 hI (n := 9) (by simp only [List.length_append, List.length_cons, List.length_nil, lowL_len, hsl])
  clear hO hgr hI xl
  have hO := hO2
  clear hO2
  simp only [nrm]
  (refine wpList_step fun K hK => ?_; replace hK := hide hK; go_simp; refine unhide hK _ _ ?_; clear hK K)
  refine wpList_nil ?_
  replace hO := hide hO
  replace hB := hide hB
  go_upto_region 2 with fail
  replace hB := unhide hB
  replace hO := unhide hO
  refine wp_region_lit ?_
  refine list_val (.slice ya 9 yc) (by kernel_rfl) (by kernel_rfl) ?_
  simp only [nrm]
  refine list_val (.int .i64 k) (by kernel_rfl) (by kernel_rfl) ?_
  simp only [nrm]
  refine list_val (.int .u64 k) (by kernel_rfl) (by go_simp) ?_
  simp only [nrm]
  refine list_call 92 #[.int .u64 k, .int .i64 4] (by kernel_rfl) (by kernel_rfl) ((low12_ok k 4 (by omega) (by omega) _).mono ?_)
  rintro r u4 ⟨vv, rfl, hq, hg⟩
  refine ⟨_, rfl, ?_⟩
  replace hB := hB.more hg
  replace hO := hO.gr hg
  obtain ⟨xa, xc, rfl, xl⟩ := ob_lb hq (lowL_isB _ _) (n := 4) (lowL_len _ _)
  clear hq hg
  simp only [nrm]
  refine app_bs (by kernel_rfl) (.tmp 13) (.tmp 16) rfl w.heap.size _ _ rfl hO xa 4 xc (lowL (k : Int) 4) rfl xl.len xl.sl (by have h9 := xl.len; simp only [List.length_append, List.length_cons, List.length_nil, lowL_len, hsl]; omega) hB.gr.size ?_
  intro vv u5 hO2 hgr
  replace hB := Bl.grownB hB hO hgr (by intro y hy; rw [List.mem_singleton] at hy; rw [hy]; show (36 : Nat) ≠ 5; decide)
  have hI : IsB (([1] ++ lowL (t : Int) 8) ++ (lowL (k : Int) 4)) := (isB_app (isB_app (show IsB [1] from by intro x hx; simp at hx; omega) (lowL_isB _ _)) (lowL_isB _ _))
  obtain ⟨za, zc, rfl, -⟩ := ob_lb hO2 hI (n := 13) (by simp only [List.length_append, List.length_cons, List.length_nil, lowL_len, hsl])
  clear hO hgr hI xl
  have hO := hO2
  clear hO2
  simp only [nrm]
  (refine wpList_step fun K hK => ?_; replace hK := hide hK; go_simp; refine unhide hK _ _ ?_; clear hK K)
  refine wpList_nil ?_
  replace hO := hide hO
  replace hB := hide hB
  go_upto_region 3 with fail
  replace hB := unhide hB
  replace hO := unhide hO
  refine wp_region_lit ?_
  refine list_val (.slice za 13 zc) (by kernel_rfl) (by kernel_rfl) ?_
  simp only [nrm]
  refine list_val (.slice a n c) (by kernel_rfl) (by kernel_rfl) ?_
  simp only [nrm]
  refine list_val (.int .i64 n) (by kernel_rfl) (by kernel_rfl) ?_
  simp only [nrm]
  refine list_val (.int .u64 n) (by kernel_rfl) (by go_simp) ?_
  simp only [nrm]
  refine list_call 92 #[.int .u64 n, .int .i64 4] (by kernel_rfl) (by kernel_rfl) ((low12_ok n 4 (by omega) (by omega) _).mono ?_)
  rintro r u6 ⟨vv, rfl, hq, hg⟩
  refine ⟨_, rfl, ?_⟩
  replace hB := hB.more hg
  replace hO := hO.gr hg
  obtain ⟨xa, xc, rfl, xl⟩ := ob_lb hq (lowL_isB _ _) (n := 4) (lowL_len _ _)
  clear hq hg
  simp only [nrm]
  refine app_bs (by kernel_rfl) (.tmp 18) (.tmp 22) rfl w.heap.size _ _ rfl hO xa 4 xc (lowL (n : Int) 4) rfl xl.len xl.sl (by have h9 := xl.len; simp only [List.length_append, List.length_cons, List.length_nil, lowL_len, hsl]; omega) hB.gr.size ?_
  intro vv u7 hO2 hgr
  replace hB := Bl.grownB hB hO hgr (by intro y hy; rw [List.mem_singleton] at hy; rw [hy]; show (36 : Nat) ≠ 5; decide)
  have hI : IsB ((([1] ++ lowL (t : Int) 8) ++ lowL (k : Int) 4) ++ (lowL (n : Int) 4)) := (isB_app (isB_app (isB_app (show IsB [1] from by intro x hx; simp at hx; omega) (lowL_isB _ _)) (lowL_isB _ _)) (lowL_isB _ _))
  obtain ⟨pa, pc, rfl, -⟩ := ob_lb hO2 hI (n := 17) (by simp only [List.length_append, List.length_cons, List.length_nil, lowL_len, hsl])
  clear hO hgr hI xl
  have hO := hO2
  clear hO2
  simp only [nrm]
  (refine wpList_step fun K hK => ?_; replace hK := hide hK; go_simp; refine unhide hK _ _ ?_; clear hK K)
  refine wpList_nil ?_
  replace hO := hide hO
  replace hB := hide hB
  go_upto_region 4 with fail
  replace hB := unhide hB
  replace hO := unhide hO
  refine wp_region_lit ?_
  refine list_val (.slice pa 17 pc) (by kernel_rfl) (by kernel_rfl) ?_
  simp only [nrm]
  refine list_val (.slice a n c) (by kernel_rfl) (by kernel_rfl) ?_
  simp only [nrm]
  refine list_call 93 #[.slice a n c] (by kernel_rfl) (by kernel_rfl) ((half12_ok L _ _ _ _ ((unhide hL).gr hB.gr) (by omega)).mono ?_)
  rintro r u8 ⟨g8, rfl, xl, hg⟩
  refine ⟨_, rfl, ?_⟩
  rw [← unhide hS] at xl
  replace hB := hB.more hg
  replace hO := hO.gr hg
  clear hg
  simp only [nrm]
  refine app_bs (by kernel_rfl) (.tmp 24) (.tmp 26) rfl w.heap.size _ _ rfl hO (some ⟨g8, 0, none⟩) 16 32 S rfl xl.len xl.sl (by have h9 := xl.len; simp only [List.length_append, List.length_cons, List.length_nil, lowL_len, hsl]; omega) hB.gr.size ?_
  intro vv u9 hO2 hgr
  replace hB := Bl.grownB hB hO hgr (by intro y hy; rw [List.mem_singleton] at hy; rw [hy]; show (36 : Nat) ≠ 5; decide)
  have hI : IsB (((([1] ++ lowL (t : Int) 8) ++ lowL (k : Int) 4) ++ lowL (n : Int) 4) ++ S) := (isB_app (isB_app (isB_app (isB_app (show IsB [1] from by intro x hx; simp at hx; omega) (lowL_isB _ _)) (lowL_isB _ _)) (lowL_isB _ _)) (unhide hsb))
  obtain ⟨qa, qc, rfl, -⟩ := ob_lb hO2 hI (n := 33) (by simp only [List.length_append, List.length_cons, List.length_nil, lowL_len, hsl])
  clear hO hgr hI xl
  have hO := hO2
  clear hO2
  simp only [nrm]
  (refine wpList_step fun K hK => ?_; replace hK := hide hK; go_simp; refine unhide hK _ _ ?_; clear hK K)
  refine wpList_nil ?_
  have hP4 : (((([1] ++ lowL (t : Int) 8) ++ lowL (k : Int) 4) ++ lowL (n : Int) 4) ++ S).length = 33 := by simp only [List.length_append, List.length_cons, List.length_nil, lowL_len, hsl]
  have hI4 : IsB (((([1] ++ lowL (t : Int) 8) ++ lowL (k : Int) 4) ++ lowL (n : Int) 4) ++ S) := (isB_app (isB_app (isB_app (isB_app (show IsB [1] from by intro x hx; simp at hx; omega) (lowL_isB _ _)) (lowL_isB _ _)) (lowL_isB _ _)) (unhide hsb))
  obtain ⟨P4, hP4e⟩ : ∃ P, P = (((([1] ++ lowL (t : Int) 8) ++ lowL (k : Int) 4) ++ lowL (n : Int) 4) ++ S) := ⟨_, rfl⟩
  rw [← hP4e] at hO hP4 hI4
  replace hP4e := hide hP4e; replace hI4 := hide hI4
  have hO9 : Hid (Ob w.heap.size u9 (.slice qa 33 qc) (P4 ++ List.replicate 0 0)) := by show Ob _ _ _ (P4 ++ []); rw [List.append_nil]; exact hO
  clear hO
  replace hB := hide hB
  go_wp2_with fail
  go_loopw [7] (fun v wr => ∃ j : Nat, j ≤ 15 ∧ Hid (Ob w.heap.size wr v (P4 ++ List.replicate j 0)) ∧ Hid (Bl w [⟨w.heap.size, kc ZB, 36⟩] wr)) (fun v _ => 48 - lenOf v)
  case atStart => exact ⟨0, by omega, hO9, hB⟩
  case round =>
  clear hO9 hB
  obtain ⟨j, hj, hO, hB⟩ := hrel
  obtain ⟨ka, kc_, rfl, kl⟩ := ob_lb (unhide hO) (isB_app (unhide hI4) (isB_rep j)) (n := 33 + j) (by rw [List.length_append, hP4, List.length_replicate])
  replace kl := hide kl
  by_cases hj8 : j < 15
  · skip
    have kI : ((33 + j : Nat) : Int) < 48 := by omega
    replace hB := hB
    go_upto_region 6 with fail
    replace hB := unhide hB
    refine wp_region_lit ?_
    refine list_val (.slice ka (33 + j) kc_) (by kernel_rfl) (by kernel_rfl) ?_
    simp only [nrm]
    refine list_valw (.slice (some ⟨wr.heap.size, 0, none⟩) 1 1) (wr.alloc (.cells (kc [0]) 5 (0, 0))) (by kernel_rfl) (by kernel_rfl) ?_
    have l0 : Sl (wr.alloc (.cells (kc [0]) 5 (0, 0))) (some ⟨wr.heap.size, 0, none⟩) [0] := .inr ⟨_, 0, rfl, kc_at (blk_new _ _)⟩
    have hg := (Gr.refl wr).alloc (.cells (kc [0]) 5 (0, 0))
    have hO2 := (unhide hO).gr hg
    replace hB := hB.more hg
    clear hg hO
    generalize World.alloc _ _ = y1 at *
    generalize wr.heap.size = gz at *
    simp only [nrm]
    refine app_bs (by kernel_rfl) (.tmp 31) (.tmp 32) rfl w.heap.size _ _ rfl hO2 (some ⟨gz, 0, none⟩) 1 1 [0] rfl rfl l0 (by rw [List.length_append, hP4, List.length_replicate]; omega) hB.gr.size ?_
    intro v2 y2 hO3 hgr
    replace hB := Bl.grownB hB hO2 hgr (by intro y hy; rw [List.mem_singleton] at hy; rw [hy]; show (36 : Nat) ≠ 5; decide)
    have hO4 : Hid (Ob w.heap.size y2 v2 (P4 ++ List.replicate (j + 1) 0)) := by
      show Ob _ _ _ _
      rw [List.replicate_succ', ← List.append_assoc]
      exact hO3
    obtain ⟨kb, kd, rfl, -⟩ := ob_lb (unhide hO4) (isB_app (unhide hI4) (isB_rep (j + 1))) (n := 33 + (j + 1)) (by rw [List.length_append, hP4, List.length_replicate])
    clear hO2 hO3 hgr l0
    simp only [nrm]
    (refine wpList_step fun K hK => ?_; replace hK := hide hK; go_simp; refine unhide hK _ _ ?_; clear hK K)
    refine wpList_nil ?_
    replace hB := hide hB
    go_wp2_with fail
    go_roundw
    case rel => exact ⟨j + 1, by omega, hO4, hB⟩
    case measure => simp [lenOf]; omega
  have kI : ¬ ((33 + j : Nat) : Int) < 48 := by omega
  obtain rfl : j = 15 := by omega
  have hO8 : Hid (Lb wr ka 48 kc_ C) := by
    show Lb wr ka 48 kc_ C
    rw [unhide hCe, ← unhide hP4e]
    exact unhide kl
  have hCb : Hid (IsB C) := (unhide hO8).isB
  have hOC : Hid (Ob w.heap.size wr (.slice ka 48 kc_) C) := by
    show Ob _ _ _ _
    rw [unhide hCe, ← unhide hP4e]
    exact unhide hO
  clear hO kl
  go_upto_region 7 with fail
  replace hB := unhide hB
  have hO := unhide hOC
  clear hOC
  refine wp_region_lit ?_
  refine list_val (.slice ka (33 + 15) kc_) (by kernel_rfl) (by kernel_rfl) ?_
  simp only [nrm]
  refine list_val (.slice ka (33 + 15) kc_) (by kernel_rfl) (by kernel_rfl) ?_
  simp only [nrm]
  refine list_call 93 #[.slice ka 48 kc_] (by kernel_rfl) (by kernel_rfl) ((half12_ok C ka 48 kc_ _ (unhide hO8) (by omega)).mono ?_)
  rintro r q1 ⟨g9, rfl, xl, hg⟩
  refine ⟨_, rfl, ?_⟩
  replace hB := hB.more hg
  replace hO := hO.gr hg
  replace hO8 := hide ((unhide hO8).gr hg)
  clear hg
  simp only [nrm]
  refine app_bs (by kernel_rfl) (.tmp 34) (.tmp 36) rfl w.heap.size _ _ rfl hO (some ⟨g9, 0, none⟩) 16 32 (sh16 C) rfl xl.len xl.sl (by rw [hCl]; omega) hB.gr.size ?_
  intro vv q2 hO2 hgr
  replace hB := Bl.grownB hB hO hgr (by intro y hy; rw [List.mem_singleton] at hy; rw [hy]; show (36 : Nat) ≠ 5; decide)
  obtain ⟨fa, fc, rfl, fl⟩ := ob_lb hO2 (isB_app (unhide hCb) (sh16_isB C (sumL_isB C))) (n := 64) (by rw [List.length_append, hCl, sh16_len])
  clear hO hgr xl hO2
  simp only [nrm]
  (refine wpList_step fun K hK => ?_; replace hK := hide hK; go_simp; refine unhide hK _ _ ?_; clear hK K)
  refine wpList_nil ?_
  have hDl : (C ++ sh16 C).length = 64 := by rw [List.length_append, hCl, sh16_len]
  obtain ⟨D, hD⟩ : ∃ D, D = C ++ sh16 C := ⟨_, rfl⟩
  rw [← hD] at fl hDl hT2
  replace hD := hide hD; replace fl := hide fl
  replace hB := hide hB
  go_upto_region 8 with fail
  replace hB := unhide hB
  refine wp_region_lit ?_
  refine list_valw (.pointer (some ⟨q2.heap.size, 0, none⟩)) (q2.alloc (.cells (kc ZB) 36 (0, 0))) (by kernel_rfl) (by kernel_rfl) ?_
  have hgq := (Gr.refl q2).alloc (.cells (kc ZB) 36 (0, 0))
  replace hB := hB.new (kc ZB) 36
  simp only [List.nil_append, List.cons_append] at hB
  generalize World.alloc _ _ = q3 at *
  generalize q2.heap.size = g8b at *
  replace hB : Bl w [⟨w.heap.size, kc ZB, 36⟩, ⟨g8b, kc ZB, 36⟩] q3 := hB
  simp only [nrm]
  refine wpList_nil ?_
  replace fl := hide ((unhide fl).gr hgq)
  clear hgq
  replace hB := hide hB
  go_upto_region 9 with fail
  replace hB := unhide hB
  refine wp_region_lit ?_
  refine list_val (.slice (some ⟨g8b, 0, none⟩) 64 64) (by kernel_rfl) (by kernel_rfl) ?_
  simp only [nrm]
  refine list_val (.slice fa 64 fc) (by kernel_rfl) (by kernel_rfl) ?_
  simp only [nrm]
  refine wpList_step fun K_ hQ => ?_
  rw [if_pos (by kernel_rfl)]
  have hg8 := (hB.get 1 (x := ⟨g8b, kc ZB, 36⟩) rfl)
  dsimp only at hg8
  refine copy_wp (.tmp 38) (.tmp 39) rfl g8b 0 64 64 fa 64 fc rfl rfl (bv ZB) 36 hg8 D (by rw [hDl]; rfl) (unhide fl).sl (by rw [hDl, bv_len]; exact Nat.le_refl _) ?_
  refine hQ _ _ ?_
  clear hQ K_
  have hbs := setCells_bt (D.map (Value.int .u8)) q3 g8b 0
  have hcl := setCells_heap (D.map (Value.int .u8)) q3 g8b 0 (bv ZB) 36 hg8
  have e9 : sp (bv ZB) 0 (D.map (Value.int .u8)) = bv D := sp_whole _ _ (by rw [bv_len, List.length_map, hDl]; rfl)
  rw [e9] at hcl
  have hB4 := hB.but hbs 1 (x := ⟨g8b, kc ZB, 36⟩) rfl rfl hcl
  simp only [List.set_cons_zero, List.set_cons_succ] at hB4
  replace hB4 : Bl w [⟨w.heap.size, kc ZB, 36⟩, ⟨g8b, kc D, 36⟩] _ := hB4
  clear hB hcl hbs hg8 e9
  generalize World.setCells _ _ _ _ = q4 at *
  have hB := hB4
  clear hB4
  simp only [nrm]
  refine wpList_nil ?_
  replace hB := hide hB
  go_upto_region 10 with fail
  replace hB := unhide hB
  refine wp_region_lit ?_
  refine list_val (.agg (kc D)) (by kernel_rfl) (exec_arr _ 36 (.tmp 8) rfl (g8b) (by kernel_rfl) (kc D) 36 _ (hB.get 1 (x := ⟨g8b, kc D, 36⟩) rfl) Tryz.underlying36 rfl (by rw [Tryz.infoB, kc_size, hDl])) ?_
  simp only [nrm]
  refine list_store 36 (.tmp 6) (.tmp 41) (w.heap.size) (kc D) 36 (kc ZB) (by kernel_rfl) rfl (by kernel_rfl) (by kernel_rfl) (hB.get 0 (x := ⟨w.heap.size, kc ZB, 36⟩) rfl) (by rw [Tryz.infoB, kc_size, hDl]) ((show (kc ZB).size = 64 from rfl).trans ((kc_size _).trans hDl).symm) (kc_one _) ?_
  replace hB := hB.set 0 (x := ⟨w.heap.size, kc ZB, 36⟩) rfl (kc D)
  simp only [List.set_cons_zero, List.set_cons_succ] at hB
  generalize World.setRow _ _ _ = q5 at *
  replace hB : Bl w [⟨w.heap.size, kc D, 36⟩, ⟨g8b, kc D, 36⟩] q5 := hB
  simp only [nrm]
  refine wpList_nil ?_
  replace hB := hide hB
  go_wp2_with fail
  replace hB := unhide hB
  rw [unhide hT2]
  exact bodyPost_ret (v := .agg (kc D)) (results_cell_row Tryz.results72 _ _ (w.heap.size) 36 (kc D) (0, 0) _ rfl (hB.get 0 (x := ⟨w.heap.size, kc D, 36⟩) rfl) Tryz.underlying36 rfl (by rw [Tryz.infoB, kc_size, hDl])) rfl ⟨rfl, hB.gr⟩
theorem exec_ils {a : Act} {o : Oper} (w : World) (x y : Operand) (ho : o.op = .indexAddr 41 x y) (g q len cap i : Nat) (hx : a.eval x = .slice (some ⟨g, q, none⟩) len cap) (hy : a.eval y = .int .i64 i) (hi : i < len) :
    (execOp a.eval o).run Tryz.prog w = .ok (.value (.pointer (some ⟨g, q + i, none⟩))) w := by
  have h1 : (i : Int) < (len : Int) := by omega
  unfold execOp
  simp only [ho, hx, hy]
  go_simp
structure Lq (W : World) (a : Option Addr) (n c : Nat) (ps : List (List Int)) : Prop where
  len : ps.length = n
  sl : n = 0 ∨ ∃ p o, a = some ⟨p, o, none⟩ ∧ ∀ i, i < n → ∃ ai ni ci, W.cell? ⟨p, o + i, none⟩ = some (.slice ai ni ci) ∧ Lb W ai ni ci (ps.getD i []) ∧ ni ≤ 140737488351232
  cap : n ≤ c
  max : c < 9223372036854775808
theorem Lq.gr {w v : World} {a : Option Addr} {n c : Nat} {ps : List (List Int)} (h : Lq w a n c ps) (g : Gr w v) : Lq v a n c ps := by
  refine ⟨h.len, ?_, h.cap, h.max⟩
  rcases h.sl with h | ⟨p, o, h1, h2⟩
  · exact .inl h
  · refine .inr ⟨p, o, h1, fun i hi => ?_⟩
    obtain ⟨ai, ni, ci, h3, h4, h5⟩ := h2 i hi
    exact ⟨ai, ni, ci, g.cell h3, h4.gr g, h5⟩
theorem Lq.at_ {w : World} {a : Option Addr} {n c : Nat} {ps : List (List Int)} (h : Lq w a n c ps) (i : Nat) (hi : i < n) : ∃ p o ai ni ci, a = some ⟨p, o, none⟩ ∧ w.cell? ⟨p, o + i, none⟩ = some (.slice ai ni ci) ∧ Lb w ai ni ci (ps.getD i []) ∧ ni ≤ 140737488351232 := by
  rcases h.sl with h0 | ⟨p, o, h1, h2⟩
  · omega
  · obtain ⟨ai, ni, ci, h3, h4, h5⟩ := h2 i hi
    exact ⟨p, o, ai, ni, ci, h1, h3, h4, h5⟩
theorem usd_take (P : List (List Int)) (j : Nat) (hj : j < P.length) : usd (P.take (j + 1)) = usd (P.take j) + ned (P.getD j []).length := by
  rw [List.take_succ_eq_append_getElem hj, usd_app, usd_one, List.getD_eq_getElem?_getD, List.getElem?_eq_getElem hj]
  rfl
theorem usd_take_le (P : List (List Int)) (j : Nat) : usd (P.take j) ≤ usd P := by
  have h := usd_app (P.take j) (P.drop j)
  rw [List.take_append_drop] at h
  omega
set_option maxHeartbeats 4000000 in
theorem used12_ok (P : List (List Int)) (sa : Option Addr) (sn sc : Nat) (w : World) (hP : Lq w sa sn sc P) (hs : sn ≤ 1000000) (hu : usd P < 4611686018427387904) : Calls Tryz.prog 43 #[.slice sa sn sc] w (Vl (.int .i64 ((usd P : Nat) : Int)) w) := by
  obtain ⟨T, hT⟩ : ∃ T, T = Vl (.int .i64 ((usd P : Nat) : Int)) w := ⟨_, rfl⟩
  rw [← hT]
  replace hT := hide hT
  have hPl := hP.len
  replace hP := hide hP; replace hPl := hide hPl
  have hI0 : Hid (Gr w w) := Gr.refl w
  go_enter Tryz.func43, Tryz.ntmps43
  go_wp2_with fail
  go_loopw [3, 8] (fun x i wr => ∃ j : Nat, j ≤ sn ∧ i = .int .i64 (j : Int) ∧ x = .int .i64 ((usd (P.take j) : Nat) : Int) ∧ Hid (Gr w wr)) (fun _ i _ => sn - (intOf i).toNat)
  case atStart => exact ⟨0, by omega, rfl, rfl, hI0⟩
  case round =>
  clear hI0
  obtain ⟨j, hj, rfl, rfl, hG⟩ := hrel
  have hle := usd_take_le P j
  by_cases hlt : j < sn
  · skip
    have jI : (j : Int) < (sn : Int) := by omega
    obtain ⟨p, o, ai, ni, ci, rfl, hc, hLb, hci⟩ := (unhide hP).at_ j hlt
    have hsu := usd_take P j (by rw [unhide hPl]; exact hlt)
    have hle2 := usd_take_le P (j + 1)
    rw [hLb.len] at hsu
    have hnc := hLb.cap
    have hmx := hLb.max
    obtain ⟨x, hx⟩ : ∃ x, x = usd (P.take j) := ⟨_, rfl⟩
    obtain ⟨y, hy⟩ : ∃ y, y = usd (P.take (j + 1)) := ⟨_, rfl⟩
    rw [← hx] at hsu hle
    rw [← hy] at hsu hle2
    rw [← hx]
    have ew : IntKind.i64.wrap ((x : Int) + ((ned ni : Nat) : Int)) = (y : Int) := by rw [IntKind.wrap_i64]; omega
    replace hc := hide hc; replace hx := hide hx; replace hy := hide hy; replace hsu := hide hsu
    clear hLb
    go_upto_region 4 with fail
    refine wp_region_lit ?_
    refine list_val (.pointer (some ⟨p, o + j, none⟩)) (by kernel_rfl) (exec_ils _ (.tmp 6) (.tmp 8) rfl p o sn sc j rfl rfl hlt) ?_
    simp only [nrm]
    refine list_val (.slice ai ni ci) (by kernel_rfl) (exec_sby _ (.tmp 10) rfl p (o + j) (by kernel_rfl) ai ni ci ((unhide hG).cell (unhide hc))) ?_
    simp only [nrm]
    (refine wpList_step fun K hK => ?_; replace hK := hide hK; go_simp; refine unhide hK _ _ ?_; clear hK K)
    refine wpList_nil ?_
    go_upto_region 5 with fail
    refine wp_region_lit ?_
    refine list_val (.int .i64 (x : Int)) (by kernel_rfl) (by kernel_rfl) ?_
    simp only [nrm]
    refine list_val (.slice ai ni ci) (by kernel_rfl) (by kernel_rfl) ?_
    simp only [nrm]
    refine list_val (.int .i64 (ni : Int)) (by kernel_rfl) (by kernel_rfl) ?_
    simp only [nrm]
    refine list_call 46 #[.int .i64 (ni : Int)] (by kernel_rfl) (by kernel_rfl) ((rneed_ok (ni : Int) (by omega) (by omega) _).mono ?_)
    rintro r v2 ⟨rfl, hg⟩
    refine ⟨_, rfl, ?_⟩
    rw [nedI_nat]
    have hG2 := hide ((unhide hG).trans hg)
    clear hg hG
    simp only [nrm]
    refine list_val (.int .i64 (y : Int)) (by kernel_rfl) (by go_simp) ?_
    simp only [nrm]
    (refine wpList_step fun K hK => ?_; replace hK := hide hK; go_simp; refine unhide hK _ _ ?_; clear hK K)
    refine wpList_nil ?_
    go_wp2_with fail
    go_roundw
    case rel => exact ⟨j + 1, by omega, by go_num, by rw [← unhide hy], hG2⟩
    case measure => simp [intOf]; omega
  have jI : ¬ (j : Int) < (sn : Int) := by omega
  obtain rfl : j = sn := by omega
  rw [List.take_of_length_le (by rw [unhide hPl]; exact Nat.le_refl _)] at *
  have hZ : Hid (Vl (.int .i64 ((usd P : Nat) : Int)) w (.returned (.int .i64 ((usd P : Nat) : Int))) wr) := ⟨rfl, unhide hG⟩
  clear hG
  generalize usd P = U at *
  go_wp2_with fail
  rw [unhide hT]
  exact unhide hZ
def secN (t k : Nat) (x : List Int) (j : Nat) : List (List Int) := mkL t k x :: (List.range j).map (dat x)
def secs (t k : Nat) (x : List Int) : List (List Int) := secN t k x ((x.length + 62) / 63)
theorem secN_len (t k : Nat) (x : List Int) (j : Nat) : (secN t k x j).length = j + 1 := by unfold secN; simp
theorem secN_succ (t k : Nat) (x : List Int) (j : Nat) : secN t k x (j + 1) = secN t k x j ++ [dat x j] := by unfold secN; rw [List.range_succ, List.map_append]; rfl
def Rsc (R : List (List Int)) (w : World) (r : Ending) (w' : World) : Prop := ∃ v, r = .returned v ∧ Or_ 64 36 w.heap.size w' v (R.map bv) ∧ Gr w w'
theorem or_new {b : Nat} (w : World) (x : List Int) (hx : x.length = 64) (hb : b ≤ w.heap.size) : Or_ 64 36 b (w.alloc (.cells (kc x) 36 (0, 0))) (.slice (some ⟨w.heap.size, 0, none⟩) 1 1) [bv x] := by
  have hl : (bv x).length = 64 := by rw [bv_len, hx]
  refine ⟨by intro r hr; rw [List.mem_singleton] at hr; rw [hr]; exact hl, by simp [hl], .inr ⟨w.heap.size, 1, kc x, rfl, hb, blk_new _ _, Nat.le_refl _, by decide, by rw [kc_size, hx], ?_⟩⟩
  rw [List.flatten_cons, List.flatten_nil, List.append_nil]
  show (bv x).take (1 * 64) = bv x
  exact List.take_of_length_le (by rw [hl]; exact Nat.le_refl _)
theorem lb_drop {w : World} {p o n c q : Nat} {L : List Int} (h : Lb w (some ⟨p, o, none⟩) n c L) (hq : q < n) : Lb w (some ⟨p, o + q, none⟩) (n - q) (c - q) (L.drop q) := by
  have hl := h.len
  have hc := h.cap
  have hm := h.max
  refine ⟨by rw [List.length_drop, hl], isB_drop h.isB q, .inr ⟨p, o + q, rfl, fun j hj => ?_⟩, by omega, by omega⟩
  rw [List.length_drop] at hj
  rcases h.sl with h0 | ⟨p2, o2, e, h2⟩
  · rw [h0] at hl
    simp at hl
    omega
  · injection e with e
    injection e with e1 e2
    subst e1 e2
    have h3 := h2 (q + j) (by omega)
    rw [← Nat.add_assoc] at h3
    rw [h3, List.getD_eq_getElem?_getD, List.getD_eq_getElem?_getD, List.getElem?_drop]
theorem exec_fromo {a : Act} {o : Oper} (w : World) (x y : Operand) (ho : o.op = .slice 33 x (some y) none none) (p u len cap n : Nat) (hx : a.eval x = .slice (some ⟨p, u, none⟩) len cap) (hy : a.eval y = .int .i64 n) (hc : len ≤ cap) (hn : n < len) :
    (execOp a.eval o).run Tryz.prog w = .ok (.value (.slice (some ⟨p, u + n, none⟩) (len - n) (cap - n))) w := by
  have h := exec_from (a := a) (o := o) w x y ho (some ⟨p, u, none⟩) len cap n hx hy hc (by omega)
  rw [if_neg (by omega), Option.map_some, Addr.add_mid] at h
  exact h
theorem lay_dat (x : List Int) (j : Nat) : lay ZB 1 ((x.drop (63 * j)).take 63) = dat x j := by
  unfold lay dat
  generalize (x.drop (63 * j)).take 63 = S
  rw [show ZB.take 1 = [0] from rfl, show ZB.drop (1 + S.length) = List.replicate (63 - S.length) 0 from by unfold ZB; rw [List.drop_replicate]; congr 1; omega]
  rfl
set_option maxHeartbeats 4000000 in
theorem sectors12_ok (t k : Nat) (ht : t < 18446744073709551616) (hk : k < 4294967296) (L : List Int) (a : Option Addr) (n c : Nat) (w : World) (hL : Lb w a n c L) (hn : n ≤ 1000000) : Calls Tryz.prog 47 #[.int .u64 t, .int .i64 k, .slice a n c] w (Rsc (secs t k L) w) := by
  obtain ⟨T, hT⟩ : ∃ T, T = Rsc (secs t k L) w := ⟨_, rfl⟩
  rw [← hT]
  replace hT := hide hT
  have hLn := hL.len
  have hcap := hL.cap
  have hmax := hL.max
  have hLb := hL.isB
  replace hL := hide hL; replace hLn := hide hLn; replace hLb := hide hLb
  go_enter Tryz.func47, Tryz.ntmps47
  go_upto_region 1 with fail
  refine wp_region_lit ?_
  refine list_val (.int .u64 t) (by kernel_rfl) (by kernel_rfl) ?_
  simp only [nrm]
  refine list_val (.int .i64 k) (by kernel_rfl) (by kernel_rfl) ?_
  simp only [nrm]
  refine list_val (.slice a n c) (by kernel_rfl) (by kernel_rfl) ?_
  simp only [nrm]
  refine list_call 72 #[.int .u64 t, .int .i64 k, .slice a n c] (by kernel_rfl) (by kernel_rfl) ((mark12_ok t k ht hk L a n c _ (unhide hL) (by omega)).mono ?_)
  rintro r u1 ⟨rfl, hg⟩
  refine ⟨_, rfl, ?_⟩
  have hMb := mkL_len t k L
  have hM0 : Hid (secN t k L 0 = [mkL t k L]) := rfl
  generalize mkL t k L = M at *
  have hG := hg
  clear hg
  simp only [nrm]
  refine list_valw (.slice (some ⟨u1.heap.size, 0, none⟩) 1 1) (u1.alloc (.cells (kc M) 36 (0, 0))) (by kernel_rfl) (exec_bb1 _ (.tmp 13) rfl M hMb (by kernel_rfl)) ?_
  have hor : Or_ 64 36 w.heap.size (u1.alloc (.cells (kc M) 36 (0, 0))) (.slice (some ⟨u1.heap.size, 0, none⟩) 1 1) [bv M] := or_new u1 M hMb hG.size
  replace hG := hG.alloc (.cells (kc M) 36 (0, 0))
  generalize World.alloc _ _ = u2 at *
  generalize u1.heap.size = h1 at *
  simp only [nrm]
  (refine wpList_step fun K hK => ?_; replace hK := hide hK; go_simp; refine unhide hK _ _ ?_; clear hK K)
  refine wpList_nil ?_
  have hor0 : Hid (Or_ 64 36 w.heap.size u2 (.slice (some ⟨h1, 0, none⟩) 1 1) ((secN t k L 0).map bv)) := by show Or_ _ _ _ _ _ _; rw [unhide hM0]; exact hor
  clear hor hM0
  replace hG := hide hG
  go_wp2_with fail
  go_loopw [7, 8] (fun v i wr => ∃ (j q : Nat), q = 63 * j ∧ q < n + 63 ∧ i = .int .i64 (q : Int) ∧ Hid (Or_ 64 36 w.heap.size wr v ((secN t k L j).map bv)) ∧ Hid (Gr w wr)) (fun _ i _ => n - (intOf i).toNat)
  case atStart => exact ⟨0, 0, rfl, by omega, rfl, hor0, hG⟩
  case round =>
  clear hor0 hG
  obtain ⟨j, q, hq, hqn, rfl, hor, hG⟩ := hrel
  replace hq := hide hq
  obtain ⟨av, cv, hav, -⟩ := (unhide hor).ls
  rw [List.length_map, secN_len] at hav
  subst hav
  by_cases hlt : q < n
  · skip
    have qI : (q : Int) < (n : Int) := by omega
    obtain ⟨p, o, rfl, hpo⟩ : ∃ p o, a = some ⟨p, o, none⟩ ∧ True := by
      rcases (unhide hL).sl with h | ⟨p, o, h, _⟩
      · have h2 := unhide hLn
        rw [h] at h2
        simp at h2
        omega
      · exact ⟨p, o, h, trivial⟩
    clear hpo
    have hB := Bl.nil wr
    go_upto_region 5 with fail
    refine wp_region_lit ?_
    refine list_valw (.pointer (some ⟨wr.heap.size, 0, none⟩)) (wr.alloc (.cells (kc ZB) 36 (0, 0))) (by kernel_rfl) (by kernel_rfl) ?_
    replace hB := hB.new (kc ZB) 36
    simp only [List.nil_append, List.cons_append] at hB
    generalize World.alloc _ _ = v1 at *
    generalize wr.heap.size = gk at *
    replace hB : Bl wr [⟨gk, kc ZB, 36⟩] v1 := hB
    simp only [nrm]
    refine wpList_nil ?_
    replace hB := hide hB
    go_upto_region 6 with fail
    replace hB := unhide hB
    obtain ⟨e, he⟩ : ∃ e, e = min 63 (n - q) := ⟨_, rfl⟩
    have hsl : Lb wr (some ⟨p, o + q, none⟩) (n - q) (c - q) (L.drop q) := lb_drop ((unhide hL).gr (unhide hG)) hlt
    replace hsl := hide hsl; replace he := hide he
    refine any_start (S := fun _ => True) (by kernel_rfl) ?_
    replace hB := hB.drew
    generalize World.drew _ = x0 at *
    simp only [List.size_toArray, List.length_cons, List.length_nil, Array.replicate, List.replicate]
    refine any_take (i := 0) (v := (.slice (some ⟨gk, 1, none⟩) 63 63)) #[false, false, false, false, false] rfl (by kernel_rfl) (by kernel_rfl) (by kernel_rfl) (by kernel_rfl) (fun _ _ _ h => h) (.inl ⟨by kernel_rfl, fun x_ hu => exec_afrom _ (.tmp 9) (.const (.int .i64 1)) rfl gk 1 (by kernel_rfl) (by kernel_rfl) (by omega)⟩) trivial ?_
    simp only [nrm]
    refine any_take (i := 1) (v := (.slice (some ⟨p, o, none⟩) n c)) #[true, false, false, false, false] rfl (by kernel_rfl) (by kernel_rfl) (by kernel_rfl) (by kernel_rfl) (fun _ _ _ h => h) (.inl ⟨by kernel_rfl, fun x_ hu => by kernel_rfl⟩) trivial ?_
    simp only [nrm]
    refine any_take (i := 2) (v := (.int .i64 (q : Int))) #[true, true, false, false, false] rfl (by kernel_rfl) (by kernel_rfl) (by kernel_rfl) (by kernel_rfl) (fun _ _ _ h => h) (.inl ⟨by kernel_rfl, fun x_ hu => by kernel_rfl⟩) trivial ?_
    simp only [nrm]
    refine any_take (i := 3) (v := (.slice (some ⟨p, o + q, none⟩) (n - q) (c - q))) #[true, true, true, false, false] rfl (by kernel_rfl) (by kernel_rfl) (by kernel_rfl) (by kernel_rfl) (fun _ _ _ h => h) (.inl ⟨by kernel_rfl, fun x_ hu => exec_fromo _ (.tmp 22) (.tmp 23) rfl p o n c q (by kernel_rfl) (by kernel_rfl) hcap hlt⟩) trivial ?_
    simp only [nrm]
    refine any_one (i := 4) (by kernel_rfl) rfl (fun K_ hQ => ?_)
    rw [if_pos (by kernel_rfl)]
    have hsq := ((unhide hsl).gr hB.gr).pre e (by have := unhide he; omega)
    have htk : (L.drop q).take e = (L.drop (63 * j)).take 63 := by
      have h1 := (unhide hsl).len
      rw [← unhide hq, unhide he]
      by_cases h2 : n - q ≤ 63
      · rw [Nat.min_eq_right h2, List.take_of_length_le (by omega), List.take_of_length_le (by omega)]
      · rw [Nat.min_eq_left (by omega)]
    rw [htk] at hsq
    have hse := hsq.len
    refine copy_wp (.tmp 21) (.tmp 24) rfl gk 1 63 63 (some ⟨p, o + q, none⟩) (n - q) (c - q) (by kernel_rfl) (by kernel_rfl) (ZB.map (Value.int .u8)) 36 (hB.get 0 (x := ⟨gk, kc ZB, 36⟩) rfl) ((L.drop (63 * j)).take 63) (by rw [hse, unhide he]; exact Nat.min_comm _ _) hsq.sl (by rw [hse, List.length_map, ZB_len]; have := unhide he; omega) ?_
    have hcell := laid (S := (L.drop (63 * j)).take 63) (o := 1) (hB.get 0 (x := ⟨gk, kc ZB, 36⟩) rfl) (by rw [hse, ZB_len]; have := unhide he; omega)
    rw [lay_dat] at hcell
    have hB2 := hB.but (setCells_bt (((L.drop (63 * j)).take 63).map (Value.int .u8)) x0 gk 1) 0 (x := ⟨gk, kc ZB, 36⟩) rfl rfl hcell
    simp only [List.set_cons_zero] at hB2
    have hck := dat_len L j
    have hsu : Hid (secN t k L (j + 1) = secN t k L j ++ [dat L j]) := secN_succ t k L j
    generalize dat L j = CK at *
    generalize World.setCells _ _ _ _ = v2 at *
    rw [hse]
    clear hcell hB hsq hse htk
    have hB : Bl wr [⟨gk, kc CK, 36⟩] v2 := hB2
    clear hB2
    refine hQ.out _ _ trivial (fun _ => ?_)
    clear hQ K_
    simp only [nrm]
    refine any_done (by kernel_rfl) ?_
    clear hsl
    replace hB := hide hB
    go_upto_region 7 with fail
    replace hB := unhide hB
    refine wp_region_lit ?_
    refine list_val (.slice av (j + 1) cv) (by kernel_rfl) (by kernel_rfl) ?_
    simp only [nrm]
    refine list_val (.agg (kc CK)) (by kernel_rfl) (exec_arr _ 36 (.tmp 9) rfl gk (by kernel_rfl) (kc CK) 36 _ (hB.get 0 (x := ⟨gk, kc CK, 36⟩) rfl) Tryz.underlying36 rfl (by rw [Tryz.infoB, kc_size, hck])) ?_
    simp only [nrm]
    refine list_valw (.slice (some ⟨v2.heap.size, 0, none⟩) 1 1) (v2.alloc (.cells (kc CK) 36 (0, 0))) (by kernel_rfl) (exec_bb1 _ (.tmp 27) rfl CK hck (by kernel_rfl)) ?_
    have hls : Ls 64 (v2.alloc (.cells (kc CK) 36 (0, 0))) (some ⟨v2.heap.size, 0, none⟩) 1 1 [bv CK] := by
      obtain ⟨a9, c9, h9, h8⟩ := (or_new (b := v2.heap.size) v2 CK hck (Nat.le_refl _)).ls
      injection h9 with e1 e2 e3
      subst e1
      subst e3
      exact h8
    have hGo := hB.gr.alloc (.cells (kc CK) 36 (0, 0))
    clear hB
    generalize World.alloc _ _ = v4 at *
    generalize v2.heap.size = g6 at *
    simp only [nrm]
    refine wpList_step fun K_ hQ => ?_
    rw [if_pos (by kernel_rfl)]
    refine app_rows lt_b (.tmp 26) (.tmp 28) rfl w.heap.size _ ((secN t k L j).map bv) rfl ((unhide hor).gr hGo) (some ⟨g6, 0, none⟩) 1 1 [bv CK] rfl hls (by intro r hr; rw [List.mem_singleton] at hr; subst hr; exact bv_one' _) (by rw [List.length_map, secN_len]; have := unhide hq; omega) ((unhide hG).trans hGo).size ?_
    intro v5_ v5 hor5 hgr
    have hG5 : Hid (Gr w v5) := grown_owned ((unhide hor).gr hGo).2 (Nat.le_refl _) ((unhide hG).trans hGo) hgr
    have hor6 : Hid (Or_ 64 36 w.heap.size v5 v5_ ((secN t k L (j + 1)).map bv)) := by
      show Or_ _ _ _ _ _ _
      rw [unhide hsu, List.map_append]
      exact hor5
    clear hgr hls hGo hor hor5 hG
    refine hQ _ _ ?_
    clear hQ K_
    simp only [nrm]
    (refine wpList_step fun K hK => ?_; replace hK := hide hK; go_simp; refine unhide hK _ _ ?_; clear hK K)
    refine wpList_nil ?_
    go_wp2_with fail
    go_roundw
    case rel => exact ⟨j + 1, q + 63, by have := unhide hq; omega, by omega, by go_num, hor6, hG5⟩
    case measure => simp [intOf]; omega
  have qI : ¬ (q : Int) < (n : Int) := by omega
  have hZ : Hid (Rsc (secs t k L) w (.returned (.slice av (j + 1) cv)) wr) := by
    refine ⟨_, rfl, ?_, unhide hG⟩
    have e : (L.length + 62) / 63 = j := by rw [unhide hLn]; have := unhide hq; omega
    unfold secs
    rw [e]
    exact unhide hor
  clear hor hG
  go_wp2_with fail
  rw [unhide hT]
  exact unhide hZ
theorem str_inj {A B : List Int} (hA : IsB A) (hB : IsB B) (h : strOfNums A = strOfNums B) : A = B := by
  have h1 : (strOfNums A).data.toList = (strOfNums B).data.toList := by rw [h]
  rw [strOfNums_data, strOfNums_data] at h1
  have hl : A.length = B.length := by simpa using congrArg List.length h1
  apply List.ext_getElem hl
  intro i h2 h3
  have h4 : (A.map fun n => UInt8.ofNat n.toNat)[i]? = (B.map fun n => UInt8.ofNat n.toNat)[i]? := by rw [h1]
  simp only [List.getElem?_map, List.getElem?_eq_getElem h2, List.getElem?_eq_getElem h3, Option.map_some, Option.some.injEq] at h4
  have h5 := congrArg UInt8.toNat h4
  simp only [UInt8.toNat_ofNat'] at h5
  have a1 := hA _ (List.getElem_mem h2)
  have b1 := hB _ (List.getElem_mem h3)
  omega
theorem equal_same (B : List Int) (a b : Option Addr) (n c d : Nat) (hn : B.length = n) (w : World) (ha : Sl w a B) (hb : Sl w b B) : Calls Tryz.prog 41 #[.slice a n c, .slice b n d] w (fun r w' => r = .returned (.bool true) ∧ w' = w) := by
  have h1 := ha.text n c hn
  have h2 := hb.text n d hn
  clear ha hb
  go_enter Tryz.func41, Tryz.ntmps41
  go_wp2_with fail
  refine bodyPost_ret (v := .bool true) ?_ rfl ⟨rfl, rfl⟩
  simp [results, Tryz.results41, go_sem]
theorem equal_not (A B : List Int) (a b : Option Addr) (n m c d : Nat) (hn : A.length = n) (hm : B.length = m) (bA : IsB A) (bB : IsB B) (hne : A ≠ B) (w : World) (ha : Sl w a A) (hb : Sl w b B) : Calls Tryz.prog 41 #[.slice a n c, .slice b m d] w (fun r w' => r = .returned (.bool false) ∧ w' = w) := by
  have h1 := ha.text n c hn
  have h2 := hb.text m d hm
  have h3 : ¬ (strOfNums A).toList = (strOfNums B).toList := fun e => hne (str_inj bA bB (by
    rw [ByteArray.toList_eq, ByteArray.toList_eq] at e
    exact WideShapes.bytes_inj e))
  clear ha hb hne
  generalize strOfNums A = sa at *
  generalize strOfNums B = sb at *
  go_enter Tryz.func41, Tryz.ntmps41
  go_wp2_with fail
  refine bodyPost_ret (v := .bool false) ?_ rfl ⟨rfl, rfl⟩
  simp [results, Tryz.results41, go_sem, h3]
theorem beq_ok (A B : List Int) (a b : Option Addr) (n m c d : Nat) (w : World) (ha : Lb w a n c A) (hb : Lb w b m d B) : Calls Tryz.prog 41 #[.slice a n c, .slice b m d] w (Vl (.bool (decide (A = B))) w) := by
  by_cases h : A = B
  · subst h
    have e : m = n := hb.len.symm.trans ha.len
    subst e
    refine (equal_same A a b m c d ha.len w ha.sl hb.sl).mono ?_
    rintro r w' ⟨rfl, rfl⟩
    exact ⟨by rw [decide_eq_true rfl], Gr.refl _⟩
  · refine (equal_not A B a b n m c d ha.len hb.len ha.isB hb.isB h w ha.sl hb.sl).mono ?_
    rintro r w' ⟨rfl, rfl⟩
    exact ⟨by rw [decide_eq_false h], Gr.refl _⟩
set_option maxHeartbeats 4000000 in
theorem lists_ok (P Q : List (List Int)) (pa qa : Option Addr) (pn pc qn qc : Nat) (w : World) (hP : Lq w pa pn pc P) (hQ : Lq w qa qn qc Q) (hb : pn ≤ 1000000) : Calls Tryz.prog 44 #[.slice pa pn pc, .slice qa qn qc] w (Vl (.bool (decide (P = Q))) w) := by
  obtain ⟨T, hT⟩ : ∃ T, T = Vl (.bool (decide (P = Q))) w := ⟨_, rfl⟩
  rw [← hT]
  replace hT := hide hT
  have hPl := hP.len
  have hQl := hQ.len
  have hPc := hP.cap
  have hQc := hQ.cap
  replace hP := hide hP; replace hQ := hide hQ; replace hPl := hide hPl; replace hQl := hide hQl
  go_enter Tryz.func44, Tryz.ntmps44
  by_cases hpq : pn = qn
  case neg =>
    have nI : ¬ (pn : Int) = (qn : Int) := by omega
    have hZ : Hid (Vl (.bool (decide (P = Q))) w (.returned (.bool false)) w) := by
      have hne : ¬ P = Q := fun e => hpq (by rw [← unhide hPl, ← unhide hQl, e])
      refine ⟨?_, Gr.refl w⟩
      rw [decide_eq_false hne]
    go_wp2_with fail
    rw [unhide hT]
    exact unhide hZ
  subst hpq
  go_wp2_with fail
  go_loopw [13] (fun i wr => ∃ j : Nat, j ≤ pn ∧ i = .int .i64 (j : Int) ∧ Hid (P.take j = Q.take j) ∧ Hid (Gr w wr)) (fun i _ => pn - (intOf i).toNat)
  case atStart => exact ⟨0, by omega, rfl, by show P.take 0 = Q.take 0; simp, Gr.refl w⟩
  case round =>
  obtain ⟨j, hj, rfl, hpre, hG⟩ := hrel
  by_cases hlt : j < pn
  · skip
    have jI : (j : Int) < (pn : Int) := by omega
    obtain ⟨p, o, a1, n1, c1, rfl, hc1, hL1, -⟩ := (unhide hP).at_ j hlt
    obtain ⟨p2, o2, a2, n2, c2, rfl, hc2, hL2, -⟩ := (unhide hQ).at_ j hlt
    obtain ⟨A, hA⟩ : ∃ A, A = P.getD j [] := ⟨_, rfl⟩
    obtain ⟨B, hB⟩ : ∃ B, B = Q.getD j [] := ⟨_, rfl⟩
    rw [← hA] at hL1
    rw [← hB] at hL2
    replace hA := hide hA; replace hB := hide hB; replace hL1 := hide hL1; replace hL2 := hide hL2; replace hc1 := hide hc1; replace hc2 := hide hc2
    by_cases hAB : A = B
    · skip
      go_upto_region 6 with fail
      refine any_start (S := fun (v : World) => Gr w v) (by kernel_rfl) ?_
      have hG9 := (unhide hG).trans (Gr.refl _).drew
      clear hG
      generalize World.drew _ = x2 at *
      simp only [List.size_toArray, List.length_cons, List.length_nil, Array.replicate, List.replicate]
      refine any_take (i := 0) (v := (.slice (some ⟨p, o, none⟩) pn pc)) #[false, false, false, false, false, false, false, false, false, false] rfl (by kernel_rfl) (by kernel_rfl) (by kernel_rfl) (by kernel_rfl) (fun _ _ _ h => h) (.inl ⟨by kernel_rfl, fun x_ hu => by kernel_rfl⟩) hG9 ?_
      simp only [nrm]
      refine any_take (i := 1) (v := (.int .i64 (j : Int))) #[true, false, false, false, false, false, false, false, false, false] rfl (by kernel_rfl) (by kernel_rfl) (by kernel_rfl) (by kernel_rfl) (fun _ _ _ h => h) (.inl ⟨by kernel_rfl, fun x_ hu => by kernel_rfl⟩) hG9 ?_
      simp only [nrm]
      refine any_take (i := 2) (v := (.pointer (some ⟨p, o + j, none⟩))) #[true, true, false, false, false, false, false, false, false, false] rfl (by kernel_rfl) (by kernel_rfl) (by kernel_rfl) (by kernel_rfl) (fun _ _ _ h => h) (.inl ⟨by kernel_rfl, fun x_ hu => exec_ils _ (.tmp 16) (.tmp 17) rfl p o pn pc j (by kernel_rfl) (by kernel_rfl) hlt⟩) hG9 ?_
      simp only [nrm]
      refine any_take (i := 3) (v := (.slice a1 n1 c1)) #[true, true, true, false, false, false, false, false, false, false] rfl (by kernel_rfl) (by kernel_rfl) (by kernel_rfl) (by kernel_rfl) (fun _ _ _ h => h) (.inl ⟨by kernel_rfl, fun x_ hu => exec_sby _ (.tmp 18) rfl p (o + j) (by kernel_rfl) a1 n1 c1 (hu.cell (unhide hc1))⟩) hG9 ?_
      simp only [nrm]
      refine any_take (i := 4) (v := (.slice (some ⟨p2, o2, none⟩) pn qc)) #[true, true, true, true, false, false, false, false, false, false] rfl (by kernel_rfl) (by kernel_rfl) (by kernel_rfl) (by kernel_rfl) (fun _ _ _ h => h) (.inl ⟨by kernel_rfl, fun x_ hu => by kernel_rfl⟩) hG9 ?_
      simp only [nrm]
      refine any_take (i := 5) (v := (.int .i64 (j : Int))) #[true, true, true, true, true, false, false, false, false, false] rfl (by kernel_rfl) (by kernel_rfl) (by kernel_rfl) (by kernel_rfl) (fun _ _ _ h => h) (.inl ⟨by kernel_rfl, fun x_ hu => by kernel_rfl⟩) hG9 ?_
      simp only [nrm]
      refine any_take (i := 6) (v := (.pointer (some ⟨p2, o2 + j, none⟩))) #[true, true, true, true, true, true, false, false, false, false] rfl (by kernel_rfl) (by kernel_rfl) (by kernel_rfl) (by kernel_rfl) (fun _ _ _ h => h) (.inl ⟨by kernel_rfl, fun x_ hu => exec_ils _ (.tmp 20) (.tmp 21) rfl p2 o2 pn qc j (by kernel_rfl) (by kernel_rfl) hlt⟩) hG9 ?_
      simp only [nrm]
      refine any_take (i := 7) (v := (.slice a2 n2 c2)) #[true, true, true, true, true, true, true, false, false, false] rfl (by kernel_rfl) (by kernel_rfl) (by kernel_rfl) (by kernel_rfl) (fun _ _ _ h => h) (.inl ⟨by kernel_rfl, fun x_ hu => exec_sby _ (.tmp 22) rfl p2 (o2 + j) (by kernel_rfl) a2 n2 c2 (hu.cell (unhide hc2))⟩) hG9 ?_
      simp only [nrm]
      refine any_one (i := 8) (by kernel_rfl) rfl (fun K_ hQ => ?_)
      refine step_callw (by kernel_rfl) 41 #[.slice a1 n1 c1, .slice a2 n2 c2] (by kernel_rfl) ((beq_ok A B a1 a2 n1 n2 c1 c2 _ ((unhide hL1).gr hG9) ((unhide hL2).gr hG9)).mono ?_)
      rintro r x3 ⟨rfl, hg⟩
      refine ⟨_, rfl, ?_⟩
      rw [decide_eq_true hAB]
      replace hG9 := hG9.trans hg
      clear hg
      refine hQ.out _ _ hG9 (fun _ => ?_)
      clear hQ K_
      simp only [nrm]
      refine any_take (i := 9) (v := (.bool false)) #[true, true, true, true, true, true, true, true, true, false] rfl (by kernel_rfl) (by kernel_rfl) (by kernel_rfl) (by kernel_rfl) (fun _ _ _ h => h) (.inl ⟨by kernel_rfl, fun x_ hu => by go_simp⟩) hG9 ?_
      simp only [nrm]
      refine any_done (by kernel_rfl) ?_
      have hpre2 : Hid (P.take (j + 1) = Q.take (j + 1)) := by
        have h1 : j < P.length := by rw [unhide hPl]; exact hlt
        have h2 : j < Q.length := by rw [unhide hQl]; exact hlt
        show P.take (j + 1) = Q.take (j + 1)
        rw [List.take_succ_eq_append_getElem h1, List.take_succ_eq_append_getElem h2, unhide hpre]
        have e1 : P[j] = A := by rw [unhide hA, List.getD_eq_getElem?_getD, List.getElem?_eq_getElem h1]; rfl
        have e2 : Q[j] = B := by rw [unhide hB, List.getD_eq_getElem?_getD, List.getElem?_eq_getElem h2]; rfl
        rw [e1, e2, hAB]
      replace hG9 := hide hG9
      go_wp2_with fail
      go_roundw
      case rel => exact ⟨j + 1, by omega, by go_num, hpre2, hG9⟩
      case measure => simp [intOf]; omega
    go_upto_region 6 with fail
    refine any_start (S := fun (v : World) => Gr w v) (by kernel_rfl) ?_
    have hG9 := (unhide hG).trans (Gr.refl _).drew
    clear hG
    generalize World.drew _ = x2 at *
    simp only [List.size_toArray, List.length_cons, List.length_nil, Array.replicate, List.replicate]
    refine any_take (i := 0) (v := (.slice (some ⟨p, o, none⟩) pn pc)) #[false, false, false, false, false, false, false, false, false, false] rfl (by kernel_rfl) (by kernel_rfl) (by kernel_rfl) (by kernel_rfl) (fun _ _ _ h => h) (.inl ⟨by kernel_rfl, fun x_ hu => by kernel_rfl⟩) hG9 ?_
    simp only [nrm]
    refine any_take (i := 1) (v := (.int .i64 (j : Int))) #[true, false, false, false, false, false, false, false, false, false] rfl (by kernel_rfl) (by kernel_rfl) (by kernel_rfl) (by kernel_rfl) (fun _ _ _ h => h) (.inl ⟨by kernel_rfl, fun x_ hu => by kernel_rfl⟩) hG9 ?_
    simp only [nrm]
    refine any_take (i := 2) (v := (.pointer (some ⟨p, o + j, none⟩))) #[true, true, false, false, false, false, false, false, false, false] rfl (by kernel_rfl) (by kernel_rfl) (by kernel_rfl) (by kernel_rfl) (fun _ _ _ h => h) (.inl ⟨by kernel_rfl, fun x_ hu => exec_ils _ (.tmp 16) (.tmp 17) rfl p o pn pc j (by kernel_rfl) (by kernel_rfl) hlt⟩) hG9 ?_
    simp only [nrm]
    refine any_take (i := 3) (v := (.slice a1 n1 c1)) #[true, true, true, false, false, false, false, false, false, false] rfl (by kernel_rfl) (by kernel_rfl) (by kernel_rfl) (by kernel_rfl) (fun _ _ _ h => h) (.inl ⟨by kernel_rfl, fun x_ hu => exec_sby _ (.tmp 18) rfl p (o + j) (by kernel_rfl) a1 n1 c1 (hu.cell (unhide hc1))⟩) hG9 ?_
    simp only [nrm]
    refine any_take (i := 4) (v := (.slice (some ⟨p2, o2, none⟩) pn qc)) #[true, true, true, true, false, false, false, false, false, false] rfl (by kernel_rfl) (by kernel_rfl) (by kernel_rfl) (by kernel_rfl) (fun _ _ _ h => h) (.inl ⟨by kernel_rfl, fun x_ hu => by kernel_rfl⟩) hG9 ?_
    simp only [nrm]
    refine any_take (i := 5) (v := (.int .i64 (j : Int))) #[true, true, true, true, true, false, false, false, false, false] rfl (by kernel_rfl) (by kernel_rfl) (by kernel_rfl) (by kernel_rfl) (fun _ _ _ h => h) (.inl ⟨by kernel_rfl, fun x_ hu => by kernel_rfl⟩) hG9 ?_
    simp only [nrm]
    refine any_take (i := 6) (v := (.pointer (some ⟨p2, o2 + j, none⟩))) #[true, true, true, true, true, true, false, false, false, false] rfl (by kernel_rfl) (by kernel_rfl) (by kernel_rfl) (by kernel_rfl) (fun _ _ _ h => h) (.inl ⟨by kernel_rfl, fun x_ hu => exec_ils _ (.tmp 20) (.tmp 21) rfl p2 o2 pn qc j (by kernel_rfl) (by kernel_rfl) hlt⟩) hG9 ?_
    simp only [nrm]
    refine any_take (i := 7) (v := (.slice a2 n2 c2)) #[true, true, true, true, true, true, true, false, false, false] rfl (by kernel_rfl) (by kernel_rfl) (by kernel_rfl) (by kernel_rfl) (fun _ _ _ h => h) (.inl ⟨by kernel_rfl, fun x_ hu => exec_sby _ (.tmp 22) rfl p2 (o2 + j) (by kernel_rfl) a2 n2 c2 (hu.cell (unhide hc2))⟩) hG9 ?_
    simp only [nrm]
    refine any_one (i := 8) (by kernel_rfl) rfl (fun K_ hQ => ?_)
    refine step_callw (by kernel_rfl) 41 #[.slice a1 n1 c1, .slice a2 n2 c2] (by kernel_rfl) ((beq_ok A B a1 a2 n1 n2 c1 c2 _ ((unhide hL1).gr hG9) ((unhide hL2).gr hG9)).mono ?_)
    rintro r x3 ⟨rfl, hg⟩
    refine ⟨_, rfl, ?_⟩
    rw [decide_eq_false hAB]
    replace hG9 := hG9.trans hg
    clear hg
    refine hQ.out _ _ hG9 (fun _ => ?_)
    clear hQ K_
    simp only [nrm]
    refine any_take (i := 9) (v := (.bool true)) #[true, true, true, true, true, true, true, true, true, false] rfl (by kernel_rfl) (by kernel_rfl) (by kernel_rfl) (by kernel_rfl) (fun _ _ _ h => h) (.inl ⟨by kernel_rfl, fun x_ hu => by go_simp⟩) hG9 ?_
    simp only [nrm]
    refine any_done (by kernel_rfl) ?_
    have hZ : Hid (Vl (.bool (decide (P = Q))) w (.returned (.bool false)) x3) := by
      have hne : ¬ P = Q := fun e => hAB (by rw [unhide hA, unhide hB, e])
      refine ⟨?_, hG9⟩
      rw [decide_eq_false hne]
    replace hG9 := hide hG9
    go_wp2_with fail
    rw [unhide hT]
    exact unhide hZ
  have jI : ¬ (j : Int) < (pn : Int) := by omega
  obtain rfl : j = pn := by omega
  have hZ : Hid (Vl (.bool (decide (P = Q))) w (.returned (.bool true)) wr) := by
    have h := unhide hpre
    rw [List.take_of_length_le (by rw [unhide hPl]; exact Nat.le_refl _), List.take_of_length_le (by rw [unhide hQl]; exact Nat.le_refl _)] at h
    refine ⟨?_, unhide hG⟩
    rw [decide_eq_true h]
  clear hG
  go_wp2_with fail
  rw [unhide hT]
  exact unhide hZ
theorem dk0_cur (n j : Nat) (hj : j < n) : (dk0 n).cur j = ZB := by
  unfold Dk.cur dk0
  show (List.replicate n ZB).getD j [] = ZB
  rw [List.getD_eq_getElem?_getD, List.getElem?_replicate, if_pos hj]
  rfl
def Str (z : Nat) (w : World) (r : Ending) (w' : World) : Prop := ∃ F G g gd D, r = .returned (.tuple #[P0 gd, P0 g]) ∧ Xs w F G g gd D sup0 w' ∧ Wd D 3 sup0 [] [] ∧ D.safe.length = z
def stz (n : Int) : Nat := (64 + IntKind.u64.wrap n % 24).toNat
theorem stz_bd (n : Int) : 64 ≤ stz n ∧ stz n < 88 := by unfold stz; omega
set_option maxHeartbeats 4000000 in
theorem store_ok (n : Int) (w : World) (hf0 : Fst w) : Calls Tryz.prog 6 #[.int .i64 n] w (Str (stz n) w) := by
  obtain ⟨T, hT⟩ : ∃ T, T = Str (stz n) w := ⟨_, rfl⟩
  rw [← hT]
  replace hT := hide hT
  obtain ⟨qa, hqa⟩ : ∃ q : Int, q = IntKind.u64.wrap n := ⟨_, rfl⟩
  have pa : 0 ≤ qa ∧ qa < 18446744073709551616 := by rw [hqa, IntKind.wrap_u64]; omega
  obtain ⟨ta, hta⟩ : ∃ t : Int, t = qa % 24 := ⟨_, rfl⟩
  have ra : 0 ≤ ta ∧ ta < 24 := by omega
  have eta : qa.tmod 24 = ta := by rw [Int.tmod_eq_emod_of_nonneg pa.1, hta]
  have ewu : IntKind.u64.wrap ta = ta := by rw [IntKind.wrap_u64]; omega
  have ewa : IntKind.i64.wrap ta = ta := by rw [IntKind.wrap_i64]; omega
  obtain ⟨za, hza⟩ : ∃ z : Nat, (z : Int) = 64 + ta := ⟨(64 + ta).toNat, by omega⟩
  have exa : IntKind.i64.wrap (64 + ta) = (za : Int) := by rw [IntKind.wrap_i64]; omega
  have bza : 64 ≤ za ∧ za < 88 := by omega
  have hzz : Hid (stz n = za) := by show stz n = za; unfold stz; rw [← hqa]; omega
  replace hqa := hide hqa; replace hta := hide hta; replace hza := hide hza; replace hf0 := hide hf0
  go_enter Tryz.func6, Tryz.ntmps6
  go_upto_region 1 with fail
  obtain ⟨v0, hv0⟩ : ∃ v, v = w := ⟨_, rfl⟩
  rw [← hv0] at hT hf0 ⊢
  refine wp_region_lit ?_
  refine list_val (.int .i64 n) (by kernel_rfl) (by kernel_rfl) ?_
  simp only [nrm]
  refine list_val (.int .u64 qa) (by kernel_rfl) (by have h9 := unhide hqa; go_simp) ?_
  simp only [nrm]
  refine list_val (.int .u64 ta) (by kernel_rfl) (by go_simp) ?_
  simp only [nrm]
  refine list_val (.int .i64 ta) (by kernel_rfl) (by go_simp) ?_
  simp only [nrm]
  refine list_val (.int .i64 (za : Int)) (by kernel_rfl) (by go_simp) ?_
  simp only [nrm]
  refine list_call 28 #[.int .i64 (za : Int)] (by kernel_rfl) (by kernel_rfl) ((dnew_ok (za : Int) _).mono ?_)
  intro r v1 h6
  unfold Dne at h6
  rw [if_pos ⟨by omega, by omega⟩] at h6
  obtain ⟨gd, F, rfl, hL, hF, hg1⟩ := h6
  rw [Int.toNat_natCast] at hL
  have kD := dk0_ok za (by omega) (by omega)
  have kl : (dk0 za).safe.length = za := by unfold dk0; simp
  have kd : (dk0 za).dead = false := rfl
  have kf : (dk0 za).left = -1 := rfl
  have kcur : ∀ j, j < za → (dk0 za).cur j = ZB := fun j hj => dk0_cur za j hj
  generalize dk0 za = D0 at *
  refine ⟨_, rfl, ?_⟩
  replace hL := hide hL; replace hF := hide hF; replace kD := hide kD; replace hg1 := hide hg1; replace kf := hide kf; replace kcur := hide kcur
  simp only [nrm]
  refine list_val (.tuple #[.pointer (some ⟨gd, 0, none⟩), .int .i64 0]) (by kernel_rfl) (by kernel_rfl) ?_
  simp only [nrm]
  refine list_val (.pointer (some ⟨gd, 0, none⟩)) (by kernel_rfl) (by kernel_rfl) ?_
  simp only [nrm]
  refine list_val (.int .i64 0) (by kernel_rfl) (by kernel_rfl) ?_
  simp only [nrm]
  (refine wpList_step fun K hK => ?_; replace hK := hide hK; go_simp; refine unhide hK _ _ ?_; clear hK K)
  (refine wpList_step fun K hK => ?_; replace hK := hide hK; go_simp; refine unhide hK _ _ ?_; clear hK K)
  refine wpList_nil ?_
  go_upto_region 4 with fail
  refine wp_region_lit ?_
  refine list_val (.pointer (some ⟨gd, 0, none⟩)) (by kernel_rfl) (by kernel_rfl) ?_
  simp only [nrm]
  refine list_call 29 #[P0 gd] (by kernel_rfl) (by kernel_rfl) ((eformat_ok F gd 0 D0 (unhide kD) (by omega) kd (unhide kf) (by omega) _ (unhide hL) ((unhide hf0).gr (unhide hg1)) (fun e => by have := unhide hF 0 e; have := fst_size (unhide hf0); omega)).mono ?_)
  rintro r v2 ⟨g, F2, G, rfl, hL2, hS, hG, hap, hc⟩
  obtain ⟨q1, q2, q3⟩ := wd_fmt (unhide kD) kd (unhide kf) (by omega) (by rw [kl]; exact unhide kcur)
  generalize (Dk.runD fmtOps D0).1 = D1 at *
  have hX : Xs v0 F2 G g gd D1 sup0 v2 := by
    have hown : ∀ i ∈ F2, v0.heap.size ≤ i := fun i hi => (hc.new i hi).elim (unhide hF i) (fun e => Nat.le_trans (unhide hg1).size e)
    exact ⟨Chg.own (unhide hg1) hc (unhide hF), hL2, by rw [q3]; exact hS, hown, fun i hi => Nat.le_trans (unhide hg1).size (hG i hi), hap⟩
  have kn1 : D1.safe.length = za := q3.trans kl
  obtain ⟨s1, s2, s3, s4⟩ := sup0_is
  refine ⟨_, rfl, ?_⟩
  clear hL2 hS hG hap hc q1 hL hF kD hg1 kl kd kf q3 s1 s2 s3 s4 kcur
  replace hX := hide hX; replace q2 := hide q2
  simp only [nrm]
  refine list_val (.tuple #[.pointer (some ⟨g, 0, none⟩), .int .i64 0]) (by kernel_rfl) (by kernel_rfl) ?_
  simp only [nrm]
  refine list_val (.pointer (some ⟨g, 0, none⟩)) (by kernel_rfl) (by kernel_rfl) ?_
  simp only [nrm]
  refine list_val (.int .i64 0) (by kernel_rfl) (by kernel_rfl) ?_
  simp only [nrm]
  (refine wpList_step fun K hK => ?_; replace hK := hide hK; go_simp; refine unhide hK _ _ ?_; clear hK K)
  (refine wpList_step fun K hK => ?_; replace hK := hide hK; go_simp; refine unhide hK _ _ ?_; clear hK K)
  refine wpList_nil ?_
  have hZ : Hid (Str (stz n) v0 (.returned (.tuple #[P0 gd, P0 g])) v2) := ⟨F2, G, g, gd, D1, rfl, unhide hX, unhide q2, by rw [unhide hzz]; exact kn1⟩
  clear hX q2
  go_wp2_with fail
  rw [unhide hT]
  exact unhide hZ
theorem exec_upto2 {a : Act} {o : Oper} (w : World) (x y : Operand) (ho : o.op = .slice 33 x none (some y) none) (s : Option Addr) (len cap n : Nat) (hx : a.eval x = .slice s len cap) (hy : a.eval y = .int .i64 n) (hc : len ≤ cap) (hn : n ≤ len) :
    (execOp a.eval o).run Tryz.prog w = .ok (.value (.slice s n cap)) w := by
  have h := exec_upto (a := a) (o := o) w x y ho s len cap n hx hy hc hn
  have h3 : s.map (·.add 0) = s := by
    cases s with
    | none => rfl
    | some q => cases q with | mk b_ o_ s_ => cases s_ <;> rfl
  rw [h3, ite_self] at h
  exact h
structure Ox (b : Nat) (w : World) (v : Value) (X : List (List Int)) : Prop where
  own : ∃ vs : List Value, Or_ 1 33 b w v (vs.map fun s => [s]) ∧ vs.length = X.length ∧ ∀ i, i < X.length → Ob b w (vs.getD i undef) (X.getD i [])
  isB : ∀ x ∈ X, IsB x ∧ x.length ≤ 140737488351232
theorem Ox.gr {b : Nat} {w u : World} {v : Value} {X : List (List Int)} (h : Ox b w v X) (g : Gr w u) : Ox b u v X := by
  obtain ⟨vs, h1, h2, h3⟩ := h.own
  exact ⟨⟨vs, h1.gr g, h2, fun i hi => (h3 i hi).gr g⟩, h.isB⟩
theorem Ox.nil (b : Nat) (w : World) : Ox b w (.slice none 0 0) [] := ⟨⟨[], ⟨fun r hr => (by cases hr), rfl, .inl ⟨rfl, rfl⟩⟩, rfl, fun i hi => absurd hi (Nat.not_lt_zero i)⟩, fun x hx => (by cases hx)⟩
theorem Ox.lq {b : Nat} {w : World} {v : Value} {X : List (List Int)} (h : Ox b w v X) : ∃ a c, v = .slice a X.length c ∧ Lq w a X.length c X := by
  obtain ⟨vs, h1, h2, h3⟩ := h.own
  obtain ⟨a, c, e, hl⟩ := h1.ls
  rw [List.length_map, h2] at e hl
  refine ⟨a, c, e, rfl, ?_, hl.cap, hl.max⟩
  rcases Nat.eq_zero_or_pos X.length with h0 | h0
  · exact .inl h0
  · right
    obtain ⟨p, o, e1, -⟩ := hl.at_ 0 h0
    refine ⟨p, o, e1, fun i hi => ?_⟩
    obtain ⟨p2, o2, e2, hr⟩ := hl.at_ i hi
    rw [e1] at e2
    injection e2 with e2
    injection e2 with e3 e4
    subst e3 e4
    have hx := h.isB (X.getD i []) (mem_of_getD hi)
    obtain ⟨ai, ci, e5, l5⟩ := ob_lb (h3 i hi) hx.1 rfl
    refine ⟨ai, (X.getD i []).length, ci, ?_, l5, hx.2⟩
    have hv : (vs.map fun s => [s]).getD i [] = [vs.getD i undef] := by
      have hiv : i < vs.length := by rw [h2]; exact hi
      simp [List.getD_eq_getElem?_getD, hiv]
    rw [hv, e5] at hr
    have h6 := hr 0 _ rfl
    rw [Nat.one_mul, Nat.add_zero] at h6
    exact h6
theorem ob_take {b : Nat} {w : World} {a : Option Addr} {n m c : Nat} {L : List Int} (h : Ob b w (.slice a n c) L) (hm : m ≤ L.length) : Ob b w (.slice a m c) (L.take m) := by
  refine ⟨by rw [List.length_map, Nat.mul_one], ?_⟩
  rcases h.2 with ⟨h1, h2⟩ | ⟨g, cap, cur, h1, h2, h3, h4, h5, h6, h7⟩
  · injection h1 with e1 e2 e3
    subst e1 e3
    left
    have : m = 0 := by omega
    subst this
    exact ⟨rfl, rfl⟩
  · injection h1 with e1 e2 e3
    subst e1 e3
    right
    refine ⟨g, c, cur, by rw [List.length_take, Nat.min_eq_left hm], h2, h3, by rw [List.length_take]; omega, h5, h6, ?_⟩
    rw [List.length_take, Nat.min_eq_left hm, Nat.mul_one]
    rw [Nat.mul_one] at h7
    have h8 := congrArg (List.take m) h7
    rw [List.take_take, Nat.min_eq_left hm] at h8
    rw [h8, List.map_take]
theorem or_apart (k x m : Nat) (hx : x < 2 ^ k) (hs : x + m * 2 ^ k < 9223372036854775808) : bits .or .i64 (x : Int) ((m * 2 ^ k : Nat) : Int) = ((x + m * 2 ^ k : Nat) : Int) := by
  have h0 : x ||| m * 2 ^ k = x + m * 2 ^ k := by
    have h := Nat.two_pow_add_eq_or_of_lt hx m
    rw [Nat.or_comm, Nat.mul_comm m, ← h]
    omega
  have h1 : (BitVec.ofInt 64 (x : Int)).toNat = x := by
    rw [BitVec.ofInt_natCast, BitVec.toNat_ofNat]; exact Nat.mod_eq_of_lt (by omega)
  have h2 : (BitVec.ofInt 64 ((m * 2 ^ k : Nat) : Int)).toNat = m * 2 ^ k := by
    rw [BitVec.ofInt_natCast, BitVec.toNat_ofNat]; exact Nat.mod_eq_of_lt (by omega)
  show IntKind.i64.wrap ((BitVec.ofInt 64 (x : Int) ||| BitVec.ofInt 64 ((m * 2 ^ k : Nat) : Int)).toNat : Int) = _
  rw [BitVec.toNat_or, h1, h2, h0, IntKind.wrap_i64]
  omega
theorem cn4_is {b : List Int} (hb : BB b) : (cn4 b : Int) = b.getD 13 0 + 256 * b.getD 14 0 + 65536 * b.getD 15 0 + 16777216 * b.getD 16 0 := by
  have hl := hb.1
  have e : (b.drop 13).take 4 = [b.getD 13 0, b.getD 14 0, b.getD 15 0, b.getD 16 0] := by
    apply List.ext_getElem?
    intro i
    rw [List.getElem?_take]
    rcases i with _ | _ | _ | _ | i
    · simp [List.getD_eq_getElem?_getD, hl]
    · simp [List.getD_eq_getElem?_getD, hl]
    · simp [List.getD_eq_getElem?_getD, hl]
    · simp [List.getD_eq_getElem?_getD, hl]
    · rw [if_neg (by omega)]
      simp
  have hr : ∀ i, i < 64 → 0 ≤ b.getD i 0 ∧ b.getD i 0 < 256 := fun i hi => hb.2 _ (mem_of_getD (by rw [hl]; exact hi))
  have r0 := hr 13 (by omega)
  have r1 := hr 14 (by omega)
  have r2 := hr 15 (by omega)
  have r3 := hr 16 (by omega)
  unfold cn4
  rw [e]
  simp only [lowN]
  omega
theorem usd_ge (X : List (List Int)) : X.length ≤ usd X := by
  induction X with
  | nil => exact Nat.le_refl _
  | cons x r ih => rw [List.length_cons, usd]; unfold ned; omega
theorem istx_of {B : Nat → List Int} {N t k u : Nat} {x : List Int} (hf : u + ned x.length ≤ N) (h : ∀ i, i < ned x.length → B (u + i) = (secs t k x).getD i []) : IsTx B N t k u x := by
  refine ⟨hf, ?_, fun i hi => ?_⟩
  · have h0 := h 0 (by unfold ned; omega)
    rw [Nat.add_zero] at h0
    rw [h0]
    rfl
  · have h0 := h (i + 1) (by unfold ned; omega)
    rw [show u + (i + 1) = u + 1 + i from by omega] at h0
    rw [h0]
    unfold secs secN
    rw [List.getD_eq_getElem?_getD, List.getElem?_cons_succ, List.getElem?_map, List.getElem?_range (by omega)]
    rfl
theorem istx_to {B : Nat → List Int} {N t k u : Nat} {y : List Int} (hN : N ≤ 100000) (h : IsTx B N t k u y) : cn4 (B u) = y.length ∧ (bod B (u + 1) (ned (cn4 (B u)) - 1)).take (cn4 (B u)) = y ∧ ∀ i, i < ned y.length → B (u + i) = (secs t k y).getD i [] := by
  have e := h.cnt hN
  refine ⟨e, by rw [e]; exact istx_bod h, fun i hi => ?_⟩
  rcases i with _ | i
  · rw [Nat.add_zero, h.mrk]
    rfl
  · rw [show u + (i + 1) = u + 1 + i from by omega, h.da i (by unfold ned at hi; omega)]
    unfold secs secN
    rw [List.getD_eq_getElem?_getD, List.getElem?_cons_succ, List.getElem?_map, List.getElem?_range (by unfold ned at hi; omega)]
    rfl
theorem bod_len {B : Nat → List Int} {o : Nat} : ∀ (k : Nat), (∀ i, i < k → BB (B (o + i))) → (bod B o k).length = 63 * k ∧ IsB (bod B o k)
  | 0, _ => ⟨rfl, fun x hx => (by cases hx)⟩
  | k + 1, h => by
    obtain ⟨h1, h2⟩ := bod_len k (fun i hi => h i (by omega))
    have h3 := h k (by omega)
    rw [bod]
    refine ⟨by rw [List.length_append, h1, List.length_drop, h3.1]; omega, isB_app h2 (isB_drop h3.2 1)⟩
theorem Tryz.infoBs : (Tryz.prog.info? 33).map (fun i => (i.zero, i.size, i.bytes)) = some (some (.slice none 0 0), 1, 24) := by kernel_rfl
theorem lt_s : Lt 41 33 1 24 := by
  obtain ⟨i, h1, h2, h3, h4⟩ := info_parts Tryz.infoBs
  exact ⟨Tryz.underlying41, ⟨i, _, h1, h2, h3, h4, rfl⟩, by decide, by decide⟩
theorem ob_grown {b : Nat} {w w' : World} {s v : Value} {x : List Int} {R : List (List Value)} (ho : Ob b w s x) (hr : Or_ 1 33 b w v R) (g : w.grownBy w' v.ownBlock) : Ob b w' s x := by
  refine ⟨ho.1, ?_⟩
  rcases ho.2 with h | ⟨p, cap, cur, h1, h2, h3, h4⟩
  · exact .inl h
  · refine .inr ⟨p, cap, cur, h1, h2, ?_, h4⟩
    rw [g.block p (lt_of_block h3) ?_]
    · exact h3
    · intro e2
      rcases hr.2.2 with ⟨rfl, _⟩ | ⟨q, cap2, cur2, rfl, _, h6, _⟩
      · simp [Value.ownBlock] at e2
      · have e3 : p = q := by simpa [Value.ownBlock] using e2
        rw [e3, h6] at h3
        have e4 := Option.some.inj h3
        injection e4 with _ h8 _
        exact absurd h8 (by decide)
theorem Ox.snoc {b : Nat} {w w' : World} {v v' s : Value} {X : List (List Int)} {vs : List Value} {x : List Int} (h1 : Or_ 1 33 b w v (vs.map fun s => [s])) (h2 : vs.length = X.length) (h3 : ∀ i, i < X.length → Ob b w (vs.getD i undef) (X.getD i [])) (hB : ∀ x ∈ X, IsB x ∧ x.length ≤ 140737488351232) (hs : Ob b w s x) (hx : IsB x ∧ x.length ≤ 140737488351232) (g : w.grownBy w' v.ownBlock) (h4 : Or_ 1 33 b w' v' ((vs.map fun s => [s]) ++ [[s]])) : Ox b w' v' (X ++ [x]) := by
  refine ⟨⟨vs ++ [s], by rw [List.map_append]; exact h4, by rw [List.length_append, List.length_append, h2]; rfl, fun i hi => ?_⟩, fun y hy => ?_⟩
  · rw [List.length_append] at hi
    by_cases hl : i < X.length
    · rw [List.getD_eq_getElem?_getD, List.getD_eq_getElem?_getD, List.getElem?_append_left (by rw [h2]; exact hl), List.getElem?_append_left hl, ← List.getD_eq_getElem?_getD, ← List.getD_eq_getElem?_getD]
      exact ob_grown (h3 i hl) h1 g
    · have e : i = X.length := by simp at hi; omega
      subst e
      have e1 : (vs ++ [s]).getD X.length undef = s := by rw [← h2]; simp
      have e2 : (X ++ [x]).getD X.length [] = x := by simp
      rw [e1, e2]
      exact ob_grown hs h1 g
  · rcases List.mem_append.1 hy with hy | hy
    · exact hB y hy
    · rw [List.mem_singleton] at hy
      rw [hy]
      exact hx
end Go.Proofs.YtaoiejgjdmakjaaGreatDoor
