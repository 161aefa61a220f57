/-
  Of layer 12: what the proof leans on.
-/
import Derived.Lib.SlBytesConst
import Derived.Laws.IdiomStrings
import Derived.Deep.DeepAppendWide
import Derived.Test.YtaoiejgjdmakjaaGreatDoorReadsK5
namespace Go.Proofs.YtaoiejgjdmakjaaGreatDoor
open Go.RowKit
set_option maxRecDepth 100000
set_option linter.unusedSimpArgs false
set_option linter.unusedVariables false
theorem exec_bb1 {a : Act} {o : Oper} (w : World) (x : Operand) (ho : o.op = .buildSlice 22 1 #[(0, x)]) (b : List Int) (hb : b.length = 64) (hx : a.eval x = .agg (kc b)) :
    (execOp a.eval o).run Tryz.prog w = .ok (.value (.slice (some ⟨w.heap.size, 0, none⟩) 1 1)) (w.alloc (.cells (kc b) 36 (0, 0))) := by
  obtain ⟨p0, p1, p2, p3, p4, p5, p6, p7, p8, p9, p10, p11, p12, p13, p14, p15, p16, p17, p18, p19, p20, p21, p22, p23, p24, p25, p26, p27, p28, p29, p30, p31, q0, q1, q2, q3, q4, q5, q6, q7, q8, q9, q10, q11, q12, q13, q14, q15, q16, q17, q18, q19, q20, q21, q22, q23, q24, q25, q26, q27, q28, q29, q30, q31, rfl⟩ := list64 b hb
  obtain ⟨i0, h1, h2, h3, h4⟩ := info_parts Tryz.infoBz
  have h := run_buildSlice (P := Tryz.prog) w 22 36 1 #[(0, .agg (kc ([p0, p1, p2, p3, p4, p5, p6, p7, p8, p9, p10, p11, p12, p13, p14, p15, p16, p17, p18, p19, p20, p21, p22, p23, p24, p25, p26, p27, p28, p29, p30, p31] ++ [q0, q1, q2, q3, q4, q5, q6, q7, q8, q9, q10, q11, q12, q13, q14, q15, q16, q17, q18, q19, q20, q21, q22, q23, q24, q25, q26, q27, q28, q29, q30, q31])))] (kc ([p0, p1, p2, p3, p4, p5, p6, p7, p8, p9, p10, p11, p12, p13, p14, p15, p16, p17, p18, p19, p20, p21, p22, p23, p24, p25, p26, p27, p28, p29, p30, p31] ++ [q0, q1, q2, q3, q4, q5, q6, q7, q8, q9, q10, q11, q12, q13, q14, q15, q16, q17, q18, q19, q20, q21, q22, q23, q24, q25, q26, q27, q28, q29, q30, q31])) i0 (.agg (kc ZB)) Tryz.underlying22 h1 h2 (by rw [h3]; decide) (by rw [h3]; decide) (by rw [h3]; kernel_rfl)
  unfold execOp
  simp only [ho, List.map_toArray, List.map_cons, List.map_nil, hx, Sem.run_bind, h, Result.andThen_ok, Sem.run_pure]
theorem getD_setD {α : Type} (l : List α) (i j : Nat) (x d : α) (hi : i < l.length) : (l.set i x).getD j d = if i = j then x else l.getD j d := by
  rw [List.getD_eq_getElem?_getD, List.getD_eq_getElem?_getD]
  by_cases h : i = j
  · subst h
    rw [List.getElem?_set_self hi, if_pos rfl]
    rfl
  · rw [List.getElem?_set_ne h, if_neg h]
theorem getD_app {α : Type} (l m : List α) (j : Nat) (d : α) (h : j < l.length) : (l ++ m).getD j d = l.getD j d := by
  rw [List.getD_eq_getElem?_getD, List.getD_eq_getElem?_getD, List.getElem?_append_left h]
theorem curL_app (S : List (List Int)) (P : List (Nat × List Int)) (x : Nat × List Int) (i : Nat) : ∀ k, k ≤ P.length → curL S (P ++ [x]) i k = curL S P i k
  | 0, _ => rfl
  | k + 1, h => by
    unfold curL
    rw [getD_app P [x] k _ (by omega), curL_app S P x i k (by omega)]
theorem curL_snoc (S : List (List Int)) (P : List (Nat × List Int)) (x : Nat × List Int) (i : Nat) : curL S (P ++ [x]) i (P ++ [x]).length = if x.1 = i then x.2 else curL S P i P.length := by
  rw [List.length_append, List.length_singleton]
  show (if ((P ++ [x]).getD P.length (0, [])).1 = i then ((P ++ [x]).getD P.length (0, [])).2 else curL S (P ++ [x]) i P.length) = _
  have e : (P ++ [x]).getD P.length (0, []) = x := by
    rw [List.getD_eq_getElem?_getD, List.getElem?_append_right (Nat.le_refl _), Nat.sub_self]
    rfl
  rw [e, curL_app S P x i P.length (Nat.le_refl _)]
theorem liv_all (S : List (List Int)) (P : List (Nat × List Int)) (hP : ∀ x ∈ P, x.1 < S.length) (n i : Nat) : ∀ k, k ≤ n → k ≤ P.length → (liv S P (List.replicate n true) k).getD i [] = curL S P i k
  | 0, _, _ => rfl
  | k + 1, h1, h2 => by
    have ih := liv_all S P hP n i k (by omega) (by omega)
    have e : (List.replicate n true).getD k false = true := by
      rw [List.getD_eq_getElem?_getD, List.getElem?_replicate, if_pos (by omega)]
      rfl
    unfold liv curL
    rw [e, if_pos rfl, getD_setD _ _ _ _ _ (by rw [liv_len]; exact hP _ (mem_of_getD (by omega))), ih]
theorem Dk.sync_cur {D : Dk} (hd : D.dead = false) (hl : D.left ≠ 0) (hP : ∀ x ∈ D.pend, x.1 < D.safe.length) (i : Nat) : D.syncD.cur i = D.cur i := by
  obtain ⟨S, P, dd, lf, os⟩ := D
  obtain ⟨d2, l2, o2, h2⟩ := done_form S P dd lf os
  have e : (Dk.mk S P dd lf os).syncD = (Dk.mk S P d2 l2 o2).live (List.replicate P.length true) := by
    unfold Dk.syncD
    rw [hd, if_neg (by decide), if_neg (show ¬ (Dk.mk S P dd lf os).left = 0 from hl), h2]
    rfl
  rw [e]
  exact liv_all S P hP P.length i P.length (Nat.le_refl _) (Nat.le_refl _)
theorem Dk.write_cur {D : Dk} (hd : D.dead = false) (hl : D.left ≠ 0) (a : Int) (ha : D.has a) (b : List Int) (i : Nat) : (D.writeD a b).cur i = if a.toNat = i then b else D.cur i := by
  obtain ⟨S, P, dd, lf, os⟩ := D
  obtain ⟨d2, l2, o2, h2⟩ := done_form S P dd lf os
  have e : (Dk.mk S P dd lf os).writeD a b = Dk.mk S (P ++ [(a.toNat, b)]) d2 l2 o2 := by
    unfold Dk.writeD
    rw [hd, if_neg (by decide), if_pos ha, if_neg (show ¬ (Dk.mk S P dd lf os).left = 0 from hl), h2]
  rw [e]
  exact curL_snoc S P (a.toNat, b) i
section
variable {w v u : World} {L : List (List Nat × Nat × Dk)} {F F' : List Nat} {g n : Nat} {D D' : Dk}
end
/-! armed -/
theorem read_cur {D : Dk} (hd : D.dead = false) (i : Nat) (hi : i < D.safe.length) : D.readB (i : Int) = D.cur i := by
  unfold Dk.readB
  rw [hd, if_neg (by decide), if_pos (by unfold Dk.has; omega)]
  rfl
theorem liv_pick (S : List (List Int)) (P : List (Nat × List Int)) (keep : List Bool) (hP : ∀ x ∈ P, x.1 < S.length) (i : Nat) : ∀ K, K ≤ P.length → (liv S P keep K).getD i [] = S.getD i [] ∨ ∃ k, k < K ∧ (P.getD k (0, [])).1 = i ∧ (liv S P keep K).getD i [] = (P.getD k (0, [])).2
  | 0, _ => .inl rfl
  | K + 1, hK => by
    have ih := liv_pick S P keep hP i K (by omega)
    have hlt : (P.getD K (0, [])).1 < (liv S P keep K).length := by
      rw [liv_len]
      refine hP _ ?_
      rw [List.getD_eq_getElem?_getD, List.getElem?_eq_getElem (by omega)]
      exact List.getElem_mem _
    unfold liv
    split
    · rw [getD_setD _ _ _ _ _ hlt]
      split
      · rename_i e
        exact .inr ⟨K, by omega, e, rfl⟩
      · rcases ih with h | ⟨k, h1, h2, h3⟩
        · exact .inl h
        · exact .inr ⟨k, by omega, h2, h3⟩
    · rcases ih with h | ⟨k, h1, h2, h3⟩
      · exact .inl h
      · exact .inr ⟨k, by omega, h2, h3⟩
def lowL (x : Int) : Nat → List Int
  | 0 => []
  | k + 1 => x % 256 :: lowL (x / 256) k
theorem lowL_len (x : Int) (k : Nat) : (lowL x k).length = k := by
  induction k generalizing x with
  | zero => rfl
  | succ k ih => simp [lowL, ih]
theorem lowL_isB (x : Int) (k : Nat) : IsB (lowL x k) := by
  induction k generalizing x with
  | zero => intro y hy; cases hy
  | succ k ih =>
    intro y hy
    simp only [lowL, List.mem_cons] at hy
    rcases hy with rfl | hy
    · omega
    · exact ih _ y hy
def lowN : List Int → Int
  | [] => 0
  | x :: r => x + 256 * lowN r
theorem lowN_bd (l : List Int) (h : IsB l) : 0 ≤ lowN l ∧ lowN l < 256 ^ l.length := by
  induction l with
  | nil => simp [lowN]
  | cons x r ih =>
    have := ih (fun y hy => h y (List.mem_cons_of_mem _ hy))
    have hx := h x (List.mem_cons_self ..)
    simp only [lowN, List.length_cons]
    rw [Int.pow_succ]
    omega
theorem lowN_lowL : ∀ (k : Nat) (x : Int), 0 ≤ x → x < 256 ^ k → lowN (lowL x k) = x
  | 0, x, h1, h2 => by
    rw [Int.pow_zero] at h2
    show (0 : Int) = x
    omega
  | k + 1, x, h1, h2 => by
    rw [Int.pow_succ] at h2
    have ih := lowN_lowL k (x / 256) (by omega) (by omega)
    rw [lowL, lowN, ih]
    omega
theorem lowL_lowN : ∀ (l : List Int), IsB l → lowL (lowN l) l.length = l
  | [], _ => rfl
  | x :: r, h => by
    have hx := h x List.mem_cons_self
    have ih := lowL_lowN r (fun y hy => h y (List.mem_cons_of_mem _ hy))
    rw [lowN, List.length_cons, lowL]
    have e1 : (x + 256 * lowN r) % 256 = x := by omega
    have e2 : (x + 256 * lowN r) / 256 = lowN r := by omega
    rw [e1, e2, ih]
def sh16 (L : List Int) : List Int := (sumL L).take 16
theorem sh16_len (L : List Int) : (sh16 L).length = 16 := by unfold sh16; rw [List.length_take, sumL_len]; rfl
theorem sh16_isB (L : List Int) (h : IsB (sumL L)) : IsB (sh16 L) := fun x hx => h x (List.mem_of_mem_take hx)
def htr : List Int := [104, 111, 108, 108, 111, 119, 116, 114, 101, 101]
structure Sup where
  place : Nat
  turn : Nat
  size : Nat
  hash : List Int
structure Sup.Ok (s : Sup) : Prop where
  p : s.place < 2
  t : s.turn < 18446744073709551616
  z : s.size < 4294967296
  hl : s.hash.length = 16
  hb : IsB s.hash
def Sup.b48 (s : Sup) : List Int := htr ++ ([(s.place : Int), 0] ++ (lowL (s.turn : Int) 8 ++ (lowL (s.size : Int) 4 ++ (s.hash ++ List.replicate 8 0))))
def Sup.blk (s : Sup) : List Int := s.b48 ++ sh16 s.b48
theorem Sup.b48_len (s : Sup) (h : s.hash.length = 16) : s.b48.length = 48 := by
  unfold Sup.b48 htr
  simp [lowL_len, h]
theorem Sup.blk_len (s : Sup) (h : s.hash.length = 16) : s.blk.length = 64 := by
  unfold Sup.blk
  rw [List.length_append, s.b48_len h, sh16_len]
def supOf (b : List Int) : Sup := ⟨(b.getD 10 0).toNat, (lowN ((b.drop 12).take 8)).toNat, (lowN ((b.drop 20).take 4)).toNat, (b.drop 24).take 16⟩
def rightB (b : List Int) : Bool := decide (b.take 10 = htr ∧ b.getD 10 0 < 2 ∧ (b.getD 11 0 = 0 ∧ (b.drop 40).take 8 = List.replicate 8 0) ∧ b.drop 48 = sh16 (b.take 48))
theorem drop_app {α : Type} (a b : List α) (n m : Nat) (h : a.length = n) : (a ++ b).drop (n + m) = b.drop m := by
  rw [List.drop_append, h, List.drop_eq_nil_of_le (by omega), List.nil_append]
  congr 1
  omega
theorem take_app {α : Type} (a b : List α) (n : Nat) (h : a.length = n) : (a ++ b).take n = a := by
  rw [← h]
  exact List.take_left
theorem Sup.parts (s : Sup) (h : s.hash.length = 16) (T : List Int) :
    let b := s.b48 ++ T
    b.take 10 = htr ∧ b.getD 10 0 = (s.place : Int) ∧ b.getD 11 0 = 0 ∧ (b.drop 12).take 8 = lowL (s.turn : Int) 8 ∧ (b.drop 20).take 4 = lowL (s.size : Int) 4 ∧ (b.drop 24).take 16 = s.hash ∧ (b.drop 40).take 8 = List.replicate 8 0 ∧ b.take 48 = s.b48 ∧ b.drop 48 = T := by
  intro b
  have hb : b = htr ++ ([(s.place : Int), 0] ++ (lowL (s.turn : Int) 8 ++ (lowL (s.size : Int) 4 ++ (s.hash ++ (List.replicate 8 0 ++ T))))) := by
    show s.b48 ++ T = _
    unfold Sup.b48
    simp only [List.append_assoc]
  have l1 := lowL_len (s.turn : Int) 8
  have l2 := lowL_len (s.size : Int) 4
  have d12 : b.drop 12 = lowL (s.turn : Int) 8 ++ (lowL (s.size : Int) 4 ++ (s.hash ++ (List.replicate 8 0 ++ T))) := by rw [hb]; rfl
  have d20 : b.drop 20 = lowL (s.size : Int) 4 ++ (s.hash ++ (List.replicate 8 0 ++ T)) := by
    rw [show (20 : Nat) = 12 + 8 from rfl, ← List.drop_drop, d12]
    exact drop_app _ _ 8 0 l1
  have d24 : b.drop 24 = s.hash ++ (List.replicate 8 0 ++ T) := by
    rw [show (24 : Nat) = 20 + 4 from rfl, ← List.drop_drop, d20]
    exact drop_app _ _ 4 0 l2
  have d40 : b.drop 40 = List.replicate 8 0 ++ T := by
    rw [show (40 : Nat) = 24 + 16 from rfl, ← List.drop_drop, d24]
    exact drop_app _ _ 16 0 h
  refine ⟨by rw [hb]; rfl, by rw [hb]; rfl, by rw [hb]; rfl, ?_, ?_, ?_, ?_, ?_, ?_⟩
  · rw [d12]; exact take_app _ _ 8 l1
  · rw [d20]; exact take_app _ _ 4 l2
  · rw [d24]; exact take_app _ _ 16 h
  · rw [d40]; exact take_app _ _ 8 (by simp)
  · exact take_app _ _ 48 (s.b48_len h)
  · exact drop_app _ _ 48 0 (s.b48_len h)
theorem supOf_blk {s : Sup} (h : s.Ok) : supOf s.blk = s := by
  obtain ⟨_, h2, _, h4, h5, h6, _⟩ := s.parts h.hl (sh16 s.b48)
  have ht := h.t
  have hz := h.z
  unfold supOf Sup.blk
  rw [h2, h4, h5, h6, lowN_lowL 8 _ (by omega) (by rw [show (256 : Int) ^ 8 = 18446744073709551616 from by decide]; omega), lowN_lowL 4 _ (by omega) (by rw [show (256 : Int) ^ 4 = 4294967296 from by decide]; omega)]
  obtain ⟨p, t, z, hh⟩ := s
  simp
theorem right_blk {s : Sup} (h : s.Ok) : rightB s.blk = true := by
  obtain ⟨h1, h2, h3, _, _, _, h7, h8, h9⟩ := s.parts h.hl (sh16 s.b48)
  have hp := h.p
  unfold rightB Sup.blk
  rw [h1, h2, h3, h7, h8, h9]
  simp
  omega
theorem take_split {α : Type} (l : List α) (n m : Nat) : l.drop n = (l.drop n).take m ++ l.drop (n + m) := by
  rw [← List.drop_drop]
  exact (List.take_append_drop m _).symm
theorem right_eq {b : List Int} (hb : BB b) (h : rightB b = true) : (supOf b).Ok ∧ b = (supOf b).blk := by
  unfold rightB at h
  obtain ⟨h1, h2, ⟨h3, h4⟩, h5⟩ := of_decide_eq_true h
  have hl := hb.1
  have hB := hb.2
  have m8 : ((b.drop 12).take 8).length = 8 := by rw [List.length_take, List.length_drop]; omega
  have m4 : ((b.drop 20).take 4).length = 4 := by rw [List.length_take, List.length_drop]; omega
  have m16 : ((b.drop 24).take 16).length = 16 := by rw [List.length_take, List.length_drop]; omega
  have i8 : IsB ((b.drop 12).take 8) := fun x hx => hB x (List.mem_of_mem_drop (List.mem_of_mem_take hx))
  have i4 : IsB ((b.drop 20).take 4) := fun x hx => hB x (List.mem_of_mem_drop (List.mem_of_mem_take hx))
  have i16 : IsB ((b.drop 24).take 16) := fun x hx => hB x (List.mem_of_mem_drop (List.mem_of_mem_take hx))
  have b8 := lowN_bd _ i8
  have b4 := lowN_bd _ i4
  rw [m8] at b8
  rw [m4] at b4
  have e8 : (256 : Int) ^ 8 = 18446744073709551616 := by decide
  have e4 : (256 : Int) ^ 4 = 4294967296 := by decide
  rw [e8] at b8
  rw [e4] at b4
  have g10 : 0 ≤ b.getD 10 0 := by
    rw [List.getD_eq_getElem?_getD, List.getElem?_eq_getElem (by omega)]
    exact (hB _ (List.getElem_mem _)).1
  refine ⟨⟨by show (b.getD 10 0).toNat < 2; omega, by show (lowN _).toNat < _; omega, by show (lowN _).toNat < _; omega, m16, i16⟩, ?_⟩
  have e48 : b.take 48 = (supOf b).b48 := by
    unfold Sup.b48 supOf
    dsimp only
    rw [Int.toNat_of_nonneg g10, Int.toNat_of_nonneg b8.1, Int.toNat_of_nonneg b4.1]
    have r8 := lowL_lowN _ i8
    have r4 := lowL_lowN _ i4
    rw [m8] at r8
    rw [m4] at r4
    rw [r8, r4, ← h1, ← h4]
    have x10 : (b.drop 10).take 2 = [b.getD 10 0, 0] := by
      apply List.ext_getElem
      · rw [List.length_take, List.length_drop]
        simp
        omega
      · intro i h1 h2
        have : i = 0 ∨ i = 1 := by simp at h2; omega
        rcases this with rfl | rfl
        · simp [List.getD_eq_getElem?_getD, hl]
        · have h6 : b[11]'(by omega) = 0 := by
            rw [List.getD_eq_getElem?_getD, List.getElem?_eq_getElem (by omega)] at h3
            exact h3
          simpa using h6
    rw [← x10]
    have s0 := take_split (b.take 48) 0 10
    have s1 := take_split (b.take 48) 10 2
    have s2 := take_split (b.take 48) 12 8
    have s3 := take_split (b.take 48) 20 4
    have s4 := take_split (b.take 48) 24 16
    have s5 := take_split (b.take 48) 40 8
    have s6 : (b.take 48).drop 48 = [] := List.drop_eq_nil_of_le (by rw [List.length_take]; omega)
    rw [List.drop_zero] at s0
    have tk : ∀ n m, n + m ≤ 48 → ((b.take 48).drop n).take m = (b.drop n).take m := by
      intro n m hnm
      rw [List.drop_take, List.take_take]
      congr 1
      omega
    rw [tk 10 2 (by omega)] at s1
    rw [tk 12 8 (by omega)] at s2
    rw [tk 20 4 (by omega)] at s3
    rw [tk 24 16 (by omega)] at s4
    rw [tk 40 8 (by omega), s6, List.append_nil] at s5
    rw [show ((b.take 48).take 10) = b.take 10 from by rw [List.take_take]; rfl] at s0
    rw [s0, s1, s2, s3, s4, s5]
  unfold Sup.blk
  rw [← e48, ← h5]
  exact (List.take_append_drop 48 b).symm
def cntS (b0 b1 : List Int) : Sup × Bool := if rightB b0 = false ∨ (rightB b1 = true ∧ (supOf b0).turn < (supOf b1).turn) then (supOf b1, rightB b1) else (supOf b0, rightB b0)
def chk (L : List Int) (i : Nat) : List Int := ((L.drop (64 * i)).take 64) ++ List.replicate (64 - ((L.drop (64 * i)).take 64).length) 0
theorem chk_len (L : List Int) (i : Nat) : (chk L i).length = 64 := by
  unfold chk
  have : ((L.drop (64 * i)).take 64).length ≤ 64 := by rw [List.length_take]; omega
  rw [List.length_append, List.length_replicate]
  omega
theorem chk_bb {L : List Int} (h : IsB L) (i : Nat) : BB (chk L i) := by
  refine ⟨chk_len L i, fun x hx => ?_⟩
  unfold chk at hx
  rcases List.mem_append.1 hx with hx | hx
  · exact h x (List.mem_of_mem_drop (List.mem_of_mem_take hx))
  · rw [List.eq_of_mem_replicate hx]
    omega
def rows (B : Nat → List Int) (o : Nat) : Nat → List Int
  | 0 => []
  | k + 1 => rows B o k ++ B (o + k)
theorem rows_chk {B : Nat → List Int} {o : Nat} {L : List Int} : ∀ (k : Nat), 64 * k ≤ L.length → (∀ i, i < k → B (o + i) = chk L i) → rows B o k = L.take (64 * k)
  | 0, _, _ => by simp [rows]
  | k + 1, hk, h => by
    rw [rows, rows_chk k (by omega) (fun i hi => h i (by omega)), h k (by omega)]
    unfold chk
    have e : ((L.drop (64 * k)).take 64).length = 64 := by rw [List.length_take, List.length_drop]; omega
    rw [e, Nat.sub_self, List.replicate_zero, List.append_nil, show 64 * (k + 1) = 64 * k + 64 from by omega, List.take_add]
theorem rows_all {B : Nat → List Int} {o : Nat} {L : List Int} (k : Nat) (h1 : L.length ≤ 64 * k) (h2 : 64 * k < L.length + 64) (h : ∀ i, 64 * i < L.length → B (o + i) = chk L i) : (rows B o k).take L.length = L := by
  cases k with
  | zero =>
    have e : L = [] := List.eq_nil_of_length_eq_zero (by omega)
    rw [e]
    rfl
  | succ k =>
    rw [rows, rows_chk k (by omega) (fun i hi => h i (by omega)), h k (by omega)]
    unfold chk
    have e0 : (L.drop (64 * k)).take 64 = L.drop (64 * k) := List.take_of_length_le (by rw [List.length_drop]; omega)
    rw [e0, ← List.append_assoc, List.take_append_drop]
    exact take_app _ _ _ rfl
structure Hs (B : Nat → List Int) (h : Nat) (s : Sup) (L : List Int) : Prop where
  ok : s.Ok
  isB : IsB L
  len : L.length = s.size
  fit : s.size ≤ 64 * h
  hash : s.hash = sh16 L
  sup : B (s.turn % 2) = s.blk
  oth : rightB (B ((s.turn + 1) % 2)) = true → (supOf (B ((s.turn + 1) % 2))).turn < s.turn
  dat : ∀ i, 64 * i < s.size → B (2 + s.place * h + i) = chk L i
theorem Hs.cnt {B : Nat → List Int} {h : Nat} {s : Sup} {L : List Int} (k : Hs B h s L) : cntS (B 0) (B 1) = (s, true) := by
  have e1 := supOf_blk k.ok
  have e2 := right_blk k.ok
  have hs := k.sup
  have ho := k.oth
  rcases Nat.mod_two_eq_zero_or_one s.turn with h0 | h0
  · have h1 : (s.turn + 1) % 2 = 1 := by omega
    rw [h0] at hs
    rw [h1] at ho
    unfold cntS
    rw [hs, e1, e2, if_neg]
    rintro (h | ⟨h, h2⟩)
    · cases h
    · have := ho h
      omega
  · have h1 : (s.turn + 1) % 2 = 0 := by omega
    rw [h0] at hs
    rw [h1] at ho
    unfold cntS
    rw [hs, e1, e2, if_pos]
    cases hr : rightB (B 0) with
    | false => exact .inl rfl
    | true => exact .inr ⟨rfl, ho hr⟩
theorem Hs.keep {B C : Nat → List Int} {h : Nat} {s : Sup} {L : List Int} (k : Hs B h s L) (h0 : C 0 = B 0) (h1 : C 1 = B 1) (hd : ∀ i, 64 * i < s.size → C (2 + s.place * h + i) = B (2 + s.place * h + i)) : Hs C h s L := by
  have e : ∀ n, n % 2 < 2 := fun n => Nat.mod_lt _ (by omega)
  have hc : ∀ n, C (n % 2) = B (n % 2) := fun n => by
    rcases Nat.mod_two_eq_zero_or_one n with h | h <;> rw [h] <;> assumption
  exact ⟨k.ok, k.isB, k.len, k.fit, k.hash, by rw [hc]; exact k.sup, by rw [hc]; exact k.oth, fun i hi => (hd i hi).trans (k.dat i hi)⟩
def Sup.next (s : Sup) (M : List Int) : Sup := ⟨1 - s.place, s.turn + 1, M.length, sh16 M⟩
theorem Sup.next_is (s : Sup) (M : List Int) : (s.next M).turn = s.turn + 1 ∧ (s.next M).size = M.length ∧ (s.next M).place = 1 - s.place ∧ (s.next M).hash = sh16 M := by
  simp only [Sup.next, and_self]
theorem Sup.next_ok {s : Sup} (k : s.Ok) (M : List Int) (hM : M.length < 4294967296) (ht : s.turn + 1 < 18446744073709551616) (hb : IsB (sumL M)) : (s.next M).Ok := by
  obtain ⟨e1, e2, e3, e4⟩ := s.next_is M
  generalize s.next M = x at *
  have hp : x.place < 2 := by omega
  rw [← e1] at ht
  rw [← e2] at hM
  have h1 : x.hash.length = 16 := by rw [e4]; exact sh16_len M
  have h2 : IsB x.hash := by rw [e4]; exact sh16_isB M hb
  exact ⟨hp, ht, hM, h1, h2⟩
theorem Hs.next {B C : Nat → List Int} {h : Nat} {s : Sup} {L M : List Int} (k : Hs B h s L) (hM : IsB M) (hf : M.length ≤ 64 * h) (hok : (s.next M).Ok) (h0 : C ((s.turn + 1) % 2) = (s.next M).blk) (h1 : C (s.turn % 2) = B (s.turn % 2)) (hd : ∀ i, 64 * i < M.length → C (2 + (1 - s.place) * h + i) = chk M i) : Hs C h (s.next M) M := by
  obtain ⟨e1, e2, e3, e4⟩ := s.next_is M
  have e5 := supOf_blk k.ok
  have e6 := k.sup
  have e : (s.turn + 1 + 1) % 2 = s.turn % 2 := by omega
  generalize s.next M = x at *
  rw [← e2] at hf hd
  rw [← e3] at hd
  rw [← e1] at h0
  refine ⟨hok, hM, e2.symm, hf, e4, h0, ?_, hd⟩
  rw [e1, e, h1, e6, e5]
  exact fun _ => Nat.lt_succ_self _
theorem sumL_isB (B : List Int) : IsB (sumL B) := keyL_isB _
structure Lb (w : World) (a : Option Addr) (n c : Nat) (P : List Int) : Prop where
  len : P.length = n
  isB : IsB P
  sl : Sl w a P
  cap : n ≤ c
  max : c < 9223372036854775808
theorem Lb.gr {w v : World} {a : Option Addr} {n c : Nat} {P : List Int} (h : Lb w a n c P) (k : Gr w v) : Lb v a n c P := ⟨h.len, h.isB, h.sl.gr k, h.cap, h.max⟩
theorem Lb.nil (w : World) : Lb w none 0 0 [] := ⟨rfl, (by intro x hx; cases hx), .inl rfl, by omega, by omega⟩
def Infd (L : List Int) (w : World) (r : Ending) (w' : World) : Prop := ∃ v, r = .returned v ∧ Ob w.heap.size w' v L ∧ Gr w w'
theorem lowL_snoc (x : Int) (k : Nat) : lowL x (k + 1) = lowL x k ++ [x / 256 ^ k % 256] := by
  induction k generalizing x with
  | zero => simp [lowL]
  | succ k ih =>
    have e : x / 256 / 256 ^ k = x / 256 ^ (k + 1) := by rw [Int.pow_succ, Int.mul_comm, Int.ediv_ediv_of_nonneg (by omega)]
    rw [lowL, ih, lowL, List.cons_append, e]
theorem ob_base {b c : Nat} {w : World} {v : Value} {L : List Int} (h : Ob b w v L) (hc : c ≤ b) : Ob c w v L := by
  refine ⟨h.1, ?_⟩
  rcases h.2 with h1 | ⟨g, cap, cur, h1, h2, h3⟩
  · exact .inl h1
  · exact .inr ⟨g, cap, cur, h1, Nat.le_trans hc h2, h3⟩
theorem Tryz.infoKy : (Tryz.prog.info? 124).map (·.size) = some 32 := by kernel_rfl
theorem exec_const {op : Oper} {a : Act} (w : World) (x : Operand) (ho : op.op = .convert 33 33 x) (C : Array Value) (n c : Nat) (hx : a.eval x = .slice (some ⟨w.heap.size, 0, none⟩) n c) :
    (execOp a.eval op).run Tryz.prog (w.alloc (.cells C 5 (0, 0))) = .ok (.value (.slice (some ⟨w.heap.size, 0, none⟩) n c)) (w.alloc (.cells C 5 (C.size, C.size + 1))) := by
  have h := Lib.run_convert_bytes_const (P := Tryz.prog) w 33 5 C n c Tryz.underlying33 Tryz.underlying5
  unfold execOp
  simp only [ho, hx, Sem.run_bind, h, Result.andThen_ok, Sem.run_pure]
theorem htr_isB : IsB htr := by intro x hx; unfold htr at hx; simp at hx; omega
def lenOf : Value → Nat
  | .slice _ n _ => n
  | _ => 0
theorem sp_whole (C L : List Value) (h : C.length = L.length) : sp C 0 L = L := by
  apply List.ext_getElem?
  intro i
  rw [sp_get L C 0 i (by omega)]
  by_cases hi : i < L.length
  · rw [if_pos ⟨Nat.zero_le _, by omega⟩, Nat.sub_zero]
  · rw [if_neg (by omega), List.getElem?_eq_none (by omega), List.getElem?_eq_none (by omega)]
theorem Bl.grownB {w v v' : World} {L : List Blk} (h : Bl w L v) {x : Value} {R : List Int} (ho : Ob w.heap.size v x R) (g : v.grownBy v' x.ownBlock) (ht : ∀ y ∈ L, y.t ≠ 5) : Bl w L v' := by
  refine ⟨ho.grown (Nat.le_refl _) h.gr g, fun y hy => ⟨?_, (h.at_ y hy).2⟩, h.ne⟩
  have h1 := (h.at_ y hy).1
  rw [g.block y.g (lt_of_block h1) ?_]
  · exact h1
  · intro e2
    rcases ho.2 with ⟨rfl, _⟩ | ⟨p, cap, cur, rfl, _, h4, _⟩
    · simp [Value.ownBlock] at e2
    · have e3 : y.g = p := by simpa [Value.ownBlock] using e2
      rw [e3, h4] at h1
      have := Option.some.inj h1
      unfold Blk.obj at this
      injection this with _ h6 _
      exact ht y hy h6.symm
theorem ob_lb {b : Nat} {w : World} {v : Value} {L : List Int} (h : Ob b w v L) (hb : IsB L) {n : Nat} (hn : L.length = n) : ∃ a c, v = .slice a n c ∧ Lb w a n c L := by
  obtain ⟨a, c, h1, h2, h3, h4⟩ := h.slice
  subst hn
  exact ⟨a, c, h1, rfl, hb, h4, h2, by unfold maxLen at h3; omega⟩
theorem nw_lb {w : World} {g n : Nat} {L : List Int} (h : w.heap[g]? = some (.cells (kc L) 5 (0, 0))) (hb : IsB L) (hn : L.length = n) (hs : n < 9223372036854775808) : Lb w (some ⟨g, 0, none⟩) n n L := ⟨hn, hb, .inr ⟨g, 0, rfl, kc_at h⟩, Nat.le_refl _, hs⟩
theorem isB_app {A B : List Int} (ha : IsB A) (hb : IsB B) : IsB (A ++ B) := fun x hx => (List.mem_append.1 hx).elim (ha x) (hb x)
theorem isB_rep (n : Nat) : IsB (List.replicate n 0) := fun x hx => by rw [List.eq_of_mem_replicate hx]; omega
theorem sub_lb {v : World} {g : Nat} {b : List Int} {t : TypeId} (h : v.heap[g]? = some (.cells (kc b) t (0, 0))) (hb : IsB b) (o n c : Nat) (hon : o + n ≤ b.length) (hc : n ≤ c) (hm : c < 9223372036854775808) : Lb v (some ⟨g, o, none⟩) n c ((b.drop o).take n) := by
  refine ⟨by rw [List.length_take, List.length_drop]; omega, fun x hx => hb x (List.mem_of_mem_drop (List.mem_of_mem_take hx)), .inr ⟨g, o, rfl, fun j hj => ?_⟩, hc, hm⟩
  rw [List.length_take, List.length_drop] at hj
  rw [kc_cell h (o + j) (by omega), List.getD_eq_getElem?_getD, List.getD_eq_getElem?_getD, List.getElem?_take, if_pos (by omega), List.getElem?_drop]
theorem byte_mem {b : List Int} (hb : IsB b) (i : Nat) : 0 ≤ b.getD i 0 ∧ b.getD i 0 < 256 := by
  rw [List.getD_eq_getElem?_getD]
  by_cases h : i < b.length
  · rw [List.getElem?_eq_getElem h]
    exact hb _ (List.getElem_mem _)
  · rw [List.getElem?_eq_none (by omega)]
    exact ⟨by decide, by decide⟩
theorem sup_nums {b : List Int} (hb : BB b) : ((supOf b).place : Int) = b.getD 10 0 ∧ ((supOf b).turn : Int) = lowN ((b.drop 12).take 8) ∧ ((supOf b).size : Int) = lowN ((b.drop 20).take 4) ∧ (supOf b).hash = (b.drop 24).take 16 ∧ 0 ≤ lowN ((b.drop 12).take 8) ∧ lowN ((b.drop 12).take 8) < 18446744073709551616 ∧ 0 ≤ lowN ((b.drop 20).take 4) ∧ lowN ((b.drop 20).take 4) < 4294967296 := by
  have hl := hb.1
  have i8 : IsB ((b.drop 12).take 8) := fun x hx => hb.2 x (List.mem_of_mem_drop (List.mem_of_mem_take hx))
  have i4 : IsB ((b.drop 20).take 4) := fun x hx => hb.2 x (List.mem_of_mem_drop (List.mem_of_mem_take hx))
  have b8 := lowN_bd _ i8
  have b4 := lowN_bd _ i4
  rw [show ((b.drop 12).take 8).length = 8 from by rw [List.length_take, List.length_drop]; omega, show (256 : Int) ^ 8 = 18446744073709551616 from by decide] at b8
  rw [show ((b.drop 20).take 4).length = 4 from by rw [List.length_take, List.length_drop]; omega, show (256 : Int) ^ 4 = 4294967296 from by decide] at b4
  have h10 := byte_mem hb.2 10
  exact ⟨Int.toNat_of_nonneg h10.1, Int.toNat_of_nonneg b8.1, Int.toNat_of_nonneg b4.1, rfl, b8.1, b8.2, b4.1, b4.2⟩
section
variable {P : Program} {md : Region.Mode} {ops : Array Oper} {Q : Exit → Act → World → Prop} {S : World → Prop}
end
theorem exec_u64 {op : Oper} {a : Act} (w : World) (x : Operand) (ho : op.op = .load 43 x) (g i : Nat) (hx : a.eval x = .pointer (some ⟨g, i, none⟩)) (v : Int) (hc : w.cell? ⟨g, i, none⟩ = some (.int .u64 v)) : (execOp a.eval op).run Tryz.prog w = .ok (.value (.int .u64 v)) w := by
  unfold execOp
  simp only [ho, hx, Instr.loadAt, Instr.sureAddr, Sem.run_bind, Sem.run_pure, Result.andThen_ok]
  go_simp
theorem cnt_ok {b0 b1 : List Int} (h0 : BB b0) (h1 : BB b1) : (cntS b0 b1).1.size < 4294967296 ∧ (cntS b0 b1).1.hash.length = 16 ∧ IsB (cntS b0 b1).1.hash ∧ ((cntS b0 b1).2 = true → (cntS b0 b1).1.place < 2) := by
  have f : ∀ b, BB b → (supOf b).size < 4294967296 ∧ (supOf b).hash.length = 16 ∧ IsB (supOf b).hash ∧ (rightB b = true → (supOf b).place < 2) := by
    intro b hb
    obtain ⟨_, _, h3, h4, _, _, _, h8⟩ := sup_nums hb
    have hl := hb.1
    refine ⟨by omega, by rw [h4, List.length_take, List.length_drop]; omega, by rw [h4]; exact fun x hx => hb.2 x (List.mem_of_mem_drop (List.mem_of_mem_take hx)), fun h => (right_eq hb h).1.p⟩
  unfold cntS
  split
  · exact f b1 h1
  · exact f b0 h0
theorem rows_len {B : Nat → List Int} {o : Nat} : ∀ (k : Nat), (∀ i, i < k → BB (B (o + i))) → (rows B o k).length = 64 * k ∧ IsB (rows B o k)
  | 0, _ => ⟨rfl, fun x hx => by cases hx⟩
  | k + 1, h => by
    obtain ⟨h1, h2⟩ := rows_len k (fun i hi => h i (by omega))
    have h3 := h k (by omega)
    refine ⟨by rw [rows, List.length_append, h1, h3.1]; omega, ?_⟩
    rw [rows]
    exact isB_app h2 h3.2
theorem exec_sby {op : Oper} {a : Act} (w : World) (x : Operand) (ho : op.op = .load 33 x) (g i : Nat) (hx : a.eval x = .pointer (some ⟨g, i, none⟩)) (s : Option Addr) (n c : Nat) (hc : w.cell? ⟨g, i, none⟩ = some (.slice s n c)) : (execOp a.eval op).run Tryz.prog w = .ok (.value (.slice s n c)) w := by
  unfold execOp
  simp only [ho, hx, Instr.loadAt, Instr.sureAddr, Sem.run_bind, Sem.run_pure, Result.andThen_ok]
  go_simp
theorem Lb.pre {w : World} {a : Option Addr} {n c : Nat} {P : List Int} (h : Lb w a n c P) (m : Nat) (hm : m ≤ n) : Lb w a m c (P.take m) := by
  have h1 := h.len
  have h2 := h.cap
  refine ⟨by rw [List.length_take]; omega, fun x hx => h.isB x (List.mem_of_mem_take hx), ?_, by omega, h.max⟩
  rcases h.sl with h3 | ⟨p, o, h3, h4⟩
  · left; rw [h3]; exact List.take_nil
  · right; exact ⟨p, o, h3, h4.take m⟩
def Dk.step (D : Dk) : Option (Nat × List Int) → Dk × Int
  | none => (D.syncD, D.syncE)
  | some x => (D.writeD (x.1 : Int) x.2, D.writeE (x.1 : Int))
def Dk.runD : List (Option (Nat × List Int)) → Dk → Dk × Int
  | [], D => (D, 0)
  | o :: r, D => if (D.step o).2 = 0 then Dk.runD r (D.step o).1 else D.step o
theorem run_app : ∀ (a b : List (Option (Nat × List Int))) (D : Dk), Dk.runD (a ++ b) D = if (Dk.runD a D).2 = 0 then Dk.runD b (Dk.runD a D).1 else Dk.runD a D
  | [], b, D => by simp [Dk.runD]
  | o :: r, b, D => by
    rw [List.cons_append, Dk.runD, Dk.runD]
    by_cases h : (D.step o).2 = 0
    · rw [if_pos h, if_pos h]
      exact run_app r b _
    · rw [if_neg h, if_neg h, if_neg h]
theorem step_write {D : Dk} (hd : D.dead = false) (x : Nat × List Int) (hx : x.1 < D.safe.length) (hl : D.left ≠ 0) : (D.step (some x)).2 = 0 ∧ (D.step (some x)).1.dead = false ∧ (D.step (some x)).1.safe = D.safe ∧ (D.step (some x)).1.pend = D.pend ++ [x] ∧ (D.step (some x)).1.left = (if 0 < D.left then D.left - 1 else D.left) ∧ (D.step (some x)).1.ops = D.ops + 1 := by
  have hh : D.has (x.1 : Int) := ⟨by omega, by omega⟩
  simp only [Dk.step, Dk.writeE, Dk.writeD]
  rw [hd]
  simp only [Bool.false_eq_true, if_false, if_pos hh, if_neg hl]
  unfold Dk.doneD
  rw [if_neg hl]
  refine ⟨trivial, hd, rfl, ?_, rfl, rfl⟩
  show D.pend ++ [((x.1 : Int).toNat, x.2)] = _
  rw [Int.toNat_natCast]
theorem step_write_off {D : Dk} (hd : D.dead = false) (x : Nat × List Int) (hx : x.1 < D.safe.length) (hl : D.left = 0) : (D.step (some x)).2 = 7 ∧ (D.step (some x)).1.dead = true ∧ (D.step (some x)).1.safe = D.safe ∧ (D.step (some x)).1.pend = D.pend := by
  have hh : D.has (x.1 : Int) := ⟨by omega, by omega⟩
  simp only [Dk.step, Dk.writeE, Dk.writeD]
  rw [hd]
  simp only [Bool.false_eq_true, if_false, if_pos hh, if_pos hl]
  unfold Dk.doneD
  rw [if_pos hl]
  exact ⟨trivial, rfl, rfl, rfl⟩
theorem step_sync {D : Dk} (hd : D.dead = false) (hl : D.left ≠ 0) : (D.step none).2 = 0 ∧ (D.step none).1.dead = false ∧ (D.step none).1.safe.length = D.safe.length ∧ (D.step none).1.pend = [] ∧ (D.step none).1.left = (if 0 < D.left then D.left - 1 else D.left) ∧ (D.step none).1.ops = D.ops + 1 := by
  simp only [Dk.step, Dk.syncE, Dk.syncD]
  rw [hd]
  simp only [Bool.false_eq_true, if_false, if_neg hl]
  refine ⟨trivial, ?_, ?_, rfl, ?_, ?_⟩
  · show D.doneD.dead = false
    unfold Dk.doneD
    rw [if_neg hl]
    exact hd
  · show (liv D.doneD.safe D.doneD.pend _ _).length = _
    rw [liv_len]
    unfold Dk.doneD
    rw [if_neg hl]
  · show D.doneD.left = _
    unfold Dk.doneD
    rw [if_neg hl]
  · show D.doneD.ops = _
    unfold Dk.doneD
    rw [if_neg hl]
theorem step_sync_off {D : Dk} (hd : D.dead = false) (hl : D.left = 0) : (D.step none).2 = 7 ∧ (D.step none).1.dead = true ∧ (D.step none).1.safe = D.safe ∧ (D.step none).1.pend = D.pend := by
  simp only [Dk.step, Dk.syncE, Dk.syncD]
  rw [hd]
  simp only [Bool.false_eq_true, if_false, if_pos hl]
  unfold Dk.doneD
  rw [if_pos hl]
  exact ⟨trivial, rfl, rfl, rfl⟩
structure Went (D E : Dk) (k : Nat) : Prop where
  dead : E.dead = false
  len : E.safe.length = D.safe.length
  left : D.left < 0 → E.left = D.left
  lo : -1 ≤ E.left
  ops : E.ops = D.ops + k
theorem run_writes : ∀ (X : List (Nat × List Int)) (D : Dk), D.dead = false → (∀ x ∈ X, x.1 < D.safe.length) → -1 ≤ D.left →
    ((Dk.runD (X.map some) D).2 = 0 ∧ Went D (Dk.runD (X.map some) D).1 X.length ∧ (Dk.runD (X.map some) D).1.safe = D.safe ∧ (Dk.runD (X.map some) D).1.pend = D.pend ++ X) ∨
    (0 ≤ D.left ∧ (Dk.runD (X.map some) D).2 = 7 ∧ (Dk.runD (X.map some) D).1.dead = true ∧ (Dk.runD (X.map some) D).1.safe = D.safe ∧ ∃ k, (Dk.runD (X.map some) D).1.pend = D.pend ++ X.take k)
  | [], D, hd, _, hl => .inl ⟨rfl, ⟨hd, rfl, fun _ => rfl, hl, rfl⟩, rfl, (List.append_nil _).symm⟩
  | x :: r, D, hd, hX, hl => by
    have hx := hX x List.mem_cons_self
    rw [List.map_cons, Dk.runD]
    by_cases h0 : D.left = 0
    · obtain ⟨e1, e2, e3, e4⟩ := step_write_off hd x hx h0
      right
      rw [if_neg (by rw [e1]; decide)]
      exact ⟨by omega, e1, e2, e3, 0, by rw [e4, List.take_zero, List.append_nil]⟩
    · obtain ⟨e1, e2, e3, e4, e5, e6⟩ := step_write hd x hx h0
      rw [if_pos e1]
      have hl2 : -1 ≤ (D.step (some x)).1.left := by rw [e5]; split <;> omega
      rcases run_writes r (D.step (some x)).1 e2 (fun y hy => by rw [e3]; exact hX y (List.mem_cons_of_mem _ hy)) hl2 with ⟨f1, f2, f3, f4⟩ | ⟨f0, f1, f2, f3, k, f4⟩
      · left
        refine ⟨f1, ⟨f2.dead, by rw [f2.len, e3], fun h => ?_, f2.lo, by rw [f2.ops, e6, List.length_cons]; omega⟩, by rw [f3, e3], by rw [f4, e4, List.append_assoc]; rfl⟩
        rw [f2.left (by rw [e5, if_neg (by omega)]; exact h), e5, if_neg (by omega)]
      · right
        refine ⟨?_, f1, f2, by rw [f3, e3], k + 1, by rw [f4, e4, List.append_assoc]; rfl⟩
        rw [e5] at f0
        split at f0 <;> omega
def wrs (o : Nat) (M : List Int) (k : Nat) : List (Nat × List Int) := (List.range k).map fun i => (o + i, chk M i)
theorem wrs_succ (o : Nat) (M : List Int) (k : Nat) : wrs o M (k + 1) = wrs o M k ++ [(o + k, chk M k)] := by unfold wrs; rw [List.range_succ, List.map_append]; rfl
theorem wrs_mem {o : Nat} {M : List Int} {k : Nat} {x : Nat × List Int} (h : x ∈ wrs o M k) : o ≤ x.1 ∧ x.1 < o + k := by
  unfold wrs at h
  obtain ⟨i, hi, rfl⟩ := List.mem_map.1 h
  rw [List.mem_range] at hi
  dsimp only
  omega
theorem wrs_len (o : Nat) (M : List Int) (k : Nat) : (wrs o M k).length = k := by unfold wrs; simp
theorem wrs_cur (S : List (List Int)) (P : List (Nat × List Int)) (o : Nat) (M : List Int) (j : Nat) : ∀ k, curL S (P ++ wrs o M k) j (P ++ wrs o M k).length = if o ≤ j ∧ j < o + k then chk M (j - o) else curL S P j P.length
  | 0 => by rw [if_neg (by omega), show wrs o M 0 = [] from rfl, List.append_nil]
  | k + 1 => by
    rw [wrs_succ, ← List.append_assoc, curL_snoc, wrs_cur S P o M j k]
    dsimp only
    by_cases h : o + k = j
    · rw [if_pos h, if_pos (by omega)]
      congr 1
      omega
    · rw [if_neg h]
      by_cases h2 : o ≤ j ∧ j < o + k
      · rw [if_pos h2, if_pos (by omega)]
      · rw [if_neg h2, if_neg (by omega)]
theorem curL_none (S : List (List Int)) (P : List (Nat × List Int)) (j : Nat) (h : ∀ x ∈ P, x.1 ≠ j) : ∀ k, k ≤ P.length → curL S P j k = S.getD j []
  | 0, _ => rfl
  | k + 1, hk => by
    rw [curL, if_neg (h _ (mem_of_getD (by omega)))]
    exact curL_none S P j h k (by omega)
theorem cur_none {D : Dk} {j : Nat} (h : ∀ x ∈ D.pend, x.1 ≠ j) : D.cur j = D.safe.getD j [] := curL_none _ _ _ h _ (Nat.le_refl _)
theorem crash_cur (D : Dk) (keep : List Bool) (j : Nat) : (D.crashD keep).cur j = (liv D.safe D.pend keep D.pend.length).getD j [] := rfl
theorem crash_none {D : Dk} (hP : ∀ x ∈ D.pend, x.1 < D.safe.length) (keep : List Bool) {j : Nat} (h : ∀ x ∈ D.pend, x.1 ≠ j) : (D.crashD keep).cur j = D.safe.getD j [] := by
  rw [crash_cur]
  rcases liv_pick D.safe D.pend keep hP j D.pend.length (Nat.le_refl _) with h1 | ⟨k, h1, h2, _⟩
  · exact h1
  · exact absurd h2 (h _ (mem_of_getD h1))
def takeOps (s : Sup) (h : Nat) (M : List Int) : List (Option (Nat × List Int)) := (wrs (2 + (1 - s.place) * h) M ((M.length + 63) / 64)).map some ++ [none, some ((s.turn + 1) % 2, (s.next M).blk), none]
set_option maxHeartbeats 400000 in
theorem take_run {D : Dk} {h : Nat} {s : Sup} {L M : List Int} (hd : D.dead = false) (hl : -1 ≤ D.left) (hn : 2 + 2 * h ≤ D.safe.length) (hp : ∀ x ∈ D.pend, 2 + 2 * h ≤ x.1 ∧ x.1 < D.safe.length) (k : Hs D.cur h s L) (hM : IsB M) (hf : M.length ≤ 64 * h) (hok : (s.next M).Ok) :
    ((Dk.runD (takeOps s h M) D).2 = 0 ∧ Went D (Dk.runD (takeOps s h M) D).1 ((M.length + 63) / 64 + 3) ∧ (Dk.runD (takeOps s h M) D).1.pend = [] ∧ Hs (Dk.runD (takeOps s h M) D).1.cur h (s.next M) M ∧ ∀ j, 2 + 2 * h ≤ j → (Dk.runD (takeOps s h M) D).1.cur j = D.cur j) ∨
    (0 ≤ D.left ∧ (Dk.runD (takeOps s h M) D).2 = 7 ∧ (Dk.runD (takeOps s h M) D).1.dead = true ∧ ∀ keep, Hs ((Dk.runD (takeOps s h M) D).1.crashD keep).cur h s L ∨ Hs ((Dk.runD (takeOps s h M) D).1.crashD keep).cur h (s.next M) M) := by
  obtain ⟨e1, e2, e3, e4⟩ := s.next_is M
  have hp2 := k.ok.p
  have hfit := k.fit
  generalize hbk : (s.next M).blk = bk at *
  obtain ⟨K, hK⟩ : ∃ K, K = (M.length + 63) / 64 := ⟨_, rfl⟩
  have hKh : K ≤ h := by omega
  obtain ⟨o, ho⟩ : ∃ o, o = 2 + (1 - s.place) * h := ⟨_, rfl⟩
  obtain ⟨q, hq⟩ : ∃ q, q = (s.turn + 1) % 2 := ⟨_, rfl⟩
  have hq2 : q < 2 := by omega
  have hpl : s.place = 0 ∨ s.place = 1 := by omega
  have hold : ∀ i, 64 * i < s.size → ¬ (o ≤ 2 + s.place * h + i ∧ 2 + s.place * h + i < o + K) ∧ 2 + s.place * h + i < 2 + 2 * h := by
    intro i hi
    rcases hpl with e | e <;> rw [e] at ho ⊢ <;> simp only [Nat.sub_zero, Nat.sub_self, Nat.zero_mul, Nat.one_mul, Nat.add_zero] at ho ⊢ <;> omega
  have ho2 : 2 ≤ o ∧ o + K ≤ 2 + 2 * h := by
    rcases hpl with e | e <;> rw [e] at ho <;> simp only [Nat.sub_zero, Nat.sub_self, Nat.zero_mul, Nat.one_mul, Nat.add_zero] at ho <;> omega
  have htk : takeOps s h M = (wrs o M K).map some ++ [none, some (q, bk), none] := by unfold takeOps; rw [hbk, hK, ho, hq]
  rw [htk, run_app]
  have cut1 : ∀ (E : Dk), E.safe = D.safe → (∃ m, E.pend = D.pend ++ (wrs o M K).take m) → ∀ keep, Hs (E.crashD keep).cur h s L := by
    rintro E hs ⟨m, hpe⟩ keep
    have hm : ∀ x ∈ E.pend, x ∈ D.pend ∨ x ∈ wrs o M K := by
      intro x hx
      rw [hpe] at hx
      exact (List.mem_append.1 hx).imp id List.mem_of_mem_take
    have hr : ∀ x ∈ E.pend, x.1 < E.safe.length := by
      intro x hx
      rw [hs]
      rcases hm x hx with hx | hx
      · exact (hp x hx).2
      · have := wrs_mem hx; omega
    have hc : ∀ j, j < 2 + 2 * h → ¬ (o ≤ j ∧ j < o + K) → (E.crashD keep).cur j = D.cur j := by
      intro j hj hj2
      rw [crash_none hr keep, cur_none, hs]
      · intro x hx e
        have := (hp x hx).1
        omega
      · intro x hx e
        rcases hm x hx with hx | hx
        · have := (hp x hx).1; omega
        · have := wrs_mem hx; omega
    exact k.keep (hc 0 (by omega) (by omega)) (hc 1 (by omega) (by omega)) (fun i hi => hc _ (hold i hi).2 (hold i hi).1)
  rcases run_writes (wrs o M K) D hd (fun x hx => by have := wrs_mem hx; omega) hl with ⟨f1, f2, f3, f4⟩ | ⟨f0, f1, f2, f3, m, f4⟩
  case inr =>
    right
    rw [if_neg (by rw [f1]; decide)]
    exact ⟨f0, f1, f2, fun keep => .inl (cut1 _ f3 ⟨m, f4⟩ keep)⟩
  rw [if_pos f1]
  have c1 : ∀ j, (Dk.runD ((wrs o M K).map some) D).1.cur j = if o ≤ j ∧ j < o + K then chk M (j - o) else D.cur j := by
    intro j
    unfold Dk.cur
    rw [f3, f4]
    exact wrs_cur _ _ _ _ _ _
  rw [wrs_len] at f2
  generalize (Dk.runD ((wrs o M K).map some) D).1 = D1 at *
  have hr1 : ∀ x ∈ D1.pend, x.1 < D1.safe.length := by
    intro x hx
    rw [f3]
    rw [f4] at hx
    rcases List.mem_append.1 hx with hx | hx
    · exact (hp x hx).2
    · have := wrs_mem hx; omega
  have cut2 := cut1 D1 f3 ⟨K, by rw [f4, List.take_of_length_le (by rw [wrs_len]; omega)]⟩
  rw [Dk.runD]
  by_cases h1 : D1.left = 0
  · obtain ⟨g1, g2, g3, g4⟩ := step_sync_off f2.dead h1
    right
    rw [if_neg (by rw [g1]; decide)]
    refine ⟨by have := f2.left; omega, g1, g2, fun keep => .inl ?_⟩
    exact cut1 _ (by rw [g3, f3]) ⟨K, by rw [g4, f4, List.take_of_length_le (by rw [wrs_len]; omega)]⟩ keep
  obtain ⟨g1, g2, g3, g4, g5, g6⟩ := step_sync f2.dead h1
  rw [if_pos g1]
  have c2 : ∀ j, (D1.step none).1.cur j = if o ≤ j ∧ j < o + K then chk M (j - o) else D.cur j := fun j => (Dk.sync_cur f2.dead h1 hr1 j).trans (c1 j)
  generalize (D1.step none).1 = D2 at *
  clear cut2 cut1 c1 hr1
  have l2 : D.left < 0 → D2.left = D.left := by
    intro e
    have := f2.left e
    rw [g5, if_neg (by omega)]
    exact this
  have m2 : -1 ≤ D2.left := by have := f2.lo; rw [g5]; split <;> omega
  have n2 : D2.safe.length = D.safe.length := g3.trans f2.len
  have s2 : ∀ j, D2.safe.getD j [] = D2.cur j := fun j => (cur_none (D := D2) (j := j) (by rw [g4]; intro x hx; cases hx)).symm
  have kold : ∀ (C : Nat → List Int), (∀ j, j < 2 + 2 * h → C j = D2.cur j) → Hs C h s L := by
    intro C hC
    refine k.keep ?_ ?_ (fun i hi => ?_)
    · rw [hC 0 (by omega), c2, if_neg (by omega)]
    · rw [hC 1 (by omega), c2, if_neg (by omega)]
    · rw [hC _ (hold i hi).2, c2, if_neg (hold i hi).1]
  have knew : ∀ (C : Nat → List Int), C q = bk → (∀ j, j ≠ q → j < 2 + 2 * h → C j = D2.cur j) → Hs C h (s.next M) M := by
    intro C hCq hC
    refine k.next hM hf hok (by rw [← hq, hbk]; exact hCq) ?_ (fun i hi => ?_)
    · rw [hC _ (by omega) (by omega), c2, if_neg (by omega)]
    · rw [← ho, hC _ (by omega) (by omega), c2, if_pos (by omega), show o + i - o = i from by omega]
  rw [Dk.runD]
  have hq3 : q < D2.safe.length := by omega
  by_cases h2 : D2.left = 0
  · obtain ⟨i1, i2, i3, i4⟩ := step_write_off g2 (q, bk) hq3 h2
    right
    rw [if_neg (by rw [i1]; decide)]
    refine ⟨by omega, i1, i2, fun keep => .inl (kold _ fun j hj => ?_)⟩
    rw [crash_none (by rw [i4, g4]; intro x hx; cases hx) keep (by rw [i4, g4]; intro x hx; cases hx), i3]
    exact s2 j
  obtain ⟨i1, i2, i3, i4, i5, i6⟩ := step_write g2 (q, bk) hq3 h2
  rw [if_pos i1]
  rw [g4, List.nil_append] at i4
  have c3 : ∀ j, (D2.step (some (q, bk))).1.cur j = if q = j then bk else D2.cur j := by
    intro j
    have hx := Dk.write_cur g2 h2 (q : Int) ⟨by omega, by omega⟩ bk j
    rw [Int.toNat_natCast] at hx
    exact hx
  generalize (D2.step (some (q, bk))).1 = D3 at *
  rw [Dk.runD]
  have hr3 : ∀ x ∈ D3.pend, x.1 < D3.safe.length := by
    intro x hx
    rw [i4, List.mem_singleton] at hx
    rw [hx, i3]
    exact hq3
  by_cases h3 : D3.left = 0
  · obtain ⟨j1, j2, j3, j4⟩ := step_sync_off i2 h3
    right
    rw [if_neg (by rw [j1]; decide)]
    refine ⟨?_, j1, j2, fun keep => ?_⟩
    · rw [i5] at h3
      split at h3 <;> omega
    · generalize (D3.step none).1 = E at *
      have hrE : ∀ x ∈ E.pend, x.1 < E.safe.length := by rw [j3, j4]; exact hr3
      have hoth : ∀ j, j ≠ q → (E.crashD keep).cur j = D2.cur j := by
        intro j hj
        rw [crash_none hrE keep, j3, i3, s2]
        intro x hx
        rw [j4, i4, List.mem_singleton] at hx
        rw [hx]
        exact fun e => hj e.symm
      have hself : (E.crashD keep).cur q = D2.cur q ∨ (E.crashD keep).cur q = bk := by
        rw [crash_cur]
        rcases liv_pick E.safe E.pend keep hrE q E.pend.length (Nat.le_refl _) with h1 | ⟨i, h1, h2, h3⟩
        · left
          rw [h1, j3, i3, s2]
        · right
          rw [h3]
          have hx : E.pend.getD i (0, []) ∈ E.pend := mem_of_getD h1
          rw [j4, i4] at hx
          rw [List.mem_singleton] at hx
          rw [j4, i4, hx]
      rcases hself with h1 | h1
      · left
        refine kold _ fun j _ => ?_
        by_cases hj : j = q
        · rw [hj]; exact h1
        · exact hoth j hj
      · right
        exact knew _ h1 (fun j hj _ => hoth j hj)
  obtain ⟨j1, j2, j3, j4, j5, j6⟩ := step_sync i2 h3
  have c4 : ∀ j, (D3.step none).1.cur j = if q = j then bk else D2.cur j := fun j => (Dk.sync_cur i2 h3 hr3 j).trans (c3 j)
  rw [if_pos j1, Dk.runD]
  generalize (D3.step none).1 = D4 at *
  left
  refine ⟨rfl, ⟨j2, by rw [j3, i3, n2], fun e => ?_, ?_, ?_⟩, j4, knew _ (by rw [c4, if_pos rfl]) (fun j hj _ => by rw [c4, if_neg (fun e => hj e.symm)]), fun j hj => ?_⟩
  · have a1 := l2 e
    have a2 : D3.left = D2.left := by rw [i5, if_neg (by omega)]
    rw [j5, if_neg (by omega), a2, a1]
  · have a2 : -1 ≤ D3.left := by rw [i5]; split <;> omega
    rw [j5]
    split <;> omega
  · rw [j6, i6, g6, f2.ops, hK]; omega
  · rw [c4, if_neg (by omega), c2, if_neg (by omega)]
def sup0 : Sup := ⟨0, 0, 0, sh16 []⟩
theorem sup0_is : sup0.place = 0 ∧ sup0.turn = 0 ∧ sup0.size = 0 ∧ sup0.hash = sh16 [] := by simp only [sup0, and_self]
theorem sup0_ok : sup0.Ok := by
  obtain ⟨e1, e2, e3, e4⟩ := sup0_is
  have h1 : sup0.hash.length = 16 := by rw [e4]; exact sh16_len []
  have h2 : IsB sup0.hash := by rw [e4]; exact sh16_isB [] (sumL_isB [])
  exact ⟨by omega, by omega, by omega, h1, h2⟩
theorem ZB_wrong : rightB ZB = false := by
  unfold rightB
  apply decide_eq_false
  rintro ⟨h, _⟩
  revert h
  decide
def fmtOps : List (Option (Nat × List Int)) := [some (0, sup0.blk), some (1, ZB), none]
set_option maxHeartbeats 400000 in
theorem format_run {D : Dk} {h : Nat} (hd : D.dead = false) (hl : D.left = -1) (hn : 2 ≤ D.safe.length) (hp : ∀ x ∈ D.pend, x.1 < D.safe.length) :
    (Dk.runD fmtOps D).2 = 0 ∧ Went D (Dk.runD fmtOps D).1 3 ∧ (Dk.runD fmtOps D).1.pend = [] ∧ Hs (Dk.runD fmtOps D).1.cur h sup0 [] ∧ ∀ j, 2 ≤ j → (Dk.runD fmtOps D).1.cur j = D.cur j := by
  obtain ⟨s1, s2, s3, s4⟩ := sup0_is
  have hok := sup0_ok
  unfold fmtOps
  generalize hbk : sup0.blk = bk at *
  generalize sup0 = s at *
  rw [Dk.runD]
  have c1 : ∀ j, (D.step (some (0, bk))).1.cur j = if 0 = j then bk else D.cur j := fun j => Dk.write_cur hd (by omega) ((0 : Nat) : Int) ⟨by omega, by omega⟩ bk j
  obtain ⟨i1, i2, i3, i4, i5, i6⟩ := step_write hd (0, bk) (by show 0 < _; omega) (by omega)
  rw [if_pos i1, Dk.runD]
  rw [hl, if_neg (by omega)] at i5
  generalize (D.step (some (0, bk))).1 = D1 at *
  have c2 : ∀ j, (D1.step (some (1, ZB))).1.cur j = if 1 = j then ZB else D1.cur j := fun j => Dk.write_cur i2 (by omega) ((1 : Nat) : Int) ⟨by omega, by rw [i3]; omega⟩ ZB j
  obtain ⟨k1, k2, k3, k4, k5, k6⟩ := step_write i2 (1, ZB) (by show 1 < _; rw [i3]; omega) (by omega)
  rw [if_pos k1, Dk.runD]
  rw [i5, if_neg (by omega)] at k5
  generalize (D1.step (some (1, ZB))).1 = D2 at *
  have hr : ∀ x ∈ D2.pend, x.1 < D2.safe.length := by
    intro x hx
    rw [k3, i3]
    rw [k4, i4] at hx
    rcases List.mem_append.1 hx with hx | hx
    · rcases List.mem_append.1 hx with hx | hx
      · exact hp x hx
      · rw [List.mem_singleton] at hx; rw [hx]; show 0 < _; omega
    · rw [List.mem_singleton] at hx; rw [hx]; show 1 < _; omega
  obtain ⟨j1, j2, j3, j4, j5, j6⟩ := step_sync k2 (by omega)
  have c3 : ∀ j, (D2.step none).1.cur j = D2.cur j := fun j => Dk.sync_cur k2 (by omega) hr j
  rw [if_pos j1, Dk.runD]
  rw [k5, if_neg (by omega)] at j5
  generalize (D2.step none).1 = D3 at *
  refine ⟨rfl, ⟨j2, by rw [j3, k3, i3], fun _ => by rw [j5, hl], by omega, by omega⟩, j4, ?_, fun j hj => ?_⟩
  · refine ⟨hok, (fun x hx => by cases hx), by rw [s3]; rfl, by omega, s4, ?_, ?_, fun i hi => by omega⟩
    · rw [s2, hbk, c3, c2, if_neg (by omega), c1, if_pos (by omega)]
    · rw [s2, c3, c2, if_pos (by omega), ZB_wrong]
      intro e
      cases e
  · rw [c3, c2, if_neg (by omega), c1, if_neg (by omega)]
def Dk.snap (D : Dk) (h : Nat) (s : Sup) : List Int := (rows D.cur (2 + s.place * h) ((s.size + 63) / 64)).take s.size
theorem hs_rows {B : Nat → List Int} {h : Nat} {s : Sup} {L : List Int} (k : Hs B h s L) : (rows B (2 + s.place * h) ((s.size + 63) / 64)).take s.size = L := by
  have h1 := k.len
  have h2 := rows_all (B := B) (o := 2 + s.place * h) (L := L) ((s.size + 63) / 64) (by omega) (by omega) (fun i hi => k.dat i (by omega))
  rw [h1] at h2
  exact h2
theorem hs_dk {D : Dk} {h : Nat} {s : Sup} {L : List Int} (k : Hs D.cur h s L) : D.snap h s = L := hs_rows k
theorem htr_byte : IsB htr := fun x hx => by
  simp only [htr, List.mem_cons, List.not_mem_nil, or_false] at hx
  omega
theorem blk_bb {s : Sup} (h : s.Ok) : BB s.blk := by
  refine ⟨s.blk_len h.hl, ?_⟩
  have hp := h.p
  have h48 : IsB s.b48 := by
    unfold Sup.b48
    refine isB_app htr_byte (isB_app ?_ (isB_app (lowL_isB _ _) (isB_app (lowL_isB _ _) (isB_app h.hb (isB_rep 8)))))
    intro x hx
    simp only [List.mem_cons, List.not_mem_nil, or_false] at hx
    omega
  unfold Sup.blk
  exact isB_app h48 (sh16_isB _ (sumL_isB _))
theorem step_ok {D : Dk} {m : Nat} (h : D.Ok m) (o : Option (Nat × List Int)) (ho : ∀ x, o = some x → BB x.2) : (D.step o).1.Ok (m + 1) := by
  cases o with
  | none => exact h.sync
  | some x => exact h.write _ _ (ho x rfl)
theorem run_ok : ∀ (l : List (Option (Nat × List Int))) {D : Dk} {m : Nat}, D.Ok m → (∀ x, some x ∈ l → BB x.2) → (Dk.runD l D).1.Ok (m + l.length)
  | [], D, m, h, _ => h
  | o :: r, D, m, h, hl => by
    rw [Dk.runD]
    have h1 := step_ok h o (fun x e => hl x (by rw [e]; exact List.mem_cons_self))
    split
    · have h2 := run_ok r h1 (fun x hx => hl x (List.mem_cons_of_mem _ hx))
      rw [List.length_cons, show m + (r.length + 1) = m + 1 + r.length from by omega]
      exact h2
    · exact h1.up (by rw [List.length_cons]; omega)
theorem take_bb {s : Sup} {h : Nat} {M : List Int} (hM : IsB M) (hok : (s.next M).Ok) : ∀ x, some x ∈ takeOps s h M → BB x.2 := by
  intro x hx
  have hb := blk_bb hok
  unfold takeOps at hx
  generalize (s.next M).blk = bk at *
  rcases List.mem_append.1 hx with hx | hx
  · obtain ⟨y, hy, e⟩ := List.mem_map.1 hx
    have e2 := Option.some.inj e
    subst e2
    unfold wrs at hy
    obtain ⟨i, _, rfl⟩ := List.mem_map.1 hy
    exact chk_bb hM i
  · simp only [List.mem_cons, List.not_mem_nil, or_false, reduceCtorEq, false_or, Option.some.injEq] at hx
    rw [hx]
    exact hb
theorem take_len (s : Sup) (h : Nat) (M : List Int) : (takeOps s h M).length = (M.length + 63) / 64 + 3 := by
  unfold takeOps
  rw [List.length_append, List.length_map, wrs_len]
  rfl
theorem fmt_bb : ∀ x, some x ∈ fmtOps → BB x.2 := by
  intro x hx
  have hb := blk_bb sup0_ok
  unfold fmtOps at hx
  generalize sup0.blk = bk at *
  simp only [List.mem_cons, List.not_mem_nil, or_false, reduceCtorEq, false_or, Option.some.injEq] at hx
  rcases hx with e | e
  · rw [e]; exact hb
  · rw [e]; exact ZB_bb
structure Os (D : Dk) (h : Nat) (s : Sup) (L : List Int) : Prop where
  cnt : cntS (D.cur 0) (D.cur 1) = (s, true)
  fit : s.size ≤ 64 * h
  snap : D.snap h s = L
  hash : s.hash = sh16 L
theorem Hs.os {D : Dk} {h : Nat} {s : Sup} {L : List Int} (k : Hs D.cur h s L) : Os D h s L := ⟨k.cnt, k.fit, hs_dk k, k.hash⟩
theorem next_ok {D : Dk} {h : Nat} {s : Sup} {L : List Int} (k : Hs D.cur h s L) {M : List Int} (hM : IsB M) (hf : M.length ≤ 64 * h) (hh : h ≤ 1000000) (ht : s.turn + 1 < 18446744073709551616) : (s.next M).Ok := Sup.next_ok k.ok M (by omega) ht (sumL_isB M)
structure Fd (D : Dk) (m : Nat) (s : Sup) (L : List Int) : Prop where
  ok : D.Ok m
  dead : D.dead = false
  left : D.left = -1
  len : 64 ≤ D.safe.length
  pend : ∀ x ∈ D.pend, 2 + 2 * ((D.safe.length - 2) / 4) ≤ x.1 ∧ x.1 < D.safe.length
  hs : Hs D.cur ((D.safe.length - 2) / 4) s L
theorem fmt_all {D : Dk} {m : Nat} (hD : D.Ok m) (hd : D.dead = false) (hl : D.left = -1) (hn : 64 ≤ D.safe.length) : (Dk.runD fmtOps D).2 = 0 ∧ Fd (Dk.runD fmtOps D).1 (m + 3) sup0 [] ∧ (Dk.runD fmtOps D).1.safe.length = D.safe.length ∧ (Dk.runD fmtOps D).1.pend = [] ∧ ∀ j, 2 ≤ j → (Dk.runD fmtOps D).1.cur j = D.cur j := by
  obtain ⟨h1, h2, h3, h4, h5⟩ := format_run (h := (D.safe.length - 2) / 4) hd hl (by omega) (fun x hx => (hD.pnd x hx).1)
  have h6 := run_ok fmtOps hD fmt_bb
  have h7 := h2.len
  refine ⟨h1, ⟨h6, h2.dead, (h2.left (by omega)).trans hl, by rw [h7]; exact hn, (by rw [h3]; intro x hx; cases hx), by rw [h7]; exact h4⟩, h7, h3, h5⟩
theorem take_all {D : Dk} {m : Nat} {s : Sup} {L M : List Int} (k : Fd D m s L) (hM : IsB M) (hf : M.length ≤ 64 * ((D.safe.length - 2) / 4)) (ht : s.turn + 1 < 18446744073709551616) : (Dk.runD (takeOps s ((D.safe.length - 2) / 4) M) D).2 = 0 ∧ Fd (Dk.runD (takeOps s ((D.safe.length - 2) / 4) M) D).1 (m + ((M.length + 63) / 64 + 3)) (s.next M) M ∧ (Dk.runD (takeOps s ((D.safe.length - 2) / 4) M) D).1.safe.length = D.safe.length ∧ (Dk.runD (takeOps s ((D.safe.length - 2) / 4) M) D).1.pend = [] ∧ ∀ j, 2 + 2 * ((D.safe.length - 2) / 4) ≤ j → (Dk.runD (takeOps s ((D.safe.length - 2) / 4) M) D).1.cur j = D.cur j := by
  have hl := k.left
  have hn := k.len
  have h512 := k.ok.hi1
  have hok := next_ok k.hs hM hf (by omega) ht
  have h6 := run_ok (takeOps s ((D.safe.length - 2) / 4) M) k.ok (take_bb hM hok)
  rw [take_len] at h6
  rcases take_run k.dead (by omega) (by omega) k.pend k.hs hM hf hok with ⟨h1, h2, h3, h4, h5⟩ | ⟨h0, _⟩
  · generalize (Dk.runD (takeOps s ((D.safe.length - 2) / 4) M) D).1 = E at *
    have h7 := h2.len
    refine ⟨h1, ⟨h6, h2.dead, (h2.left (by omega)).trans hl, by rw [h7]; exact hn, (by rw [h3]; intro x hx; cases hx), by rw [h7]; exact h4⟩, h7, h3, h5⟩
  · omega
theorem done_len (D : Dk) : D.doneD.safe = D.safe := by unfold Dk.doneD; split <;> rfl
theorem step_len (D : Dk) (o : Option (Nat × List Int)) : (D.step o).1.safe.length = D.safe.length := by
  cases o with
  | none =>
    show D.syncD.safe.length = _
    unfold Dk.syncD
    split
    · rfl
    · split
      · rw [done_len]
      · show (liv D.doneD.safe _ _ _).length = _
        rw [liv_len, done_len]
  | some x =>
    show (D.writeD _ _).safe.length = _
    unfold Dk.writeD
    split
    · rfl
    · split
      · split
        · rw [done_len]
        · show D.doneD.safe.length = _
          rw [done_len]
      · rfl
theorem run_len : ∀ (l : List (Option (Nat × List Int))) (D : Dk), (Dk.runD l D).1.safe.length = D.safe.length
  | [], D => rfl
  | o :: r, D => by
    rw [Dk.runD]
    split
    · rw [run_len r, step_len]
    · exact step_len D o
theorem IsB.take {B : List Int} (h : IsB B) (n : Nat) : IsB (B.take n) := fun x hx => h x (List.mem_of_mem_take hx)
theorem kc_lb {w : World} {g : Nat} {X : List Int} {t : TypeId} {n : Nat} (h : w.heap[g]? = some (.cells (kc X) t (0, 0))) (hn : X.length = n) (hX : IsB X) (hb : n < 9223372036854775808) : Lb w (some ⟨g, 0, none⟩) n n X := ⟨hn, hX, .inr ⟨g, 0, rfl, kc_at h⟩, Nat.le_refl _, hb⟩
theorem ob_of {w : World} {b g n : Nat} {X : List Int} (h : w.heap[g]? = some (.cells (kc X) 5 (0, 0))) (hn : X.length = n) (hg : b ≤ g) (hb : n ≤ 140737488351232) : Ob b w (.slice (some ⟨g, 0, none⟩) n n) X := by
  subst hn
  exact ⟨by simp, .inr ⟨g, X.length, kc X, rfl, hg, h, Nat.le_refl _, by unfold maxLen; omega, by rw [kc_size, Nat.mul_one], by unfold kc; rw [Nat.mul_one]; exact List.take_of_length_le (by simp)⟩⟩
theorem Ob.lb {b : Nat} {w : World} {v : Value} {L : List Int} (h : Ob b w v L) (hb : IsB L) : ∃ a c, v = .slice a L.length c ∧ Lb w a L.length c L := by
  obtain ⟨a, c, h1, h2, h3, h4⟩ := h.slice
  exact ⟨a, c, h1, rfl, hb, h4, h2, by unfold maxLen at h3; omega⟩
theorem make_op {w : World} {o : Oper} {a : Act} {K : Act → World → Prop} {Q : Exit → Act → World → Prop} (l c : Operand) (hop : o.op = Op.makeSlice 33 l c) (n m : Nat) (hl : a.eval l = .int .i64 n) (hc : a.eval c = .int .i64 m) (hnm : n ≤ m) (hn : m ≤ 281474976710656)
    (h : K (a.put o.dst (.slice (some ⟨w.heap.size, 0, none⟩) n m)) (w.alloc (.cells (kc (List.replicate m 0)) 5 (0, 0)))) : o.wp Tryz.prog a w K Q := by
  obtain ⟨i, h2, h3, h4, h5⟩ := info_parts Tryz.info5
  have hrun := run_make (P := Tryz.prog) w 33 5 i (.int .u8 0) Tryz.underlying33 h2 h3 .i64 .i64 (n : Int) (m : Int) (by omega) (by omega) (by rw [h5]; omega) (by omega)
  rw [h4] at hrun
  have e : madeCells (Value.int .u8 0).cells m = kc (List.replicate m 0) := by
    apply Array.ext
    · simp [size_madeCells, kc]
    · intro i h1 h2
      have : i % 1 = 0 := Nat.mod_one i
      simp [madeCells, Value.cells, this, kc]
  simp only [Int.toNat_natCast, Nat.mul_one, e] at hrun
  unfold Oper.wp
  simp [execOp, hop, hl, hc, hrun, Result.andThen]
  exact h
theorem exec_upto {a : Act} {o : Oper} (w : World) (x y : Operand) (ho : o.op = .slice 33 x none (some y) none) (s : Option Addr) (len cap n : Nat) (hx : a.eval x = .slice s len cap) (hy : a.eval y = .int .i64 n) (hc : len ≤ cap) (hn : n ≤ len) :
    (execOp a.eval o).run Tryz.prog w = .ok (.value (.slice (if cap = 0 then s else s.map (·.add 0)) n cap)) w := by
  have h1 : (0 : Int) ≤ n := by omega
  have h2 : (n : Int) ≤ cap := by omega
  have hu : Tryz.prog.underlying 33 = some (.slice (Tryz.prog.elem 33)) := by kernel_rfl
  have hz : (sizeOf (Tryz.prog.elem 33)).run Tryz.prog w = .ok 1 w := by kernel_rfl
  simp [execOp, ho, hx, hy, run_sliceAt_slice _ _ _ _ _ _ hu, run_slice_h _ _ _ _ _ hu _ _ h1 h2, hz, sliced]
theorem exec_from {a : Act} {o : Oper} (w : World) (x y : Operand) (ho : o.op = .slice 33 x (some y) none none) (s : Option Addr) (len cap n : Nat) (hx : a.eval x = .slice s len cap) (hy : a.eval y = .int .i64 n) (hc : len ≤ cap) (hn : n ≤ len) :
    (execOp a.eval o).run Tryz.prog w = .ok (.value (.slice (if cap = n then s else s.map (·.add n)) (len - n) (cap - n))) w := by
  have h1 : (0 : Int) ≤ n := by omega
  have h2 : (n : Int) ≤ len := by omega
  have hu : Tryz.prog.underlying 33 = some (.slice (Tryz.prog.elem 33)) := by kernel_rfl
  have hz : (sizeOf (Tryz.prog.elem 33)).run Tryz.prog w = .ok 1 w := by kernel_rfl
  simp [execOp, ho, hx, hy, run_sliceAt_slice _ _ _ _ _ _ hu, run_slice_l _ _ _ _ _ hu _ _ h1 h2, hz, sliced]
theorem lowN_append (l m : List Int) : lowN (l ++ m) = lowN l + 256 ^ l.length * lowN m := by
  induction l with
  | nil => simp [lowN]
  | cons x r ih =>
    simp only [List.cons_append, lowN, ih, List.length_cons, Int.pow_succ, Int.mul_add]
    rw [Int.add_assoc, ← Int.mul_assoc, Int.mul_comm 256 (256 ^ _)]
theorem lowN_snoc (l : List Int) (c : Int) : lowN (l ++ [c]) = lowN l + c * 256 ^ l.length := by
  rw [lowN_append, Int.mul_comm]
  simp [lowN]
theorem or_step (X y : Int) (k : Nat) (hk : k < 8) (h0 : 0 ≤ X) (h1 : X < 256 ^ k) (hy0 : 0 ≤ y) (hy1 : y < 256) :
    bits .or .u64 X (IntKind.u64.wrap (y * 2 ^ (8 * k))) = X + y * 256 ^ k := by
  obtain ⟨N, rfl⟩ := Int.eq_ofNat_of_zero_le h0
  obtain ⟨Y, rfl⟩ := Int.eq_ofNat_of_zero_le hy0
  have e : (256 : Nat) ^ k = 2 ^ (8 * k) := by rw [Nat.pow_mul]
  have e1 : (256 : Int) ^ k = ((2 ^ (8 * k) : Nat) : Int) := by rw [← e]; simp
  have e2 : (2 : Int) ^ (8 * k) = ((2 ^ (8 * k) : Nat) : Int) := by simp
  have hN : N < 2 ^ (8 * k) := by rw [e1] at h1; omega
  have hY : Y < 256 := by omega
  have hle : 2 ^ (8 * k) ≤ 2 ^ 56 := Nat.pow_le_pow_right (by omega) (by omega)
  rw [e1, e2]
  generalize hP : 2 ^ (8 * k) = P at *
  have hYP : Y * P < 18446744073709551616 := by
    have : Y * P ≤ 255 * P := Nat.mul_le_mul_right _ (by omega)
    omega
  have e3 : IntKind.u64.wrap ((Y : Int) * (P : Int)) = ((Y * P : Nat) : Int) := by
    rw [IntKind.wrap_u64]
    rw [← Int.natCast_mul]
    omega
  rw [e3, u64_or_nat N (Y * P) (by omega) hYP]
  have := nat_join (8 * k) (Y * P) N (by rw [hP]; exact Nat.mul_mod_left _ _) (by rw [hP]; exact hN)
  rw [Nat.or_comm] at this
  rw [this]
  rw [← Int.natCast_mul]
  omega
theorem take_snoc_getD (l : List Int) (k : Nat) (h : k < l.length) : l.take (k + 1) = l.take k ++ [l.getD k 0] := by
  rw [List.take_succ_eq_append_getElem h, List.getD_eq_getElem?_getD, List.getElem?_eq_getElem h]; rfl
theorem lowN_step (l : List Int) (k : Nat) (y : Int) (h : k < l.length) (h8 : l.length ≤ 8) (hb : IsB l) (hy : y = l.getD k 0) :
    bits .or .u64 (lowN (l.take k)) (IntKind.u64.wrap (y * 2 ^ (8 * k))) = lowN (l.take (k + 1)) := by
  have hm := hb.at_ k
  have hbd := lowN_bd (l.take k) (hb.take k)
  have hlen : (l.take k).length = k := by simp; omega
  rw [hlen] at hbd
  rw [take_snoc_getD l k h, lowN_snoc, hlen, ← hy]
  rw [← hy] at hm
  exact or_step _ _ k (by omega) hbd.1 hbd.2 hm.1 hm.2
set_option maxHeartbeats 400000 in
theorem onum_ok (p o n c : Nat) (l : List Int) (w : World) (hl : l.length = n) (hn : n ≤ 8) (hb : IsB l) (hat : At w p o l) :
    Calls Tryz.prog 99 #[.slice (some ⟨p, o, none⟩) n c] w fun e w' => e = .returned (.int .u64 (lowN l)) ∧ w' = w := by
  have hc : ∀ i, i < n → w.cell? ⟨p, o + i, none⟩ = some (.int .u8 (l.getD i 0)) := fun i hi => hat i (by omega)
  clear hat
  go_enter Tryz.func99, Tryz.ntmps99
  go_wp2
  go_loop [3, 8] (fun x i => ∃ k : Nat, k ≤ n ∧ i = .int .i64 k ∧ x = .int .u64 (lowN (l.take k))) (fun _ i => n - (intOf i).toNat)
  case atStart => exact ⟨0, Nat.zero_le _, rfl, by simp [lowN]⟩
  case round =>
    obtain ⟨k, hk, rfl, rfl⟩ := hrel
    by_cases hlt : k < n
    · have hck := hc k hlt
      have hx := hb.at_ k
      obtain ⟨y, hy⟩ : ∃ y, y = l.getD k 0 := ⟨_, rfl⟩
      rw [← hy] at hck hx
      have HB : Hid (∀ y, y = l.getD k 0 → bits .or .u64 (lowN (l.take k)) (IntKind.u64.wrap (y * 2 ^ (8 * k))) = lowN (l.take (k + 1))) := fun y hy => lowN_step l k y (by omega) (by omega) hb hy
      have HY := hide hy
      obtain ⟨hx0, hx1⟩ := hx
      clear hy hc hb
      go_wp2
      go_round
      case rel => exact ⟨k + 1, by omega, by go_num, by rw [unhide HB y HY]⟩
      case measure => simp [intOf]; omega
    · go_wp2
      go_ret
      rw [List.take_of_length_le (by omega)]
      exact ⟨rfl, rfl⟩
def lay (C : List Int) (o : Nat) (S : List Int) : List Int := C.take o ++ (S ++ C.drop (o + S.length))
theorem sp_lay (C S : List Int) (o : Nat) (h : o + S.length ≤ C.length) : sp (C.map (Value.int .u8)) o (S.map (Value.int .u8)) = (lay C o S).map (Value.int .u8) := by
  have e : C = C.take o ++ ((C.drop o).take S.length ++ C.drop (o + S.length)) := by rw [← List.drop_drop, List.take_append_drop, List.take_append_drop]
  have h1 := sp_mid (S.map (Value.int .u8)) ((C.take o).map (Value.int .u8)) (((C.drop o).take S.length).map (Value.int .u8)) ((C.drop (o + S.length)).map (Value.int .u8)) (by simp; omega)
  rw [List.length_map, List.length_take, Nat.min_eq_left (by omega), ← List.map_append, ← List.map_append, ← e] at h1
  rw [h1]
  simp [lay]
theorem laid {w : World} {g o : Nat} {C S : List Int} {t : TypeId} (h : w.heap[g]? = some (.cells (kc C) t (0, 0))) (ho : o + S.length ≤ C.length) : (w.setCells g o (S.map (Value.int .u8))).heap[g]? = some (.cells (kc (lay C o S)) t (0, 0)) := by
  rw [setCells_heap _ w g o (C.map (Value.int .u8)) t h, sp_lay C S o ho]
  rfl
def filled (l : List Int) (x : Int) (size k : Nat) : List Int := l ++ (lowL x k ++ List.replicate (size - k) 0)
theorem filled_len (l : List Int) (x : Int) (size k : Nat) (h : k ≤ size) : (filled l x size k).length = l.length + size := by simp [filled, lowL_len]; omega
theorem filled_step (l : List Int) (x : Int) (size k : Nat) (h : k < size) : (filled l x size k).set (l.length + k) (x / 256 ^ k % 256) = filled l x size (k + 1) := by
  unfold filled
  rw [List.set_append_right _ _ (by omega), Nat.add_sub_cancel_left, List.set_append_right _ _ (by rw [lowL_len]; exact Nat.le_refl _), lowL_len, Nat.sub_self, lowL_snoc]
  obtain ⟨j, hj⟩ : ∃ j, size - k = j + 1 := ⟨size - k - 1, by omega⟩
  rw [hj, show size - (k + 1) = j by omega]
  simp [List.replicate_succ]
theorem lay_len (C : List Int) (o : Nat) (S : List Int) (h : o + S.length ≤ C.length) : (lay C o S).length = C.length := by
  unfold lay
  simp only [List.length_append, List.length_take, List.length_drop]
  omega
theorem Lb.nil0 (w : World) : Lb w none 0 0 [] := ⟨rfl, (by intro x hx; cases hx), .inl rfl, by omega, by omega⟩
def Mkd (L : List Int) (w : World) (r : Ending) (w' : World) : Prop := ∃ g, r = .returned (.slice (some ⟨g, 0, none⟩) L.length L.length) ∧ w.heap.size ≤ g ∧ w'.heap[g]? = some (.cells (kc L) 5 (0, 0)) ∧ Gr w w'
set_option maxHeartbeats 4000000 in
theorem put_ok (B : List Int) (s : Option Addr) (n cap : Nat) (x : Int) (hx : 0 ≤ x) (hn : n ≤ 1000) (w : World) (lb : Lb w s n cap B) : Calls Tryz.prog 96 #[.slice s n cap, .int .u64 x, .int .i64 8] w (Mkd (B ++ lowL x 8) w) := by
  obtain ⟨T, hT⟩ : ∃ T, T = Mkd (B ++ lowL x 8) w := ⟨_, rfl⟩
  rw [← hT]
  replace hT := hide hT
  obtain ⟨m, hm⟩ : ∃ m, m = n + 8 := ⟨_, rfl⟩
  have i1 : (n : Int) + 8 = (m : Int) := by omega
  have i2 : IntKind.i64.wrap (m : Int) = (m : Int) := by rw [IntKind.wrap_i64]; omega
  replace lb := hide lb
  replace hm := hide hm
  go_enter Tryz.func96, Tryz.ntmps96
  go_upto_region 1 with fail
  have hmb : m ≤ 1008 := by have := unhide hm; omega
  refine wp_region_lit ?_
  refine list_val (.slice s n cap) (by kernel_rfl) (by kernel_rfl) ?_
  simp only [nrm]
  refine list_val (.int .i64 n) (by kernel_rfl) (by kernel_rfl) ?_
  simp only [nrm]
  refine list_val (.int .i64 8) (by kernel_rfl) (by kernel_rfl) ?_
  simp only [nrm]
  refine list_val (.int .i64 m) (by kernel_rfl) (by go_simp) ?_
  simp only [nrm]
  refine wpList_make_room _ rfl (.tmp 12) (.tmp 12) rfl (m : Int) (m : Int) m m (by kernel_rfl) (by kernel_rfl) rfl rfl (Nat.le_refl _) (by omega) ?_
  simp only [nrm]
  have hB := (Bl.nil w).new (kc (List.replicate m 0)) 5
  simp only [List.nil_append] at hB
  generalize World.alloc _ _ = u at *
  replace hB := hide hB
  (refine wpList_step fun K hK => ?_; replace hK := hide hK; go_simp; refine unhide hK _ _ ?_; clear hK K)
  refine wpList_nil ?_
  go_upto_region 2 with fail
  replace hB := unhide hB
  have hnm : n ≤ m := by have := unhide hm; omega
  have lb2 : Hid (Lb u s n cap B) := (unhide lb).gr hB.gr
  refine wp_region_lit ?_
  refine list_val (.slice (some ⟨w.heap.size, 0, none⟩) m m) (by kernel_rfl) (by kernel_rfl) ?_
  simp only [nrm]
  refine list_val (.slice s n cap) (by kernel_rfl) (by kernel_rfl) ?_
  simp only [nrm]
  refine wpList_plain rfl fun K hK => ?_
  refine copy_wp (.tmp 14) (.tmp 15) rfl w.heap.size 0 m m s n cap (by kernel_rfl) (by kernel_rfl) ((List.replicate m 0).map (Value.int .u8)) 5 (hB.get 0 (x := ⟨w.heap.size, kc (List.replicate m 0), 5⟩) rfl) B (by rw [(unhide lb).len]; exact (Nat.min_eq_left (by omega)).symm) (unhide lb2).sl (by rw [(unhide lb).len, List.length_map, List.length_replicate]; omega) ?_
  have hcell := laid (S := B) (o := 0) (hB.get 0 (x := ⟨w.heap.size, kc (List.replicate m 0), 5⟩) rfl) (by rw [(unhide lb).len, List.length_replicate]; omega)
  have hB2 := hB.but (setCells_bt (B.map (Value.int .u8)) u w.heap.size 0) 0 (x := ⟨w.heap.size, kc (List.replicate m 0), 5⟩) rfl rfl hcell
  simp only [List.set_cons_zero] at hB2
  refine hK _ _ ?_
  clear hK K hcell hB
  simp only [nrm]
  generalize World.setCells _ _ _ _ = u1 at *
  rw [(unhide lb).len]
  (refine wpList_step fun K hK => ?_; replace hK := hide hK; go_simp; refine unhide hK _ _ ?_; clear hK K)
  refine wpList_nil ?_
  have hL : lay (List.replicate m 0) 0 B = filled B x 8 0 := by
    unfold lay filled
    rw [List.take_zero, List.nil_append, Nat.zero_add, List.drop_replicate, (unhide lb).len, show m - n = 8 from by have := unhide hm; omega]
    rfl
  rw [hL] at hB2
  replace hB2 := hide hB2
  clear hL lb2
  go_wp2_with fail
  go_loopw [1, 8] (fun y i wr => ∃ k : Nat, k ≤ 8 ∧ y = .int .u64 (x / 256 ^ k) ∧ i = .int .i64 (n + k : Nat) ∧ Hid (Bl w [⟨w.heap.size, kc (filled B x 8 k), 5⟩] wr)) (fun _ i _ => m - (intOf i).toNat)
  case atStart => exact ⟨0, Nat.zero_le _, by simp, rfl, hB2⟩
  case round =>
  clear hB2
  obtain ⟨k, hk, rfl, rfl, hB⟩ := hrel
  have hBn : B.length = n := (unhide lb).len
  have hlen := filled_len B x 8 k hk
  rw [hBn] at hlen
  by_cases hlt : k < 8
  · obtain ⟨q, hq⟩ : ∃ q, q = n + k := ⟨_, rfl⟩
    rw [← hq]
    have hqm : q < m := by have := unhide hm; omega
    have qI : (q : Int) < (m : Int) := by omega
    have c1 := kc_cell ((unhide hB).get 0 (x := ⟨w.heap.size, kc (filled B x 8 k), 5⟩) rfl) q (by omega)
    generalize (filled B x 8 k).getD q 0 = z at c1
    have f1 := froz_of (i := q) ((unhide hB).get 0 (x := ⟨w.heap.size, kc (filled B x 8 k), 5⟩) rfl)
    have hy0 : 0 ≤ x / 256 ^ k := Int.ediv_nonneg hx (Int.pow_nonneg (by omega))
    have hst := filled_step B x 8 k hlt
    have hdv : x / 256 ^ k / 256 = x / 256 ^ (k + 1) := by rw [Int.pow_succ, Int.ediv_ediv_of_nonneg (Int.pow_nonneg (by omega))]
    rw [hBn, ← hq] at hst
    generalize x / 256 ^ k = y at *
    have hB1 := (unhide hB).cell 0 (x := ⟨w.heap.size, kc (filled B x 8 k), 5⟩) rfl q (.int .u8 (y % 256))
    simp only [List.set_cons_zero, List.set_cons_succ, kc_set, hst] at hB1
    replace hB1 := hide hB1
    replace hdv := hide hdv
    replace hq := hide hq
    replace hy0 := hide hy0
    have i3 : IntKind.i64.wrap ((q : Int) + 1) = (q : Int) + 1 := by rw [IntKind.wrap_i64]; omega
    have i4 : IntKind.u8.wrap y = y % 256 := by rw [IntKind.wrap_u8]
    replace hy0 := unhide hy0
    clear hst hlen hB hBn
    go_wp2_with fail
    go_roundw
    case rel => exact ⟨k + 1, by omega, by rw [unhide hdv], by have := unhide hq; go_num, hB1⟩
    case measure => have := unhide hq; simp [intOf]; omega
  · have hqm : ¬ n + k < m := by have := unhide hm; omega
    have qI : ¬ ((n + k : Nat) : Int) < (m : Int) := by omega
    have hk8 : k = 8 := by omega
    have hF : Hid (Mkd (B ++ lowL x 8) w (.returned (.slice (some ⟨w.heap.size, 0, none⟩) m m)) wr) := by
      refine ⟨w.heap.size, ?_, (unhide hB).own 0 (x := ⟨w.heap.size, kc (filled B x 8 k), 5⟩) rfl, ?_, (unhide hB).gr⟩
      · rw [List.length_append, lowL_len, hBn, ← unhide hm]
      · have h := (unhide hB).get 0 (x := ⟨w.heap.size, kc (filled B x 8 k), 5⟩) rfl
        rw [hk8] at h
        have e : filled B x 8 8 = B ++ lowL x 8 := by simp [filled]
        rw [e] at h
        exact h
    clear hlen hB hBn
    generalize n + k = q at *
    go_wp2_with fail
    rw [unhide hT]
    exact unhide hF
set_option maxHeartbeats 400000 in
theorem put64_ok (B : List Int) (s : Option Addr) (n cap : Nat) (x : Int) (hx : 0 ≤ x) (hn : n ≤ 1000) (w : World) (lb : Lb w s n cap B) : Calls Tryz.prog 82 #[.slice s n cap, .int .u64 x] w (Mkd (B ++ lowL x 8) w) := by
  have hp := hide (put_ok B s n cap x hx hn w lb)
  obtain ⟨T, hT⟩ : ∃ T, T = Mkd (B ++ lowL x 8) w := ⟨_, rfl⟩
  rw [← hT]
  rw [← hT] at hp
  replace hT := hide hT
  go_enter Tryz.func82, Tryz.ntmps82
  go_upto_region 1 with fail
  refine wp_region_lit ?_
  refine list_val (.slice s n cap) (by kernel_rfl) (by kernel_rfl) ?_
  simp only [nrm]
  refine list_val (.int .u64 x) (by kernel_rfl) (by kernel_rfl) ?_
  simp only [nrm]
  refine list_call 96 #[.slice s n cap, .int .u64 x, .int .i64 8] (by kernel_rfl) (by kernel_rfl) ((unhide hp).mono ?_)
  rw [unhide hT]
  rintro r u ⟨g, rfl, hg1, hg2, hg3⟩
  have hF : Hid (Mkd (B ++ lowL x 8) w (.returned (.slice (some ⟨g, 0, none⟩) (B ++ lowL x 8).length (B ++ lowL x 8).length)) u) := ⟨g, rfl, hg1, hg2, hg3⟩
  refine ⟨_, rfl, ?_⟩
  simp only [nrm]
  clear hg1 hg2 hg3
  generalize (B ++ lowL x 8).length = m at *
  generalize B ++ lowL x 8 = L at *
  (refine wpList_step fun K hK => ?_; replace hK := hide hK; go_simp; refine unhide hK _ _ ?_; clear hK K)
  refine wpList_nil ?_
  go_wp2_with fail
  rw [unhide hT]
  exact unhide hF
set_option maxHeartbeats 4000000 in
theorem put4_ok (B : List Int) (s : Option Addr) (n cap : Nat) (x : Int) (hx : 0 ≤ x) (hn : n ≤ 1000) (w : World) (lb : Lb w s n cap B) : Calls Tryz.prog 96 #[.slice s n cap, .int .u64 x, .int .i64 4] w (Mkd (B ++ lowL x 4) w) := by
  obtain ⟨T, hT⟩ : ∃ T, T = Mkd (B ++ lowL x 4) w := ⟨_, rfl⟩
  rw [← hT]
  replace hT := hide hT
  obtain ⟨m, hm⟩ : ∃ m, m = n + 4 := ⟨_, rfl⟩
  have i1 : (n : Int) + 4 = (m : Int) := by omega
  have i2 : IntKind.i64.wrap (m : Int) = (m : Int) := by rw [IntKind.wrap_i64]; omega
  replace lb := hide lb
  replace hm := hide hm
  go_enter Tryz.func96, Tryz.ntmps96
  go_upto_region 1 with fail
  have hmb : m ≤ 1008 := by have := unhide hm; omega
  refine wp_region_lit ?_
  refine list_val (.slice s n cap) (by kernel_rfl) (by kernel_rfl) ?_
  simp only [nrm]
  refine list_val (.int .i64 n) (by kernel_rfl) (by kernel_rfl) ?_
  simp only [nrm]
  refine list_val (.int .i64 4) (by kernel_rfl) (by kernel_rfl) ?_
  simp only [nrm]
  refine list_val (.int .i64 m) (by kernel_rfl) (by go_simp) ?_
  simp only [nrm]
  refine wpList_make_room _ rfl (.tmp 12) (.tmp 12) rfl (m : Int) (m : Int) m m (by kernel_rfl) (by kernel_rfl) rfl rfl (Nat.le_refl _) (by omega) ?_
  simp only [nrm]
  have hB := (Bl.nil w).new (kc (List.replicate m 0)) 5
  simp only [List.nil_append] at hB
  generalize World.alloc _ _ = u at *
  replace hB := hide hB
  (refine wpList_step fun K hK => ?_; replace hK := hide hK; go_simp; refine unhide hK _ _ ?_; clear hK K)
  refine wpList_nil ?_
  go_upto_region 2 with fail
  replace hB := unhide hB
  have hnm : n ≤ m := by have := unhide hm; omega
  have lb2 : Hid (Lb u s n cap B) := (unhide lb).gr hB.gr
  refine wp_region_lit ?_
  refine list_val (.slice (some ⟨w.heap.size, 0, none⟩) m m) (by kernel_rfl) (by kernel_rfl) ?_
  simp only [nrm]
  refine list_val (.slice s n cap) (by kernel_rfl) (by kernel_rfl) ?_
  simp only [nrm]
  refine wpList_plain rfl fun K hK => ?_
  refine copy_wp (.tmp 14) (.tmp 15) rfl w.heap.size 0 m m s n cap (by kernel_rfl) (by kernel_rfl) ((List.replicate m 0).map (Value.int .u8)) 5 (hB.get 0 (x := ⟨w.heap.size, kc (List.replicate m 0), 5⟩) rfl) B (by rw [(unhide lb).len]; exact (Nat.min_eq_left (by omega)).symm) (unhide lb2).sl (by rw [(unhide lb).len, List.length_map, List.length_replicate]; omega) ?_
  have hcell := laid (S := B) (o := 0) (hB.get 0 (x := ⟨w.heap.size, kc (List.replicate m 0), 5⟩) rfl) (by rw [(unhide lb).len, List.length_replicate]; omega)
  have hB2 := hB.but (setCells_bt (B.map (Value.int .u8)) u w.heap.size 0) 0 (x := ⟨w.heap.size, kc (List.replicate m 0), 5⟩) rfl rfl hcell
  simp only [List.set_cons_zero] at hB2
  refine hK _ _ ?_
  clear hK K hcell hB
  simp only [nrm]
  generalize World.setCells _ _ _ _ = u1 at *
  rw [(unhide lb).len]
  (refine wpList_step fun K hK => ?_; replace hK := hide hK; go_simp; refine unhide hK _ _ ?_; clear hK K)
  refine wpList_nil ?_
  have hL : lay (List.replicate m 0) 0 B = filled B x 4 0 := by
    unfold lay filled
    rw [List.take_zero, List.nil_append, Nat.zero_add, List.drop_replicate, (unhide lb).len, show m - n = 4 from by have := unhide hm; omega]
    rfl
  rw [hL] at hB2
  replace hB2 := hide hB2
  clear hL lb2
  go_wp2_with fail
  go_loopw [1, 8] (fun y i wr => ∃ k : Nat, k ≤ 4 ∧ y = .int .u64 (x / 256 ^ k) ∧ i = .int .i64 (n + k : Nat) ∧ Hid (Bl w [⟨w.heap.size, kc (filled B x 4 k), 5⟩] wr)) (fun _ i _ => m - (intOf i).toNat)
  case atStart => exact ⟨0, Nat.zero_le _, by simp, rfl, hB2⟩
  case round =>
  clear hB2
  obtain ⟨k, hk, rfl, rfl, hB⟩ := hrel
  have hBn : B.length = n := (unhide lb).len
  have hlen := filled_len B x 4 k hk
  rw [hBn] at hlen
  by_cases hlt : k < 4
  · obtain ⟨q, hq⟩ : ∃ q, q = n + k := ⟨_, rfl⟩
    rw [← hq]
    have hqm : q < m := by have := unhide hm; omega
    have qI : (q : Int) < (m : Int) := by omega
    have c1 := kc_cell ((unhide hB).get 0 (x := ⟨w.heap.size, kc (filled B x 4 k), 5⟩) rfl) q (by omega)
    generalize (filled B x 4 k).getD q 0 = z at c1
    have f1 := froz_of (i := q) ((unhide hB).get 0 (x := ⟨w.heap.size, kc (filled B x 4 k), 5⟩) rfl)
    have hy0 : 0 ≤ x / 256 ^ k := Int.ediv_nonneg hx (Int.pow_nonneg (by omega))
    have hst := filled_step B x 4 k hlt
    have hdv : x / 256 ^ k / 256 = x / 256 ^ (k + 1) := by rw [Int.pow_succ, Int.ediv_ediv_of_nonneg (Int.pow_nonneg (by omega))]
    rw [hBn, ← hq] at hst
    generalize x / 256 ^ k = y at *
    have hB1 := (unhide hB).cell 0 (x := ⟨w.heap.size, kc (filled B x 4 k), 5⟩) rfl q (.int .u8 (y % 256))
    simp only [List.set_cons_zero, List.set_cons_succ, kc_set, hst] at hB1
    replace hB1 := hide hB1
    replace hdv := hide hdv
    replace hq := hide hq
    replace hy0 := hide hy0
    have i3 : IntKind.i64.wrap ((q : Int) + 1) = (q : Int) + 1 := by rw [IntKind.wrap_i64]; omega
    have i4 : IntKind.u8.wrap y = y % 256 := by rw [IntKind.wrap_u8]
    replace hy0 := unhide hy0
    clear hst hlen hB hBn
    go_wp2_with fail
    go_roundw
    case rel => exact ⟨k + 1, by omega, by rw [unhide hdv], by have := unhide hq; go_num, hB1⟩
    case measure => have := unhide hq; simp [intOf]; omega
  · have hqm : ¬ n + k < m := by have := unhide hm; omega
    have qI : ¬ ((n + k : Nat) : Int) < (m : Int) := by omega
    have hk8 : k = 4 := by omega
    have hF : Hid (Mkd (B ++ lowL x 4) w (.returned (.slice (some ⟨w.heap.size, 0, none⟩) m m)) wr) := by
      refine ⟨w.heap.size, ?_, (unhide hB).own 0 (x := ⟨w.heap.size, kc (filled B x 4 k), 5⟩) rfl, ?_, (unhide hB).gr⟩
      · rw [List.length_append, lowL_len, hBn, ← unhide hm]
      · have h := (unhide hB).get 0 (x := ⟨w.heap.size, kc (filled B x 4 k), 5⟩) rfl
        rw [hk8] at h
        have e : filled B x 4 4 = B ++ lowL x 4 := by simp [filled]
        rw [e] at h
        exact h
    clear hlen hB hBn
    generalize n + k = q at *
    go_wp2_with fail
    rw [unhide hT]
    exact unhide hF
set_option maxHeartbeats 4000000 in
theorem put32_ok (x : Int) (hx : 0 ≤ x ∧ x < 4294967296) (w : World) : Calls Tryz.prog 83 #[.slice none 0 0, .int .u32 x] w (Mkd (lowL x 4) w) := by
  obtain ⟨T, hT⟩ : ∃ T, T = Mkd (lowL x 4) w := ⟨_, rfl⟩
  rw [← hT]
  replace hT := hide hT
  have hwx : IntKind.u64.wrap x = x := by rw [IntKind.wrap_u64]; omega
  obtain ⟨hx0, hx1⟩ := hx
  go_enter Tryz.func83, Tryz.ntmps83
  go_upto_region 1 with fail
  refine wp_region_lit ?_
  refine list_val (.slice none 0 0) (by kernel_rfl) (by kernel_rfl) ?_
  simp only [nrm]
  refine list_val (.int .u32 x) (by kernel_rfl) (by kernel_rfl) ?_
  simp only [nrm]
  refine list_val (.int .u64 x) (by kernel_rfl) (by go_simp) ?_
  simp only [nrm]
  refine list_call 96 #[.slice none 0 0, .int .u64 x, .int .i64 4] (by kernel_rfl) (by kernel_rfl) ((put4_ok [] none 0 0 x hx0 (by omega) w (Lb.nil0 _)).mono ?_)
  rw [List.nil_append]
  rintro r u ⟨g, rfl, hg1, hg2, hg3⟩
  have hF : Hid (Mkd (lowL x 4) w (.returned (.slice (some ⟨g, 0, none⟩) (lowL x 4).length (lowL x 4).length)) u) := ⟨g, rfl, hg1, hg2, hg3⟩
  refine ⟨_, rfl, ?_⟩
  clear hg1 hg2 hg3
  generalize (lowL x 4).length = m at *
  generalize lowL x 4 = L at *
  simp only [nrm]
  (refine wpList_step fun K hK => ?_; replace hK := hide hK; go_simp; refine unhide hK _ _ ?_; clear hK K)
  refine wpList_nil ?_
  go_wp2_with fail
  rw [unhide hT]
  exact unhide hF
theorem exec_win {a : Act} {o : Oper} (w : World) (x y z : Operand) (ho : o.op = .slice 33 x (some y) (some z) none) (p len cap l h m : Nat) (hx : a.eval x = .slice (some ⟨p, 0, none⟩) len cap) (hy : a.eval y = .int .i64 l) (hz : a.eval z = .int .i64 h) (h1 : h = l + m) (h0 : 0 < m) (h2 : h ≤ cap) :
    (execOp a.eval o).run Tryz.prog w = .ok (.value (.slice (some ⟨p, l, none⟩) m (cap - l))) w := by
  have e0 : h - l = m := by omega
  have e1 : (0 : Int) ≤ l := by omega
  have e2 : (l : Int) ≤ h := by omega
  have e3 : (h : Int) ≤ cap := by omega
  have hu : Tryz.prog.underlying 33 = some (.slice (Tryz.prog.elem 33)) := by kernel_rfl
  have hs : (sizeOf (Tryz.prog.elem 33)).run Tryz.prog w = .ok 1 w := by kernel_rfl
  have hne : ¬ cap = l := by omega
  simp [execOp, ho, hx, hy, hz, run_sliceAt_slice _ _ _ _ _ _ hu, run_slice_lh _ _ _ _ _ hu _ _ _ _ e1 e2 e3, hs, sliced, hne, Addr.add_mid, e0]
theorem ob_at {b : Nat} {w : World} {v : Value} {L : List Int} (h : Ob b w v L) (hn : L ≠ []) : ∃ p c, v = .slice (some ⟨p, 0, none⟩) L.length c ∧ b ≤ p ∧ At w p 0 L ∧ L.length ≤ c ∧ c < 9223372036854775808 ∧ ∃ cur, w.heap[p]? = some (.cells cur 5 (0, 0)) := by
  obtain ⟨a, c, e, h1, h2, h3⟩ := h.slice
  rcases h.2 with ⟨_, e2⟩ | ⟨g, cap, cur, f1, f2, f3, _⟩
  · exact absurd (List.eq_nil_of_length_eq_zero e2) hn
  · rw [e] at f1
    injection f1 with g1 g2 g3
    subst g1 g3
    rcases h3 with h3 | ⟨p, o, h4, h5⟩
    · exact absurd h3 hn
    · have h6 := Option.some.inj h4
      injection h6 with h7 h8 _
      subst h7 h8
      exact ⟨g, c, e, f2, h5, h1, by unfold maxLen at h2; omega, cur, f3⟩
theorem exec_err {op : Oper} {a : Act} (w : World) (x : Operand) (ho : op.op = .load 29 x) (g i : Nat) (hx : a.eval x = .pointer (some ⟨g, i, none⟩)) (v : Int) (hc : w.cell? ⟨g, i, none⟩ = some (.int .i64 v)) : (execOp a.eval op).run Tryz.prog w = .ok (.value (.int .i64 v)) w := by
  unfold execOp
  simp only [ho, hx, Instr.loadAt, Instr.sureAddr, Sem.run_bind, Sem.run_pure, Result.andThen_ok]
  go_simp
theorem Chg.bt1 {g : Nat} {w v : World} (h : Chg [g] [g] w v) : Bt g w v := ⟨h.os, h.tape, h.output, h.size, fun i hi hn => h.block i hi (by simp [hn])⟩
set_option maxHeartbeats 4000000 in
theorem clone_ok (B : List Int) (p q n c : Nat) (w : World) (hB0 : Lb w (some ⟨p, q, none⟩) n c B) (hn : n ≤ 100000) : Calls Tryz.prog 33 #[.slice (some ⟨p, q, none⟩) n c] w (Infd B w) := by
  obtain ⟨T, hT⟩ : ∃ T, T = Infd B w := ⟨_, rfl⟩
  rw [← hT]
  replace hT := hide hT
  replace hB0 := hide hB0
  go_enter Tryz.func33, Tryz.ntmps33
  go_upto_region 1 with fail
  refine wp_region_lit ?_
  refine list_val (.slice (some ⟨p, q, none⟩) n c) (by kernel_rfl) (by kernel_rfl) ?_
  simp only [nrm]
  refine list_val (.bool false) (by kernel_rfl) (by kernel_rfl) ?_
  simp only [nrm]
  refine wpList_nil ?_
  go_upto_region 3 with fail
  refine wp_region_lit ?_
  refine list_valw (.slice (some ⟨w.heap.size, 0, none⟩) 0 0) (w.alloc (.cells #[] 5 (0, 0))) (by kernel_rfl) (by kernel_rfl) ?_
  have hO : Ob w.heap.size (w.alloc (.cells #[] 5 (0, 0))) (.slice (some ⟨w.heap.size, 0, none⟩) 0 0) [] := blk_bytes [] (Nat.le_refl _) (Nat.zero_le _)
  have hG := (Gr.refl w).alloc (.cells #[] 5 (0, 0))
  generalize World.alloc _ _ = u at *
  simp only [nrm]
  refine list_val (.slice (some ⟨p, q, none⟩) n c) (by kernel_rfl) (by kernel_rfl) ?_
  simp only [nrm]
  refine app_bs (by kernel_rfl) (.tmp 5) (.tmp 6) rfl w.heap.size _ [] rfl hO (some ⟨p, q, none⟩) n c B rfl (unhide hB0).len ((unhide hB0).gr hG).sl (by simp only [List.length_nil, Nat.zero_add]; omega) hG.size ?_
  intro v9 u9 hO9 hgr
  rw [List.nil_append] at hO9
  have hZ : Hid (Infd B w (.returned v9) u9) := ⟨v9, rfl, hO9, hO.grown (Nat.le_refl _) hG hgr⟩
  clear hO9 hgr hO hG
  simp only [nrm]
  (refine wpList_step fun K hK => ?_; replace hK := hide hK; go_simp; refine unhide hK _ _ ?_; clear hK K)
  refine wpList_nil ?_
  go_wp2_with fail
  rw [unhide hT]
  exact unhide hZ
def rdr (k p n c : Nat) : Array Value := #[.int .i64 (k : Int), .int .i64 0, .slice (some ⟨p, 0, none⟩) n c]
structure Rdr (g p n c k : Nat) (L : List Int) (w : World) : Prop where
  cel : w.heap[g]? = some (.cells (rdr k p n c) 152 (0, 0))
  at_ : At w p 0 L
  ne : p ≠ g
  len : L.length = n
  isB : IsB L
  cap : n ≤ c
  max : c < 9223372036854775808
theorem Rdr.gr {g p n c k : Nat} {L : List Int} {w v : World} (h : Rdr g p n c k L w) (e : Gr w v) : Rdr g p n c k L v := ⟨e.blk h.cel, fun j hj => e.cell (h.at_ j hj), h.ne, h.len, h.isB, h.cap, h.max⟩
theorem Rdr.bt {g p n c k q : Nat} {L : List Int} {w v : World} (h : Rdr g p n c k L w) (e : Bt q w v) (hq : g ≠ q) (hp : p ≠ q) : Rdr g p n c k L v := ⟨e.blk h.cel hq, h.at_.bt e hp, h.ne, h.len, h.isB, h.cap, h.max⟩
theorem Rdr.to {g p n c k m : Nat} {L : List Int} {w v : World} (h : Rdr g p n c k L w) (e : Bt g w v) (hc : v.heap[g]? = some (.cells (rdr m p n c) 152 (0, 0))) : Rdr g p n c m L v := ⟨hc, h.at_.bt e h.ne, h.ne, h.len, h.isB, h.cap, h.max⟩
def Rea (L : List Int) (w : World) (r : Ending) (w' : World) : Prop := ∃ g p c, r = .returned (.pointer (some ⟨g, 0, none⟩)) ∧ w.heap.size ≤ g ∧ w.heap.size ≤ p ∧ Rdr g p L.length c 0 L w' ∧ Gr w w'
set_option maxHeartbeats 4000000 in
theorem oread_ok (B : List Int) (p q n c : Nat) (w : World) (hB0 : Lb w (some ⟨p, q, none⟩) n c B) (hn : n ≤ 100000) (h0 : 0 < n) : Calls Tryz.prog 85 #[.slice (some ⟨p, q, none⟩) n c] w (Rea B w) := by
  obtain ⟨T, hT⟩ : ∃ T, T = Rea B w := ⟨_, rfl⟩
  rw [← hT]
  replace hT := hide hT
  replace hB0 := hide hB0
  go_enter Tryz.func85, Tryz.ntmps85
  go_upto_region 1 with fail
  refine wp_region_lit ?_
  refine list_val (.slice (some ⟨p, q, none⟩) n c) (by kernel_rfl) (by kernel_rfl) ?_
  simp only [nrm]
  refine list_call 33 #[.slice (some ⟨p, q, none⟩) n c] (by kernel_rfl) (by kernel_rfl) ((clone_ok B p q n c w (unhide hB0) hn).mono ?_)
  rintro r u ⟨v, rfl, hO, hG⟩
  have hl := (unhide hB0).len
  obtain ⟨p2, c2, rfl, h1, h2, h3, h4, cur, h5⟩ := ob_at hO (by intro e; rw [e] at hl; simp at hl; omega)
  refine ⟨_, rfl, ?_⟩
  clear hO
  replace h2 := hide h2; replace h5 := hide h5; replace hG := hide hG
  rw [hl] at h3
  rw [hl]
  simp only [nrm]
  refine list_val (.agg (rdr 0 p2 n c2)) (by kernel_rfl) (by kernel_rfl) ?_
  simp only [nrm]
  refine list_valw (.pointer (some ⟨u.heap.size, 0, none⟩)) (u.alloc (.cells (rdr 0 p2 n c2) 152 (0, 0))) (by kernel_rfl) (by kernel_rfl) ?_
  have hZ : Hid (Rea B w (.returned (.pointer (some ⟨u.heap.size, 0, none⟩))) (u.alloc (.cells (rdr 0 p2 n c2) 152 (0, 0)))) := by
    have hg2 := (Gr.refl u).alloc (.cells (rdr 0 p2 n c2) 152 (0, 0))
    have hp := lt_of_block (unhide h5)
    show Rea B w _ _
    unfold Rea
    rw [hl]
    exact ⟨u.heap.size, p2, c2, rfl, (unhide hG).size, h1, ⟨blk_new _ _, fun j hj => hg2.cell (unhide h2 j hj), (fun e => by omega), hl, (unhide hB0).isB, h3, h4⟩, (unhide hG).trans hg2⟩
  generalize World.alloc _ _ = u2 at *
  simp only [nrm]
  (refine wpList_step fun K hK => ?_; replace hK := hide hK; go_simp; refine unhide hK _ _ ?_; clear hK K)
  refine wpList_nil ?_
  go_wp2_with fail
  rw [unhide hT]
  exact unhide hZ
set_option maxHeartbeats 4000000 in
theorem rerr_ok (g p n c k : Nat) (w : World) (hc : w.heap[g]? = some (.cells (rdr k p n c) 152 (0, 0))) : Calls Tryz.prog 106 #[P0 g] w (Vl (.int .i64 0) w) := by
  obtain ⟨T, hT⟩ : ∃ T, T = Vl (.int .i64 0) w := ⟨_, rfl⟩
  rw [← hT]
  replace hT := hide hT
  replace hc := hide hc
  go_enter Tryz.func106, Tryz.ntmps106
  go_upto_region 3 with fail
  have hcl := hc
  refine wp_region_lit ?_
  refine list_val (.pointer (some ⟨g, 0, none⟩)) (by kernel_rfl) (by kernel_rfl) ?_
  simp only [nrm]
  refine list_val (.pointer (some ⟨g, 0, none⟩)) (by kernel_rfl) (by kernel_rfl) ?_
  simp only [nrm]
  refine list_val (.pointer (some ⟨g, 0, none⟩)) (by kernel_rfl) (by kernel_rfl) ?_
  simp only [nrm]
  refine list_val (.pointer (some ⟨g, 1, none⟩)) (by kernel_rfl) (by kernel_rfl) ?_
  simp only [nrm]
  refine list_val (.int .i64 0) (by kernel_rfl) (exec_err _ (.tmp 8) rfl g 1 (by kernel_rfl) 0 (cell_of (unhide hc) (i := 1) rfl)) ?_
  simp only [nrm]
  (refine wpList_step fun K hK => ?_; replace hK := hide hK; go_simp; refine unhide hK _ _ ?_; clear hK K)
  refine wpList_nil ?_
  have hZ : Hid (Vl (.int .i64 0) w (.returned (.int .i64 0)) w) := ⟨rfl, Gr.refl w⟩
  go_wp2_with fail
  rw [unhide hT]
  exact unhide hZ
set_option maxHeartbeats 4000000 in
theorem rleft_ok (g p n c k : Nat) (hkn : k ≤ n) (hn : n ≤ 100000) (w : World) (hc : w.heap[g]? = some (.cells (rdr k p n c) 152 (0, 0))) : Calls Tryz.prog 107 #[P0 g] w (Vl (.int .i64 ((n - k : Nat) : Int)) w) := by
  obtain ⟨T, hT⟩ : ∃ T, T = Vl (.int .i64 ((n - k : Nat) : Int)) w := ⟨_, rfl⟩
  rw [← hT]
  replace hT := hide hT
  obtain ⟨j, hj⟩ : ∃ j, j = n - k := ⟨_, rfl⟩
  rw [← hj] at hT
  have hw : IntKind.i64.wrap ((n : Int) - (k : Int)) = (j : Int) := by rw [IntKind.wrap_i64]; omega
  clear hj
  replace hc := hide hc
  go_enter Tryz.func107, Tryz.ntmps107
  go_upto_region 3 with fail
  refine any_start (S := fun (v : World) => v.heap[g]? = some (.cells (rdr k p n c) 152 (0, 0))) (by kernel_rfl) ?_
  have hG := (Gr.refl w).drew
  have hS : (fun (v : World) => v.heap[g]? = some (.cells (rdr k p n c) 152 (0, 0))) w.drew := hG.blk (unhide hc)
  generalize World.drew _ = x0 at *
  simp only [List.size_toArray, List.length_cons, List.length_nil, Array.replicate, List.replicate]
  refine any_take (i := 0) (v := (.pointer (some ⟨g, 0, none⟩))) #[false, false, false, false, false, false, false, false, false, false, false, false] rfl (by kernel_rfl) (by kernel_rfl) (by kernel_rfl) (by kernel_rfl) (fun _ _ _ h => h) (.inl ⟨by kernel_rfl, fun x_ hu => by kernel_rfl⟩) hS ?_
  simp only [nrm]
  refine any_take (i := 1) (v := (.pointer (some ⟨g, 0, none⟩))) #[true, false, false, false, false, false, false, false, false, false, false, false] rfl (by kernel_rfl) (by kernel_rfl) (by kernel_rfl) (by kernel_rfl) (fun _ _ _ h => h) (.inl ⟨by kernel_rfl, fun x_ hu => by kernel_rfl⟩) hS ?_
  simp only [nrm]
  refine any_take (i := 2) (v := (.pointer (some ⟨g, 2, none⟩))) #[true, true, false, false, false, false, false, false, false, false, false, false] rfl (by kernel_rfl) (by kernel_rfl) (by kernel_rfl) (by kernel_rfl) (fun _ _ _ h => h) (.inl ⟨by kernel_rfl, fun x_ hu => by kernel_rfl⟩) hS ?_
  simp only [nrm]
  refine any_take (i := 3) (v := (.slice (some ⟨p, 0, none⟩) n c)) #[true, true, true, false, false, false, false, false, false, false, false, false] rfl (by kernel_rfl) (by kernel_rfl) (by kernel_rfl) (by kernel_rfl) (fun _ _ _ h => h) (.inl ⟨by kernel_rfl, fun x_ hu => exec_sby _ (.tmp 7) rfl g 2 (by kernel_rfl) (some ⟨p, 0, none⟩) n c (cell_of hu (i := 2) rfl)⟩) hS ?_
  simp only [nrm]
  refine any_take (i := 4) (v := (.int .i64 (n : Int))) #[true, true, true, true, false, false, false, false, false, false, false, false] rfl (by kernel_rfl) (by kernel_rfl) (by kernel_rfl) (by kernel_rfl) (fun _ _ _ h => h) (.inl ⟨by kernel_rfl, fun x_ hu => by kernel_rfl⟩) hS ?_
  simp only [nrm]
  refine any_take (i := 5) (v := (.pointer (some ⟨g, 0, none⟩))) #[true, true, true, true, true, false, false, false, false, false, false, false] rfl (by kernel_rfl) (by kernel_rfl) (by kernel_rfl) (by kernel_rfl) (fun _ _ _ h => h) (.inl ⟨by kernel_rfl, fun x_ hu => by kernel_rfl⟩) hS ?_
  simp only [nrm]
  refine any_take (i := 6) (v := (.pointer (some ⟨g, 0, none⟩))) #[true, true, true, true, true, true, false, false, false, false, false, false] rfl (by kernel_rfl) (by kernel_rfl) (by kernel_rfl) (by kernel_rfl) (fun _ _ _ h => h) (.inl ⟨by kernel_rfl, fun x_ hu => by kernel_rfl⟩) hS ?_
  simp only [nrm]
  refine any_take (i := 7) (v := (.pointer (some ⟨g, 0, none⟩))) #[true, true, true, true, true, true, true, false, false, false, false, false] rfl (by kernel_rfl) (by kernel_rfl) (by kernel_rfl) (by kernel_rfl) (fun _ _ _ h => h) (.inl ⟨by kernel_rfl, fun x_ hu => by kernel_rfl⟩) hS ?_
  simp only [nrm]
  refine any_take (i := 8) (v := (.pointer (some ⟨g, 0, none⟩))) #[true, true, true, true, true, true, true, true, false, false, false, false] rfl (by kernel_rfl) (by kernel_rfl) (by kernel_rfl) (by kernel_rfl) (fun _ _ _ h => h) (.inl ⟨by kernel_rfl, fun x_ hu => by kernel_rfl⟩) hS ?_
  simp only [nrm]
  refine any_take (i := 9) (v := (.int .i64 (k : Int))) #[true, true, true, true, true, true, true, true, true, false, false, false] rfl (by kernel_rfl) (by kernel_rfl) (by kernel_rfl) (by kernel_rfl) (fun _ _ _ h => h) (.inl ⟨by kernel_rfl, fun x_ hu => exec_i64 _ (.tmp 13) rfl g 0 (by kernel_rfl) (k : Int) (cell_of hu (i := 0) rfl)⟩) hS ?_
  simp only [nrm]
  refine any_take (i := 10) (v := (.int .i64 (j : Int))) #[true, true, true, true, true, true, true, true, true, true, false, false] rfl (by kernel_rfl) (by kernel_rfl) (by kernel_rfl) (by kernel_rfl) (fun _ _ _ h => h) (.inl ⟨by kernel_rfl, fun x_ hu => by go_simp⟩) hS ?_
  simp only [nrm]
  refine any_one (i := 11) (by kernel_rfl) rfl (fun K_ hQ => ?_)
  replace hQ := hide hQ
  go_simp
  refine (unhide hQ).out _ _ hS (fun _ => ?_)
  clear hQ K_
  refine any_done (by kernel_rfl) ?_
  have hZ : Hid (Vl (.int .i64 (j : Int)) w (.returned (.int .i64 (j : Int))) x0) := ⟨rfl, hG⟩
  replace hG := hide hG
  go_wp2_with fail
  rw [unhide hT]
  exact unhide hZ
def Tkn (g p n c k m : Nat) (L : List Int) (w : World) (r : Ending) (w' : World) : Prop := r = .returned (.slice (some ⟨p, k, none⟩) m (c - k)) ∧ Rdr g p n c (k + m) L w' ∧ Bt g w w'
set_option maxHeartbeats 4000000 in
theorem rtake_ok (g p n c k m : Nat) (L : List Int) (w : World) (hR : Rdr g p n c k L w) (hkn : k + m ≤ n) (hm : 0 < m) (hn : n ≤ 100000) : Calls Tryz.prog 100 #[P0 g, .int .i64 (m : Int)] w (Tkn g p n c k m L w) := by
  obtain ⟨T, hT⟩ : ∃ T, T = Tkn g p n c k m L w := ⟨_, rfl⟩
  rw [← hT]
  replace hT := hide hT
  have hcn := hR.cap
  obtain ⟨km, hkm⟩ : ∃ x, x = k + m := ⟨_, rfl⟩
  have hw1 : IntKind.i64.wrap ((k : Int) + (m : Int)) = (km : Int) := by rw [IntKind.wrap_i64]; omega
  obtain ⟨j, hj⟩ : ∃ j, j = n - k := ⟨_, rfl⟩
  have hmj : ¬ (j : Int) < (m : Int) := by omega
  have hB := (Bc.nil [g] w).add ⟨g, rdr k p n c, 152⟩ hR.cel (.inl (by simp)) (fun y hy => by cases hy)
  replace hB : Bc [g] w [⟨g, rdr k p n c, 152⟩] w := hB
  replace hR := hide hR; replace hB := hide hB; replace hkm := hide hkm; replace hj := hide hj
  go_enter Tryz.func100, Tryz.ntmps100
  go_upto_region 1 with fail
  replace hB := unhide hB
  refine wp_region_lit ?_
  refine list_val (.pointer (some ⟨g, 0, none⟩)) (by kernel_rfl) (by kernel_rfl) ?_
  simp only [nrm]
  refine list_call 106 #[.pointer (some ⟨g, 0, none⟩)] (by kernel_rfl) (by kernel_rfl) ((rerr_ok g p n c k _ (hB.get 0 (x := ⟨g, rdr k p n c, 152⟩) rfl)).mono ?_)
  rintro r u1 ⟨rfl, hg⟩
  refine ⟨_, rfl, ?_⟩
  replace hB := hB.more hg
  clear hg
  simp only [nrm]
  refine list_val (.bool false) (by kernel_rfl) (by go_simp) ?_
  simp only [nrm]
  refine wpList_nil ?_
  replace hB := hide hB
  go_upto_region 6 with fail
  replace hB := unhide hB
  refine wp_region_lit ?_
  refine list_val (.int .i64 (m : Int)) (by kernel_rfl) (by kernel_rfl) ?_
  simp only [nrm]
  refine list_val (.pointer (some ⟨g, 0, none⟩)) (by kernel_rfl) (by kernel_rfl) ?_
  simp only [nrm]
  refine list_call 107 #[.pointer (some ⟨g, 0, none⟩)] (by kernel_rfl) (by kernel_rfl) ((rleft_ok g p n c k (by omega) hn _ (hB.get 0 (x := ⟨g, rdr k p n c, 152⟩) rfl)).mono ?_)
  rintro r u2 ⟨rfl, hg⟩
  refine ⟨_, rfl, ?_⟩
  rw [← unhide hj]
  replace hB := hB.more hg
  clear hg
  simp only [nrm]
  refine list_val (.bool false) (by kernel_rfl) (by go_simp) ?_
  simp only [nrm]
  refine wpList_nil ?_
  replace hB := hide hB
  go_upto_region 9 with fail
  replace hB := unhide hB
  refine wp_region_lit ?_
  refine list_val (.pointer (some ⟨g, 0, none⟩)) (by kernel_rfl) (by kernel_rfl) ?_
  simp only [nrm]
  refine list_val (.pointer (some ⟨g, 0, none⟩)) (by kernel_rfl) (by kernel_rfl) ?_
  simp only [nrm]
  refine list_val (.pointer (some ⟨g, 0, none⟩)) (by kernel_rfl) (by kernel_rfl) ?_
  simp only [nrm]
  refine list_val (.pointer (some ⟨g, 0, none⟩)) (by kernel_rfl) (by kernel_rfl) ?_
  simp only [nrm]
  refine list_val (.int .i64 (k : Int)) (by kernel_rfl) (exec_i64 _ (.tmp 26) rfl g 0 (by kernel_rfl) (k : Int) (cell_of (hB.get 0 (x := ⟨g, rdr k p n c, 152⟩) rfl) (i := 0) rfl)) ?_
  simp only [nrm]
  (refine wpList_step fun K hK => ?_; replace hK := hide hK; go_simp; refine unhide hK _ _ ?_; clear hK K)
  refine wpList_nil ?_
  replace hB := hide hB
  go_upto_region 10 with fail
  replace hB := unhide hB
  refine wp_region_lit ?_
  refine list_val (.pointer (some ⟨g, 0, none⟩)) (by kernel_rfl) (by kernel_rfl) ?_
  simp only [nrm]
  refine list_val (.pointer (some ⟨g, 0, none⟩)) (by kernel_rfl) (by kernel_rfl) ?_
  simp only [nrm]
  refine list_val (.pointer (some ⟨g, 0, none⟩)) (by kernel_rfl) (by kernel_rfl) ?_
  simp only [nrm]
  refine list_val (.pointer (some ⟨g, 0, none⟩)) (by kernel_rfl) (by kernel_rfl) ?_
  simp only [nrm]
  refine list_val (.int .i64 (k : Int)) (by kernel_rfl) (exec_i64 _ (.tmp 31) rfl g 0 (by kernel_rfl) (k : Int) (cell_of (hB.get 0 (x := ⟨g, rdr k p n c, 152⟩) rfl) (i := 0) rfl)) ?_
  simp only [nrm]
  refine list_val (.int .i64 (m : Int)) (by kernel_rfl) (by kernel_rfl) ?_
  simp only [nrm]
  refine list_val (.int .i64 (km : Int)) (by kernel_rfl) (by go_simp) ?_
  simp only [nrm]
  refine list_val (.pointer (some ⟨g, 0, none⟩)) (by kernel_rfl) (by kernel_rfl) ?_
  simp only [nrm]
  refine list_val (.pointer (some ⟨g, 0, none⟩)) (by kernel_rfl) (by kernel_rfl) ?_
  simp only [nrm]
  refine list_val (.pointer (some ⟨g, 0, none⟩)) (by kernel_rfl) (by kernel_rfl) ?_
  simp only [nrm]
  have c4 := cell_of (hB.get 0 (x := ⟨g, rdr k p n c, 152⟩) rfl) (i := 0) rfl
  have fz := froz_of (i := 0) (hB.get 0 (x := ⟨g, rdr k p n c, 152⟩) rfl)
  have hB2 := hB.cell 0 (x := ⟨g, rdr k p n c, 152⟩) rfl 0 (.int .i64 (km : Int))
  simp only [List.set_cons_zero, List.set_cons_succ] at hB2
  replace hB2 : Bc [g] w [⟨g, rdr km p n c, 152⟩] _ := hB2
  clear hB
  replace hB2 := hide hB2
  dsimp only at c4 fz
  (refine wpList_step fun K hK => ?_; replace hK := hide hK; go_simp; refine unhide hK _ _ ?_; clear hK K)
  clear c4 fz
  have hB := unhide hB2
  clear hB2
  generalize World.setCell _ _ _ = u3 at *
  refine wpList_nil ?_
  clear hw1
  replace hB := hide hB
  go_upto_region 11 with fail
  replace hB := unhide hB
  refine any_start (S := fun (v : World) => v.heap[g]? = some (.cells (rdr km p n c) 152 (0, 0))) (by kernel_rfl) ?_
  replace hB := hB.drew
  generalize World.drew _ = x0 at *
  have hS : (fun (v : World) => v.heap[g]? = some (.cells (rdr km p n c) 152 (0, 0))) x0 := (hB.get 0 (x := ⟨g, rdr km p n c, 152⟩) rfl)
  replace hB := hide hB
  simp only [List.size_toArray, List.length_cons, List.length_nil, Array.replicate, List.replicate]
  refine any_take (i := 0) (v := (.pointer (some ⟨g, 0, none⟩))) #[false, false, false, false, false, false, false, false, false, false, false, false] rfl (by kernel_rfl) (by kernel_rfl) (by kernel_rfl) (by kernel_rfl) (fun _ _ _ h => h) (.inl ⟨by kernel_rfl, fun x_ hu => by kernel_rfl⟩) hS ?_
  simp only [nrm]
  refine any_take (i := 1) (v := (.pointer (some ⟨g, 0, none⟩))) #[true, false, false, false, false, false, false, false, false, false, false, false] rfl (by kernel_rfl) (by kernel_rfl) (by kernel_rfl) (by kernel_rfl) (fun _ _ _ h => h) (.inl ⟨by kernel_rfl, fun x_ hu => by kernel_rfl⟩) hS ?_
  simp only [nrm]
  refine any_take (i := 2) (v := (.pointer (some ⟨g, 2, none⟩))) #[true, true, false, false, false, false, false, false, false, false, false, false] rfl (by kernel_rfl) (by kernel_rfl) (by kernel_rfl) (by kernel_rfl) (fun _ _ _ h => h) (.inl ⟨by kernel_rfl, fun x_ hu => by kernel_rfl⟩) hS ?_
  simp only [nrm]
  refine any_take (i := 3) (v := (.slice (some ⟨p, 0, none⟩) n c)) #[true, true, true, false, false, false, false, false, false, false, false, false] rfl (by kernel_rfl) (by kernel_rfl) (by kernel_rfl) (by kernel_rfl) (fun _ _ _ h => h) (.inl ⟨by kernel_rfl, fun x_ hu => exec_sby _ (.tmp 40) rfl g 2 (by kernel_rfl) (some ⟨p, 0, none⟩) n c (cell_of hu (i := 2) rfl)⟩) hS ?_
  simp only [nrm]
  refine any_take (i := 4) (v := (.int .i64 (k : Int))) #[true, true, true, true, false, false, false, false, false, false, false, false] rfl (by kernel_rfl) (by kernel_rfl) (by kernel_rfl) (by kernel_rfl) (fun _ _ _ h => h) (.inl ⟨by kernel_rfl, fun x_ hu => by kernel_rfl⟩) hS ?_
  simp only [nrm]
  refine any_take (i := 5) (v := (.pointer (some ⟨g, 0, none⟩))) #[true, true, true, true, true, false, false, false, false, false, false, false] rfl (by kernel_rfl) (by kernel_rfl) (by kernel_rfl) (by kernel_rfl) (fun _ _ _ h => h) (.inl ⟨by kernel_rfl, fun x_ hu => by kernel_rfl⟩) hS ?_
  simp only [nrm]
  refine any_take (i := 6) (v := (.pointer (some ⟨g, 0, none⟩))) #[true, true, true, true, true, true, false, false, false, false, false, false] rfl (by kernel_rfl) (by kernel_rfl) (by kernel_rfl) (by kernel_rfl) (fun _ _ _ h => h) (.inl ⟨by kernel_rfl, fun x_ hu => by kernel_rfl⟩) hS ?_
  simp only [nrm]
  refine any_take (i := 7) (v := (.pointer (some ⟨g, 0, none⟩))) #[true, true, true, true, true, true, true, false, false, false, false, false] rfl (by kernel_rfl) (by kernel_rfl) (by kernel_rfl) (by kernel_rfl) (fun _ _ _ h => h) (.inl ⟨by kernel_rfl, fun x_ hu => by kernel_rfl⟩) hS ?_
  simp only [nrm]
  refine any_take (i := 8) (v := (.pointer (some ⟨g, 0, none⟩))) #[true, true, true, true, true, true, true, true, false, false, false, false] rfl (by kernel_rfl) (by kernel_rfl) (by kernel_rfl) (by kernel_rfl) (fun _ _ _ h => h) (.inl ⟨by kernel_rfl, fun x_ hu => by kernel_rfl⟩) hS ?_
  simp only [nrm]
  refine any_take (i := 9) (v := (.int .i64 (km : Int))) #[true, true, true, true, true, true, true, true, true, false, false, false] rfl (by kernel_rfl) (by kernel_rfl) (by kernel_rfl) (by kernel_rfl) (fun _ _ _ h => h) (.inl ⟨by kernel_rfl, fun x_ hu => exec_i64 _ (.tmp 46) rfl g 0 (by kernel_rfl) (km : Int) (cell_of hu (i := 0) rfl)⟩) hS ?_
  simp only [nrm]
  refine any_take (i := 10) (v := (.slice (some ⟨p, k, none⟩) m (c - k))) #[true, true, true, true, true, true, true, true, true, true, false, false] rfl (by kernel_rfl) (by kernel_rfl) (by kernel_rfl) (by kernel_rfl) (fun _ _ _ h => h) (.inl ⟨by kernel_rfl, fun x_ hu => exec_win _ (.tmp 41) (.tmp 42) (.tmp 47) rfl p n c k km m (by kernel_rfl) (by kernel_rfl) (by kernel_rfl) (unhide hkm) hm (by have := unhide hkm; omega)⟩) hS ?_
  simp only [nrm]
  refine any_one (i := 11) (by kernel_rfl) rfl (fun K_ hQ => ?_)
  replace hQ := hide hQ
  go_simp
  refine (unhide hQ).out _ _ hS (fun _ => ?_)
  clear hQ K_
  refine any_done (by kernel_rfl) ?_
  have hZ : Hid (Tkn g p n c k m L w (.returned (.slice (some ⟨p, k, none⟩) m (c - k))) x0) := by
    have hb := (unhide hB).chg.bt1
    refine ⟨rfl, (unhide hR).to hb ?_, hb⟩
    rw [← unhide hkm]
    exact hS
  generalize c - k = cc at *
  clear hS
  go_wp2_with fail
  rw [unhide hT]
  exact unhide hZ
set_option maxHeartbeats 4000000 in
theorem ru64_ok (g p n c k : Nat) (L : List Int) (w : World) (hR : Rdr g p n c k L w) (hkn : k + 8 ≤ n) (hn : n ≤ 100000) : Calls Tryz.prog 101 #[P0 g] w (fun r w' => r = .returned (.int .u64 (lowN ((L.drop k).take 8))) ∧ Rdr g p n c (k + 8) L w' ∧ Bt g w w') := by
  obtain ⟨T, hT⟩ : ∃ T : Ending → World → Prop, T = fun r w' => r = .returned (.int .u64 (lowN ((L.drop k).take 8))) ∧ Rdr g p n c (k + 8) L w' ∧ Bt g w w' := ⟨_, rfl⟩
  rw [← hT]
  replace hT := hide hT
  have hl : ((L.drop k).take 8).length = 8 := by rw [List.length_take, List.length_drop, hR.len]; omega
  have hb : IsB ((L.drop k).take 8) := fun x hx => hR.isB x (List.mem_of_mem_drop (List.mem_of_mem_take hx))
  have hbd := lowN_bd _ hb
  rw [hl] at hbd
  replace hR := hide hR; replace hb := hide hb
  go_enter Tryz.func101, Tryz.ntmps101
  go_upto_region 1 with fail
  refine wp_region_lit ?_
  refine list_val (.pointer (some ⟨g, 0, none⟩)) (by kernel_rfl) (by kernel_rfl) ?_
  simp only [nrm]
  refine list_call 100 #[P0 g, .int .i64 (8 : Nat)] (by kernel_rfl) (by kernel_rfl) ((rtake_ok g p n c k 8 L w (unhide hR) hkn (by omega) hn).mono ?_)
  rintro r u1 ⟨rfl, hR1, hb1⟩
  refine ⟨_, rfl, ?_⟩
  have hat : At u1 p k ((L.drop k).take 8) := by
    have h := (hR1.at_.drop k).take 8
    rw [Nat.zero_add] at h
    exact h
  replace hat := hide hat; replace hR1 := hide hR1; replace hb1 := hide hb1
  simp only [nrm]
  refine list_call 99 #[.slice (some ⟨p, k, none⟩) 8 (c - k)] (by kernel_rfl) (by kernel_rfl) ((onum_ok p k 8 (c - k) _ u1 hl (by omega) (unhide hb) (unhide hat)).mono ?_)
  rintro r u2 ⟨rfl, rfl⟩
  refine ⟨_, rfl, ?_⟩
  generalize lowN ((L.drop k).take 8) = y at *
  simp only [nrm]
  (refine wpList_step fun K hK => ?_; replace hK := hide hK; go_simp; refine unhide hK _ _ ?_; clear hK K)
  refine wpList_nil ?_
  have hZ : Hid (T (.returned (.int .u64 y)) u2) := by
    rw [unhide hT]
    exact ⟨rfl, unhide hR1, unhide hb1⟩
  clear hbd
  go_wp2_with fail
  exact unhide hZ
set_option maxHeartbeats 4000000 in
theorem ru32_ok (g p n c k : Nat) (L : List Int) (w : World) (hR : Rdr g p n c k L w) (hkn : k + 4 ≤ n) (hn : n ≤ 100000) : Calls Tryz.prog 86 #[P0 g] w (fun r w' => r = .returned (.int .u32 (lowN ((L.drop k).take 4))) ∧ Rdr g p n c (k + 4) L w' ∧ Bt g w w') := by
  obtain ⟨T, hT⟩ : ∃ T : Ending → World → Prop, T = fun r w' => r = .returned (.int .u32 (lowN ((L.drop k).take 4))) ∧ Rdr g p n c (k + 4) L w' ∧ Bt g w w' := ⟨_, rfl⟩
  rw [← hT]
  replace hT := hide hT
  have hl : ((L.drop k).take 4).length = 4 := by rw [List.length_take, List.length_drop, hR.len]; omega
  have hb : IsB ((L.drop k).take 4) := fun x hx => hR.isB x (List.mem_of_mem_drop (List.mem_of_mem_take hx))
  have hbd := lowN_bd _ hb
  rw [hl] at hbd
  replace hR := hide hR; replace hb := hide hb
  go_enter Tryz.func86, Tryz.ntmps86
  go_upto_region 1 with fail
  refine wp_region_lit ?_
  refine list_val (.pointer (some ⟨g, 0, none⟩)) (by kernel_rfl) (by kernel_rfl) ?_
  simp only [nrm]
  refine list_call 100 #[P0 g, .int .i64 (4 : Nat)] (by kernel_rfl) (by kernel_rfl) ((rtake_ok g p n c k 4 L w (unhide hR) hkn (by omega) hn).mono ?_)
  rintro r u1 ⟨rfl, hR1, hb1⟩
  refine ⟨_, rfl, ?_⟩
  have hat : At u1 p k ((L.drop k).take 4) := by
    have h := (hR1.at_.drop k).take 4
    rw [Nat.zero_add] at h
    exact h
  replace hat := hide hat; replace hR1 := hide hR1; replace hb1 := hide hb1
  simp only [nrm]
  refine list_call 99 #[.slice (some ⟨p, k, none⟩) 4 (c - k)] (by kernel_rfl) (by kernel_rfl) ((onum_ok p k 4 (c - k) _ u1 hl (by omega) (unhide hb) (unhide hat)).mono ?_)
  rintro r u2 ⟨rfl, rfl⟩
  refine ⟨_, rfl, ?_⟩
  generalize lowN ((L.drop k).take 4) = y at *
  rw [show (256 : Int) ^ 4 = 4294967296 from by decide] at hbd
  have e9 : IntKind.u32.wrap y = y := by rw [IntKind.wrap_u32]; omega
  simp only [nrm]
  refine list_val (.int .u32 y) (by kernel_rfl) (by go_simp) ?_
  simp only [nrm]
  (refine wpList_step fun K hK => ?_; replace hK := hide hK; go_simp; refine unhide hK _ _ ?_; clear hK K)
  refine wpList_nil ?_
  have hZ : Hid (T (.returned (.int .u32 y)) u2) := by
    rw [unhide hT]
    exact ⟨rfl, unhide hR1, unhide hb1⟩
  clear hbd
  go_wp2_with fail
  exact unhide hZ
set_option maxHeartbeats 4000000 in
theorem rraw_ok (g p n c k m : Nat) (L : List Int) (w : World) (hR : Rdr g p n c k L w) (hkn : k + m ≤ n) (hm : 0 < m) (hn : n ≤ 100000) : Calls Tryz.prog 87 #[P0 g, .int .i64 (m : Int)] w (fun r w' => ∃ v, r = .returned v ∧ Ob w.heap.size w' v ((L.drop k).take m) ∧ Rdr g p n c (k + m) L w' ∧ Bt g w w') := by
  obtain ⟨T, hT⟩ : ∃ T : Ending → World → Prop, T = fun r w' => ∃ v, r = .returned v ∧ Ob w.heap.size w' v ((L.drop k).take m) ∧ Rdr g p n c (k + m) L w' ∧ Bt g w w' := ⟨_, rfl⟩
  rw [← hT]
  replace hT := hide hT
  have hl : ((L.drop k).take m).length = m := by rw [List.length_take, List.length_drop, hR.len]; omega
  have hb : IsB ((L.drop k).take m) := fun x hx => hR.isB x (List.mem_of_mem_drop (List.mem_of_mem_take hx))
  replace hR := hide hR; replace hb := hide hb
  go_enter Tryz.func87, Tryz.ntmps87
  go_upto_region 1 with fail
  refine wp_region_lit ?_
  refine list_val (.pointer (some ⟨g, 0, none⟩)) (by kernel_rfl) (by kernel_rfl) ?_
  simp only [nrm]
  refine list_val (.int .i64 (m : Int)) (by kernel_rfl) (by kernel_rfl) ?_
  simp only [nrm]
  refine list_call 100 #[P0 g, .int .i64 (m : Int)] (by kernel_rfl) (by kernel_rfl) ((rtake_ok g p n c k m L w (unhide hR) hkn hm hn).mono ?_)
  rintro r u1 ⟨rfl, hR1, hb1⟩
  refine ⟨_, rfl, ?_⟩
  have hlb : Lb u1 (some ⟨p, k, none⟩) m (c - k) ((L.drop k).take m) := by
    have h := (hR1.at_.drop k).take m
    rw [Nat.zero_add] at h
    exact ⟨hl, unhide hb, .inr ⟨p, k, rfl, h⟩, by have := hR1.cap; omega, by have := hR1.max; omega⟩
  replace hlb := hide hlb; replace hR1 := hide hR1; replace hb1 := hide hb1
  simp only [nrm]
  refine list_call 33 #[.slice (some ⟨p, k, none⟩) m (c - k)] (by kernel_rfl) (by kernel_rfl) ((clone_ok _ p k m (c - k) u1 (unhide hlb) (by omega)).mono ?_)
  rintro r u2 ⟨v, rfl, hO, hG⟩
  refine ⟨_, rfl, ?_⟩
  have hZ : Hid (T (.returned v) u2) := by
    rw [unhide hT]
    exact ⟨v, rfl, ob_base hO (unhide hb1).size, (unhide hR1).gr hG, (unhide hb1).trans (hG.bt g)⟩
  clear hO hG
  simp only [nrm]
  (refine wpList_step fun K hK => ?_; replace hK := hide hK; go_simp; refine unhide hK _ _ ?_; clear hK K)
  refine wpList_nil ?_
  go_wp2_with fail
  exact unhide hZ
end Go.Proofs.YtaoiejgjdmakjaaGreatDoor
