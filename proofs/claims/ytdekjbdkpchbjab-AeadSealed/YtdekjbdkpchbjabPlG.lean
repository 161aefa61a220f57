/-
  What a Code holds; what take does.
-/
import Derived.Test.YtdekjbdkpchbjabPlF
namespace Go.Proofs.Ytdekjbdkpchbjab
open Go.RowKit
set_option maxRecDepth 100000
set_option linter.unusedSimpArgs false
set_option linter.unusedVariables false
/-- five digits -/
structure F5 where
  (a b c d e : Int)
def F5.l (x : F5) : List Value := [.int .u64 x.a, .int .u64 x.b, .int .u64 x.c, .int .u64 x.d, .int .u64 x.e]
def F5.v (x : F5) : Int := v5 x.a x.b x.c x.d x.e
def Fd (x : F5) : Prop := Dg x.a ∧ Dg x.b ∧ Dg x.c ∧ Dg x.d ∧ Dg x.e
def Fc (n : Int) (x : F5) : Prop := Car n x.a x.b x.c x.d x.e
/-- the cells of a Code -/
def cdl (l : List Int) (f : Int) (S M A : F5) : List Value := l.map (Value.int .u8) ++ (.int .i64 f :: (S.l ++ (M.l ++ A.l)))
def cd (l : List Int) (f : Int) (S M A : F5) : Array Value := (cdl l f S M A).toArray
/-- a Code lies at g -/
def Lies (g : Nat) (l : List Int) (f : Int) (S M A : F5) (w : World) : Prop := l.length = 16 ∧ w.heap[g]? = some (.cells (cd l f S M A) 64 (0, 0))
theorem Lies.gr {g : Nat} {l : List Int} {f : Int} {S M A : F5} {w v : World} (h : Lies g l f S M A w) (k : Gr w v) : Lies g l f S M A v := ⟨h.1, k.blk h.2⟩
theorem cdl_len (l : List Int) (f : Int) (S M A : F5) (h : l.length = 16) : (cdl l f S M A).length = 32 := by unfold cdl F5.l; simp [h]
theorem Lies.rng {g : Nat} {l : List Int} {f : Int} {S M A : F5} {w : World} (h : Lies g l f S M A w) (o : Nat) (X : List Value) (hX : (cdl l f S M A).drop o = X ++ (cdl l f S M A).drop (o + X.length)) : w.rangeAt g o X := by
  intro j v hj
  refine cell_of h.2 ?_
  unfold cd
  have hlt := (List.getElem?_eq_some_iff.1 hj).1
  rw [List.getElem?_toArray, ← List.getElem?_drop, hX, List.getElem?_append_left hlt]
  exact hj
theorem drop_l (l : List Int) (r : List Value) (h : l.length = 16) (k : Nat) : (l.map (Value.int .u8) ++ r).drop (16 + k) = r.drop k := by
  rw [List.drop_append, List.drop_eq_nil_of_le (by simp [h]), List.nil_append, List.length_map, h, Nat.add_sub_cancel_left]
theorem Lies.sum {g : Nat} {l : List Int} {f : Int} {S M A : F5} {w : World} (h : Lies g l f S M A w) : w.rangeAt g 17 S.l := by
  refine h.rng 17 S.l ?_
  unfold cdl
  rw [drop_l l _ h.1 1, show S.l.length = 5 from rfl, drop_l l _ h.1 6]
  rfl
theorem Lies.mul {g : Nat} {l : List Int} {f : Int} {S M A : F5} {w : World} (h : Lies g l f S M A w) : w.rangeAt g 22 M.l := by
  refine h.rng 22 M.l ?_
  unfold cdl
  rw [drop_l l _ h.1 6, show M.l.length = 5 from rfl, drop_l l _ h.1 11]
  rfl
theorem Lies.add {g : Nat} {l : List Int} {f : Int} {S M A : F5} {w : World} (h : Lies g l f S M A w) : w.rangeAt g 27 A.l := by
  refine h.rng 27 A.l ?_
  unfold cdl
  rw [drop_l l _ h.1 11, show A.l.length = 5 from rfl, drop_l l _ h.1 16]
  rfl
theorem Lies.fill {g : Nat} {l : List Int} {f : Int} {S M A : F5} {w : World} (h : Lies g l f S M A w) : w.cell? ⟨g, 16, none⟩ = some (.int .i64 f) := by
  refine cell_of h.2 ?_
  unfold cd cdl
  rw [List.getElem?_toArray, List.getElem?_append_right (by simp [h.1])]
  simp [h.1]
theorem Lies.left {g : Nat} {l : List Int} {f : Int} {S M A : F5} {w : World} (h : Lies g l f S M A w) : At w g 0 l := by
  intro j hj
  refine cell_of h.2 ?_
  unfold cd cdl
  rw [List.getElem?_toArray, Nat.zero_add, List.getElem?_append_left (by simpa using hj)]
  simp [hj]
theorem Lies.setS {g : Nat} {l : List Int} {f : Int} {S M A : F5} {w : World} (h : Lies g l f S M A w) (S' : F5) : Lies g l f S' M A (w.setCells g 17 S'.l) := by
  refine ⟨h.1, ?_⟩
  rw [setCells_heap _ w g 17 _ _ h.2]
  have e := sp_mid S'.l (l.map (Value.int .u8) ++ [.int .i64 f]) S.l (M.l ++ A.l) rfl
  have e1 : (l.map (Value.int .u8) ++ [Value.int .i64 f]).length = 17 := by simp [h.1]
  rw [e1] at e
  have e2 : cdl l f S M A = l.map (Value.int .u8) ++ [Value.int .i64 f] ++ (S.l ++ (M.l ++ A.l)) := by unfold cdl; simp
  have e3 : cdl l f S' M A = l.map (Value.int .u8) ++ [Value.int .i64 f] ++ (S'.l ++ (M.l ++ A.l)) := by unfold cdl; simp
  rw [e2, e, ← e3]
  rfl
theorem Lies.setF {g : Nat} {l : List Int} {f : Int} {S M A : F5} {w : World} (h : Lies g l f S M A w) (f' : Int) : Lies g l f' S M A (w.setCell ⟨g, 16, none⟩ (.int .i64 f')) := by
  refine ⟨h.1, ?_⟩
  rw [heap_setCell_same w g 16 _ _ _ h.2]
  unfold cd
  rw [List.setIfInBounds_toArray]
  have e : (cdl l f S M A).set 16 (.int .i64 f') = cdl l f' S M A := by
    unfold cdl
    rw [List.set_append_right _ _ (by simp [h.1])]
    simp [h.1]
  rw [e]
theorem Lies.setL {g : Nat} {l : List Int} {f : Int} {S M A : F5} {w : World} (h : Lies g l f S M A w) (o : Nat) (B : List Int) (ho : o + B.length ≤ 16) : Lies g (lay l o B) f S M A (w.setCells g o (B.map (Value.int .u8))) := by
  have hl := h.1
  refine ⟨by rw [lay_len _ _ _ (by omega), hl], ?_⟩
  rw [setCells_heap _ w g o _ _ h.2]
  have e : cdl l f S M A = (l.take o).map (Value.int .u8) ++ (((l.drop o).take B.length).map (Value.int .u8) ++ ((l.drop (o + B.length)).map (Value.int .u8) ++ (.int .i64 f :: (S.l ++ (M.l ++ A.l))))) := by
    unfold cdl
    generalize (Value.int .i64 f :: (S.l ++ (M.l ++ A.l))) = R
    rw [← List.append_assoc, ← List.append_assoc, ← List.map_append, ← List.map_append]
    congr 2
    rw [List.append_assoc, ← List.drop_drop, List.take_append_drop, List.take_append_drop]
  have h1 := sp_mid (B.map (Value.int .u8)) ((l.take o).map (Value.int .u8)) (((l.drop o).take B.length).map (Value.int .u8)) ((l.drop (o + B.length)).map (Value.int .u8) ++ (.int .i64 f :: (S.l ++ (M.l ++ A.l)))) (by simp; omega)
  rw [List.length_map, List.length_take, Nat.min_eq_left (by omega), ← e] at h1
  rw [h1]
  unfold cd cdl lay
  simp
theorem exec_five {op : Oper} {a : Act} (w : World) (x : Operand) (ho : op.op = .load 59 x) (g o : Nat) (hx : a.eval x = .pointer (some ⟨g, o, none⟩)) (X : F5) (h : w.rangeAt g o X.l) : (execOp a.eval op).run Try.prog w = .ok (.value (.agg (fc X.a X.b X.c X.d X.e))) w := by
  have := exec_row (P := Try.prog) w 59 x ho g o hx X.l _ h Try.underlying59 rfl Try.infoL
  exact this
theorem store_five {ops : Array Oper} {Q : Exit → Act → World → Prop} {a : Act} {w : World} {o : Oper} {K : Act → World → Prop} {E : Prop} (x y : Operand) (g off : Nat) (X : F5) (hw : Region.wanted o (yielded ops a.tmps) = true) (ho : o.op = .store 59 x y)
    (hx : a.eval x = .pointer (some ⟨g, off, none⟩)) (hy : a.eval y = .agg (fc X.a X.b X.c X.d X.e)) (ht : w.there g off 5)
    (h : K (a.put o.dst undef) (w.setCells g off X.l)) : if Region.wanted o (yielded ops a.tmps) = true then Oper.wp Try.prog o a w K Q else E := by
  rw [if_pos hw]
  exact wp_store_mid 59 x y ho g off (fc X.a X.b X.c X.d X.e) hx hy ht Try.infoL (fc_one _ _ _ _ _) h
theorem Lies.there {g : Nat} {l : List Int} {f : Int} {S M A : F5} {w : World} (h : Lies g l f S M A w) (o n : Nat) (hn : o + n ≤ 32) : w.there g o n := there_of h.2 (by rw [cdl_len _ _ _ _ _ h.1]; exact hn)
/-- the sum, from another one on -/
def acF (r a0 : Nat) (B : List Int) : Nat → Nat
  | 0 => a0
  | k + 1 => (acF r a0 B k + bN B k) * r % P5
theorem acc_step (x : Int) (n b r : Nat) (h : x % 1361129467683753853853498429727072845819 = (n : Int)) : (x + (b : Int)) * (r : Int) % 1361129467683753853853498429727072845819 = (((n + b) * r % P5 : Nat) : Int) := by
  rw [Int.natCast_emod, Int.natCast_mul, Int.natCast_add, ← h, P5_eq, show ((1361129467683753853853498429727072845819 : Nat) : Int) = 1361129467683753853853498429727072845819 from rfl]
  have hx : x = 1361129467683753853853498429727072845819 * (x / 1361129467683753853853498429727072845819) + x % 1361129467683753853853498429727072845819 := by omega
  generalize x % 1361129467683753853853498429727072845819 = y at *
  generalize x / 1361129467683753853853498429727072845819 = q at *
  subst hx
  have e : (1361129467683753853853498429727072845819 * q + y + (b : Int)) * (r : Int) = (y + b) * r + 1361129467683753853853498429727072845819 * (q * r) := by
    rw [show 1361129467683753853853498429727072845819 * q + y + (b : Int) = 1361129467683753853853498429727072845819 * q + (y + b) from by omega, Int.add_mul, Int.mul_assoc, Int.add_comm]
  rw [e, Int.add_mul_emod_self_left]
theorem lowN_blk (B : List Int) (k : Nat) (hb : IsB B) (h : 16 * (k + 1) ≤ B.length) : lowN ((B.drop (16 * k)).take 16) + 340282366920938463463374607431768211456 = ((bN B k : Nat) : Int) := by
  have hB := (hb.drop (16 * k)).take 16
  have hl : ((B.drop (16 * k)).take 16).length = 16 := by rw [List.length_take, List.length_drop]; omega
  rw [lowN_V _ hB]
  unfold bN
  rw [V_snoc, nb_len, hl]
  have e : (256 : Nat) ^ 16 = 340282366920938463463374607431768211456 := by decide
  rw [e]
  omega
/-- bytes that lie where take does not write -/
def Off (g : Nat) (l : List Int) (f : Int) (M A : F5) (w : World) (a : Option Addr) (n c : Nat) (B : List Int) : Prop := ∀ v S, Bt g w v → Lies g l f S M A v → Lb v a n c B
/-- where take stands behind j blocks -/
structure TI (r n0 : Nat) (g : Nat) (l : List Int) (f : Int) (M A : F5) (B : List Int) (w : World) (j : Nat) (S : F5) (v : World) : Prop where
  lies : Lies g l f S M A v
  car : Fc ((acF r n0 B j : Nat) : Int) S
  bt : Bt g w v
/-- what take answers and leaves -/
def Took (r n0 : Nat) (g : Nat) (l : List Int) (f : Int) (M A : F5) (B : List Int) (w : World) (e : Ending) (v : World) : Prop := ∃ a' c' S, e = .returned (.slice a' (B.length % 16) c') ∧ Off g l f M A w a' (B.length % 16) c' (B.drop (16 * (B.length / 16))) ∧ TI r n0 g l f M A B w (B.length / 16) S v
def slen : Value → Nat
  | .slice _ n _ => n
  | _ => 0
theorem TI.gr {r n0 : Nat} {g : Nat} {l : List Int} {f : Int} {M A : F5} {B : List Int} {w : World} {j : Nat} {S : F5} {u v : World} (h : TI r n0 g l f M A B w j S u) (k : Gr u v) : TI r n0 g l f M A B w j S v := ⟨h.lies.gr k, h.car, h.bt.trans (k.bt g)⟩
theorem TI.step {r n0 : Nat} {g : Nat} {l : List Int} {f : Int} {M A : F5} {B : List Int} {w : World} {j : Nat} {S : F5} {v : World} (h : TI r n0 g l f M A B w j S v) (S' : F5) (hS : Fc ((acF r n0 B (j + 1) : Nat) : Int) S') : TI r n0 g l f M A B w (j + 1) S' (v.setCells g 17 S'.l) :=
  ⟨h.lies.setS S', hS, h.bt.trans (setCells_bt _ v g 17)⟩
theorem or_top (x : Int) (h : 0 ≤ x ∧ x < 16777216) : bits .or .u64 x 16777216 = x + 16777216 := or_add x 16777216 24 (by rw [show ((2 ^ 24 : Nat) : Int) = 16777216 from rfl]; omega) (by omega) (by omega) (by omega) (by rw [show ((2 ^ 24 : Nat) : Int) = 16777216 from rfl]; omega)
theorem v5_top (a b c d e : Int) : v5 a b c d (e + 16777216) = v5 a b c d e + 340282366920938463463374607431768211456 := by unfold v5; omega
theorem v5_add (a b c d e f g h i j : Int) : v5 (a + f) (b + g) (c + h) (d + i) (e + j) = v5 a b c d e + v5 f g h i j := by unfold v5; omega
theorem Off.rest {g : Nat} {l : List Int} {f : Int} {M A : F5} {w : World} {a : Option Addr} {n c : Nat} {B : List Int} (h : Off g l f M A w a n c B) (k : Nat) (hk : k ≤ n) : Off g l f M A w (if c = k then a else a.map (·.add k)) (n - k) (c - k) (B.drop k) := fun v S h1 h2 => (h v S h1 h2).rest k hk
theorem exec_to16 {a : Act} {op : Oper} (w : World) (x y : Operand) (ho : op.op = .slice 26 x none (some y) none) (p o n cap : Nat) (hx : a.eval x = .slice (some ⟨p, o, none⟩) n cap) (hy : a.eval y = .int .i64 (16 : Nat)) (hc : n ≤ cap) (hn : 16 ≤ n) :
    (execOp a.eval op).run Try.prog w = .ok (.value (.slice (some ⟨p, o, none⟩) 16 cap)) w := by
  have h := exec_upto w x y ho (some ⟨p, o, none⟩) n cap 16 hx hy hc hn
  rw [if_neg (by omega), Option.map_some, add_zero] at h
  exact h
set_option maxHeartbeats 8000000 in
theorem take_ok (r n0 : Nat) (g : Nat) (l : List Int) (f : Int) (S0 M A : F5) (hMd : Fd M) (hMr : M.v = (r : Int)) (B : List Int) (a : Option Addr) (n cap : Nat) (hB0 : B.length = n) (hb : IsB B) (w : World) (hL : Lies g l f S0 M A w) (hc0 : Fc (n0 : Int) S0) (hO : Off g l f M A w a n cap B) :
    Calls Try.prog 26 #[.pointer (some ⟨g, 0, none⟩), .slice a n cap] w (Took r n0 g l f M A B w) := by
  obtain ⟨N, hN⟩ : ∃ N, N = B.length := ⟨_, rfl⟩
  have hnN : n = N := by rw [hN, hB0]
  subst hnN
  clear hB0
  obtain ⟨T, hT0⟩ : ∃ T, T = Took r n0 g l f M A B w := ⟨_, rfl⟩
  rw [← hT0]
  replace hT0 := hide hT0
  replace hN := hide hN
  replace hb := hide hb
  have hgw : g < w.heap.size := lt_of_block hL.2
  have hT : Hid (TI r n0 g l f M A B w 0 S0 w) := ⟨hL, hc0, Bt.refl g w⟩
  replace hO := hide hO
  replace hMr := hide hMr
  clear hL hc0
  go_enter Try.func26, Try.ntmps26
  go_wp2_with fail
  go_loopw [1] (fun b wr => ∃ (j : Nat) (a : Option Addr) (c : Nat) (S : F5), b = .slice a (n - 16 * j) c ∧ 16 * j ≤ n ∧ Hid (Off g l f M A w a (n - 16 * j) c (B.drop (16 * j))) ∧ Hid (TI r n0 g l f M A B w j S wr)) (fun b _ => slen b)
  case atStart => exact ⟨0, a, cap, S0, rfl, by omega, by simpa using hO, hT⟩
  case round =>
  clear hT hO
  obtain ⟨j, a', c, S, rfl, hj, hO, hT⟩ := hrel
  obtain ⟨m, hm⟩ : ∃ m, m = n - 16 * j := ⟨_, rfl⟩
  rw [← hm] at hO
  rw [← hm]
  replace hT := unhide hT
  replace hO := unhide hO
  have hlb := hO wr S hT.bt hT.lies
  have hcm := hlb.cap
  have hcb := hlb.max
  have hlm := hlb.len
  have hmn : m ≤ n ∧ (16 ≤ m → m - 16 = n - 16 * (j + 1) ∧ 16 * (j + 1) ≤ n) ∧ (¬ 16 ≤ m → j = n / 16 ∧ m = n % 16) := by omega
  replace hm := hide hm
  replace hmn := hide hmn
  by_cases hm16 : 16 ≤ m
  · obtain ⟨p, o, ha, hat⟩ := (show ∃ p o, a' = some ⟨p, o, none⟩ ∧ At wr p o (B.drop (16 * j)) by
      rcases hlb.sl with h0 | h0
      · have := hlb.len; rw [h0] at this; simp at this; omega
      · exact h0)
    subst ha
    have hat5 : Hid (At wr p o ((B.drop (16 * j)).take 16)) := hat.take 16
    have hb5 : Hid (IsB ((B.drop (16 * j)).take 16)) := ((unhide hb).drop (16 * j)).take 16
    have hl5 : Hid (((B.drop (16 * j)).take 16).length = 16) := by
      show List.length _ = 16
      rw [List.length_take, hlb.len]
      omega
    have hgr0 : g < wr.heap.size := Nat.lt_of_lt_of_le hgw hT.bt.size
    have mI : 16 ≤ (m : Int) := by omega
    have cI : 16 ≤ (c : Int) := by omega
    have mI2 : ¬ (m : Int) < 16 := by omega
    clear hlb hat hlm
    replace hT := hide hT
    replace hO := hide hO
    go_upto_region 2 with fail
    replace hT := unhide hT
    refine wp_region_lit ?_
    refine list_val (.slice (some ⟨p, o, none⟩) m c) (by kernel_rfl) (by kernel_rfl) ?_
    simp only [Act.put, List.setIfInBounds_toArray, List.set_cons_zero, List.set_cons_succ, List.getElem_toArray, List.getElem_cons_zero, List.getElem_cons_succ]
    refine list_val (.slice (some ⟨p, o, none⟩) 16 c) (by kernel_rfl) (exec_to16 _ (.tmp 9) (.const (.int .i64 16)) rfl p o m c (by kernel_rfl) (by kernel_rfl) hcm hm16) ?_
    simp only [Act.put, List.setIfInBounds_toArray, List.set_cons_zero, List.set_cons_succ, List.getElem_toArray, List.getElem_cons_zero, List.getElem_cons_succ]
    refine list_call 24 #[.slice (some ⟨p, o, none⟩) 16 c] (by kernel_rfl) (by kernel_rfl) ((number_ok ((B.drop (16 * j)).take 16) p o c (unhide hl5) (unhide hb5) (by omega) hcb _ (unhide hat5)).mono ?_)
    rintro r x1 ⟨y0, y1, y2, y3, y4, rfl, hy0, hy1, hy2, hy3, hy4, hyv, hgr⟩
    refine ⟨_, rfl, ?_⟩
    have hx1g := Nat.lt_of_lt_of_le hgr0 hgr.size
    replace hT := hT.gr hgr
    clear hgr
    simp only [Act.put, List.setIfInBounds_toArray, List.set_cons_zero, List.set_cons_succ, List.getElem_toArray, List.getElem_cons_zero, List.getElem_cons_succ]
    replace hT := hide hT
    (refine wpList_step fun K hK => ?_; replace hK := hide hK; go_simp; refine unhide hK _ _ ?_; clear hK K)
    have hB := (Bl.nil x1).new #[.int .u64 0, .int .u64 0, .int .u64 0, .int .u64 0, .int .u64 0] 59
    simp only [List.nil_append] at hB
    generalize World.alloc _ _ = x2 at *
    obtain ⟨gn, hgn⟩ : ∃ q, q = x1.heap.size := ⟨_, rfl⟩
    rw [← hgn] at hB ⊢
    replace hB : Bl x1 [⟨gn, fc 0 0 0 0 0, 59⟩] x2 := hB
    replace hT := unhide hT
    refine list_store 59 (.tmp 5) (.tmp 11) gn (fc y0 y1 y2 y3 y4) 59 (fc 0 0 0 0 0) (by kernel_rfl) rfl (by kernel_rfl) (by kernel_rfl) (hB.get 0 (x := ⟨gn, fc 0 0 0 0 0, 59⟩) rfl) Try.infoL rfl (fc_one _ _ _ _ _) ?_
    replace hB := hB.set 0 (x := ⟨gn, fc 0 0 0 0 0, 59⟩) rfl (fc y0 y1 y2 y3 y4)
    simp only [List.set_cons_zero, List.set_cons_succ] at hB
    generalize World.setRow _ _ _ = x3 at *
    simp only [Act.put, List.setIfInBounds_toArray, List.set_cons_zero, List.set_cons_succ, List.getElem_toArray, List.getElem_cons_zero, List.getElem_cons_succ]
    refine wpList_nil ?_
    have htop := or_top y4 hy4
    replace hB := hide hB; replace hT := hide hT; replace hgn := hide hgn
    have hx1 : Hid (g < x1.heap.size) := hx1g
    replace hyv := hide hyv
    replace hy0 := hide hy0; replace hy1 := hide hy1; replace hy2 := hide hy2; replace hy3 := hide hy3; replace hy4 := hide hy4
    go_upto_region 3 with fail
    replace hB := unhide hB
    refine wp_region_lit ?_
    refine list_val (.pointer (some ⟨gn, 4, none⟩)) (by kernel_rfl) (by kernel_rfl) ?_
    simp only [Act.put, List.setIfInBounds_toArray, List.set_cons_zero, List.set_cons_succ, List.getElem_toArray, List.getElem_cons_zero, List.getElem_cons_succ]
    refine list_val (.int .u64 y4) (by kernel_rfl) (exec_u64 _ (.tmp 12) rfl gn 4 (by kernel_rfl) y4 (cell_of (hB.get 0 (x := ⟨gn, fc y0 y1 y2 y3 y4, 59⟩) rfl) rfl)) ?_
    simp only [Act.put, List.setIfInBounds_toArray, List.set_cons_zero, List.set_cons_succ, List.getElem_toArray, List.getElem_cons_zero, List.getElem_cons_succ]
    refine list_val (.int .u64 (y4 + 16777216)) (by kernel_rfl) (by go_simp) ?_
    simp only [Act.put, List.setIfInBounds_toArray, List.set_cons_zero, List.set_cons_succ, List.getElem_toArray, List.getElem_cons_zero, List.getElem_cons_succ]
    refine list_val (.pointer (some ⟨gn, 4, none⟩)) (by kernel_rfl) (by kernel_rfl) ?_
    simp only [Act.put, List.setIfInBounds_toArray, List.set_cons_zero, List.set_cons_succ, List.getElem_toArray, List.getElem_cons_zero, List.getElem_cons_succ]
    have c4 : World.cell? _ ⟨gn, 4, none⟩ = some (.int .u64 y4) := cell_of (hB.get 0 (x := ⟨gn, fc y0 y1 y2 y3 y4, 59⟩) rfl) rfl
    have fz := froz_of (i := 4) (hB.get 0 (x := ⟨gn, fc y0 y1 y2 y3 y4, 59⟩) rfl)
    have hB2 := hB.cell 0 (x := ⟨gn, fc y0 y1 y2 y3 y4, 59⟩) rfl 4 (.int .u64 (y4 + 16777216))
    simp only [List.set_cons_zero, List.set_cons_succ, fc_set4] at hB2
    clear hB
    replace hB2 := hide hB2
    (refine wpList_step fun K hK => ?_; replace hK := hide hK; go_simp; refine unhide hK _ _ ?_; clear hK K)
    clear c4 fz
    refine wpList_nil ?_
    generalize World.setCell _ _ _ = x4 at *
    go_upto_region 4 with fail
    have hB := unhide hB2
    clear hB2 htop
    replace hT := (unhide hT).gr hB.gr
    refine any_start (S := fun v => v.heap[gn]? = some (.cells (fc y0 y1 y2 y3 (y4 + 16777216)) 59 (0, 0)) ∧ v.rangeAt g 22 M.l) (by kernel_rfl) ?_
    replace hB := hB.drew
    replace hT := hT.gr (Gr.refl _).drew
    have hS : (World.drew x4).heap[gn]? = some (.cells (fc y0 y1 y2 y3 (y4 + 16777216)) 59 (0, 0)) ∧ World.rangeAt (World.drew x4) g 22 M.l := ⟨hB.get 0 (x := ⟨gn, fc y0 y1 y2 y3 (y4 + 16777216), 59⟩) rfl, hT.lies.mul⟩
    generalize World.drew _ = x40 at *
    have hng : gn ≠ g := by
      have h1 := unhide hgn
      have h2 := unhide hx1
      omega
    obtain ⟨ca, cb, cc, cd_, ce, -, cm⟩ := hT.car
    replace hy0 := unhide hy0; replace hy1 := unhide hy1; replace hy2 := unhide hy2; replace hy3 := unhide hy3; replace hy4 := unhide hy4
    unfold Dg at cb cc cd_ ce hy0 hy1 hy2 hy3
    have sm0 : Sm S.a := by unfold Sm; omega
    have sm1 : Sm S.b := by unfold Sm; omega
    have sm2 : Sm S.c := by unfold Sm; omega
    have sm3 : Sm S.d := by unfold Sm; omega
    have sm4 : Sm S.e := by unfold Sm; omega
    have sm5 : Sm y0 := by unfold Sm; omega
    have sm6 : Sm y1 := by unfold Sm; omega
    have sm7 : Sm y2 := by unfold Sm; omega
    have sm8 : Sm y3 := by unfold Sm; omega
    have sm9 : Sm (y4 + 16777216) := by unfold Sm; omega
    have tm0 : 0 ≤ S.a + y0 ∧ S.a + y0 < 268435456 := by omega
    have tm1 : 0 ≤ S.b + y1 ∧ S.b + y1 < 268435456 := by omega
    have tm2 : 0 ≤ S.c + y2 ∧ S.c + y2 < 268435456 := by omega
    have tm3 : 0 ≤ S.d + y3 ∧ S.d + y3 < 268435456 := by omega
    have tm4 : 0 ≤ S.e + (y4 + 16777216) ∧ S.e + (y4 + 16777216) < 268435456 := by omega
    have hval : v5 (S.a + y0) (S.b + y1) (S.c + y2) (S.d + y3) (S.e + (y4 + 16777216)) * v5 M.a M.b M.c M.d M.e % 1361129467683753853853498429727072845819 = ((acF r n0 B (j + 1) : Nat) : Int) := by
      have e1 := unhide hyv
      have e2 : v5 M.a M.b M.c M.d M.e = (r : Int) := hMr
      rw [v5_add, v5_top, e1, lowN_blk B j (unhide hb) (by rw [← unhide hN]; exact ((unhide hmn).2.1 hm16).2), e2]
      exact acc_step _ _ _ _ cm
    clear ca cb cc cd_ ce cm hy0 hy1 hy2 hy3 hy4
    simp only [List.size_toArray, List.length_cons, List.length_nil, Array.replicate, List.replicate]
    refine any_take (i := 0) (v := (.pointer (some ⟨g, 0, none⟩))) #[false, false, false, false, false, false, false, false, false, false, false, false, false, false, false] rfl (by kernel_rfl) (by kernel_rfl) (by kernel_rfl) (by kernel_rfl) (fun _ _ _ h => h) (.inl ⟨by kernel_rfl, fun x_ hu => by kernel_rfl⟩) hS ?_
    simp only [Act.put, List.setIfInBounds_toArray, List.set_cons_zero, List.set_cons_succ, List.getElem_toArray, List.getElem_cons_zero, List.getElem_cons_succ]
    refine any_take (i := 1) (v := (.pointer (some ⟨g, 0, none⟩))) #[true, false, false, false, false, false, false, false, false, false, false, false, false, false, false] rfl (by kernel_rfl) (by kernel_rfl) (by kernel_rfl) (by kernel_rfl) (fun _ _ _ h => h) (.inl ⟨by kernel_rfl, fun x_ hu => by kernel_rfl⟩) hS ?_
    simp only [Act.put, List.setIfInBounds_toArray, List.set_cons_zero, List.set_cons_succ, List.getElem_toArray, List.getElem_cons_zero, List.getElem_cons_succ]
    refine any_take (i := 2) (v := (.pointer (some ⟨g, 0, none⟩))) #[true, true, false, false, false, false, false, false, false, false, false, false, false, false, false] rfl (by kernel_rfl) (by kernel_rfl) (by kernel_rfl) (by kernel_rfl) (fun _ _ _ h => h) (.inl ⟨by kernel_rfl, fun x_ hu => by kernel_rfl⟩) hS ?_
    simp only [Act.put, List.setIfInBounds_toArray, List.set_cons_zero, List.set_cons_succ, List.getElem_toArray, List.getElem_cons_zero, List.getElem_cons_succ]
    refine any_take (i := 3) (v := (.pointer (some ⟨g, 17, none⟩))) #[true, true, true, false, false, false, false, false, false, false, false, false, false, false, false] rfl (by kernel_rfl) (by kernel_rfl) (by kernel_rfl) (by kernel_rfl) (fun _ _ _ h => h) (.inl ⟨by kernel_rfl, fun x_ hu => by kernel_rfl⟩) hS ?_
    simp only [Act.put, List.setIfInBounds_toArray, List.set_cons_zero, List.set_cons_succ, List.getElem_toArray, List.getElem_cons_zero, List.getElem_cons_succ]
    refine any_take (i := 5) (v := (.agg (fc y0 y1 y2 y3 (y4 + 16777216)))) #[true, true, true, true, false, false, false, false, false, false, false, false, false, false, false] rfl (by kernel_rfl) (by kernel_rfl) (by kernel_rfl) (by kernel_rfl) (fun _ _ _ h => h) (.inl ⟨by kernel_rfl, fun x_ hu => exec_arr _ 59 (.tmp 5) rfl gn (by kernel_rfl) (fc y0 y1 y2 y3 (y4 + 16777216)) 59 _ hu.1 Try.underlying59 rfl Try.infoL⟩) hS ?_
    simp only [Act.put, List.setIfInBounds_toArray, List.set_cons_zero, List.set_cons_succ, List.getElem_toArray, List.getElem_cons_zero, List.getElem_cons_succ]
    refine any_take (i := 7) (v := (.pointer (some ⟨g, 0, none⟩))) #[true, true, true, true, false, true, false, false, false, false, false, false, false, false, false] rfl (by kernel_rfl) (by kernel_rfl) (by kernel_rfl) (by kernel_rfl) (fun _ _ _ h => h) (.inl ⟨by kernel_rfl, fun x_ hu => by kernel_rfl⟩) hS ?_
    simp only [Act.put, List.setIfInBounds_toArray, List.set_cons_zero, List.set_cons_succ, List.getElem_toArray, List.getElem_cons_zero, List.getElem_cons_succ]
    refine any_take (i := 8) (v := (.pointer (some ⟨g, 0, none⟩))) #[true, true, true, true, false, true, false, true, false, false, false, false, false, false, false] rfl (by kernel_rfl) (by kernel_rfl) (by kernel_rfl) (by kernel_rfl) (fun _ _ _ h => h) (.inl ⟨by kernel_rfl, fun x_ hu => by kernel_rfl⟩) hS ?_
    simp only [Act.put, List.setIfInBounds_toArray, List.set_cons_zero, List.set_cons_succ, List.getElem_toArray, List.getElem_cons_zero, List.getElem_cons_succ]
    refine any_take (i := 9) (v := (.pointer (some ⟨g, 22, none⟩))) #[true, true, true, true, false, true, false, true, true, false, false, false, false, false, false] rfl (by kernel_rfl) (by kernel_rfl) (by kernel_rfl) (by kernel_rfl) (fun _ _ _ h => h) (.inl ⟨by kernel_rfl, fun x_ hu => by kernel_rfl⟩) hS ?_
    simp only [Act.put, List.setIfInBounds_toArray, List.set_cons_zero, List.set_cons_succ, List.getElem_toArray, List.getElem_cons_zero, List.getElem_cons_succ]
    refine any_take (i := 10) (v := (.agg (fc M.a M.b M.c M.d M.e))) #[true, true, true, true, false, true, false, true, true, true, false, false, false, false, false] rfl (by kernel_rfl) (by kernel_rfl) (by kernel_rfl) (by kernel_rfl) (fun _ _ _ h => h) (.inl ⟨by kernel_rfl, fun x_ hu => exec_five _ (.tmp 25) rfl g 22 (by kernel_rfl) M hu.2⟩) hS ?_
    simp only [Act.put, List.setIfInBounds_toArray, List.set_cons_zero, List.set_cons_succ, List.getElem_toArray, List.getElem_cons_zero, List.getElem_cons_succ]
    refine any_one (i := 4) (by kernel_rfl) rfl (fun K hK => ?_)
    refine step_val (.agg (fc S.a S.b S.c S.d S.e)) _ (by kernel_rfl) (exec_five _ (.tmp 19) rfl g 17 (by kernel_rfl) S hT.lies.sum) ?_
    refine hK.out _ _ hS (fun _ => ?_)
    clear hK K
    simp only [Act.put, List.setIfInBounds_toArray, List.set_cons_zero, List.set_cons_succ, List.getElem_toArray, List.getElem_cons_zero, List.getElem_cons_succ]
    refine any_one (i := 6) (by kernel_rfl) rfl (fun K hK => ?_)
    refine step_callw (by kernel_rfl) 30 #[.agg (fc S.a S.b S.c S.d S.e), .agg (fc y0 y1 y2 y3 (y4 + 16777216))] (by kernel_rfl) ((plus_ok S.a S.b S.c S.d S.e y0 y1 y2 y3 (y4 + 16777216) sm0 sm1 sm2 sm3 sm4 sm5 sm6 sm7 sm8 sm9 _).mono ?_)
    rintro r x5 ⟨rfl, hgr⟩
    refine ⟨_, rfl, ?_⟩
    replace hT := hT.gr hgr
    replace hS : _ ∧ _ := ⟨hgr.blk hS.1, hT.lies.mul⟩
    clear hgr
    refine hK.out _ _ hS (fun _ => ?_)
    clear hK K
    simp only [Act.put, List.setIfInBounds_toArray, List.set_cons_zero, List.set_cons_succ, List.getElem_toArray, List.getElem_cons_zero, List.getElem_cons_succ]
    refine any_one (i := 11) (by kernel_rfl) rfl (fun K hK => ?_)
    refine step_callw (by kernel_rfl) 36 #[.agg (fc (S.a + y0) (S.b + y1) (S.c + y2) (S.d + y3) (S.e + (y4 + 16777216))), .agg (fc M.a M.b M.c M.d M.e)] (by kernel_rfl) ((times_ok (S.a + y0) (S.b + y1) (S.c + y2) (S.d + y3) (S.e + (y4 + 16777216)) M.a M.b M.c M.d M.e tm0 tm1 tm2 tm3 tm4 hMd.1 hMd.2.1 hMd.2.2.1 hMd.2.2.2.1 hMd.2.2.2.2 _).mono ?_)
    rintro r x6 ⟨z0, z1, z2, z3, z4, rfl, hz0, hgr⟩
    refine ⟨_, rfl, ?_⟩
    have hz : Fc ((acF r n0 B (j + 1) : Nat) : Int) ⟨z0, z1, z2, z3, z4⟩ := by
      rw [hval] at hz0
      exact hz0
    clear hz0
    replace hT := hT.gr hgr
    replace hS : _ ∧ _ := ⟨hgr.blk hS.1, hT.lies.mul⟩
    clear hgr
    refine hK.out _ _ hS (fun _ => ?_)
    clear hK K
    simp only [Act.put, List.setIfInBounds_toArray, List.set_cons_zero, List.set_cons_succ, List.getElem_toArray, List.getElem_cons_zero, List.getElem_cons_succ]
    refine any_take (i := 12) (v := (.pointer (some ⟨g, 0, none⟩))) #[true, true, true, true, true, true, true, true, true, true, true, true, false, false, false] rfl (by kernel_rfl) (by kernel_rfl) (by kernel_rfl) (by kernel_rfl) (fun _ _ _ h => h) (.inl ⟨by kernel_rfl, fun x_ hu => by kernel_rfl⟩) hS ?_
    simp only [Act.put, List.setIfInBounds_toArray, List.set_cons_zero, List.set_cons_succ, List.getElem_toArray, List.getElem_cons_zero, List.getElem_cons_succ]
    refine any_take (i := 13) (v := (.pointer (some ⟨g, 17, none⟩))) #[true, true, true, true, true, true, true, true, true, true, true, true, true, false, false] rfl (by kernel_rfl) (by kernel_rfl) (by kernel_rfl) (by kernel_rfl) (fun _ _ _ h => h) (.inl ⟨by kernel_rfl, fun x_ hu => by kernel_rfl⟩) hS ?_
    simp only [Act.put, List.setIfInBounds_toArray, List.set_cons_zero, List.set_cons_succ, List.getElem_toArray, List.getElem_cons_zero, List.getElem_cons_succ]
    refine any_one (i := 14) (by kernel_rfl) rfl (fun K hK => ?_)
    refine store_five (.tmp 29) (.tmp 27) g 17 ⟨z0, z1, z2, z3, z4⟩ (by kernel_rfl) rfl (by kernel_rfl) (by kernel_rfl) (hT.lies.there 17 5 (by omega)) ?_
    have hT3 := hT.step ⟨z0, z1, z2, z3, z4⟩ hz
    have hS3 : (World.setCells x6 g 17 (F5.l ⟨z0, z1, z2, z3, z4⟩)).heap[gn]? = some (.cells (fc y0 y1 y2 y3 (y4 + 16777216)) 59 (0, 0)) ∧ World.rangeAt (World.setCells x6 g 17 (F5.l ⟨z0, z1, z2, z3, z4⟩)) g 22 M.l := ⟨(setCells_other _ _ g 17 gn hng).trans hS.1, hT3.lies.mul⟩
    refine hK.out _ _ hS3 (fun _ => ?_)
    clear hK K hS3 hT
    simp only [Act.put, List.setIfInBounds_toArray, List.set_cons_zero, List.set_cons_succ, List.getElem_toArray, List.getElem_cons_zero, List.getElem_cons_succ]
    generalize World.setCells _ _ _ _ = x7 at *
    refine any_done (by kernel_rfl) ?_
    have hO4 := (unhide hO).rest 16 hm16
    rw [List.drop_drop, show 16 * j + 16 = 16 * (j + 1) from by omega] at hO4
    replace hO4 := hide hO4
    replace hT3 := hide hT3
    clear hO hS hval sm0 sm1 sm2 sm3 sm4 sm5 sm6 sm7 sm8 sm9 tm0 tm1 tm2 tm3 tm4 hz
    go_upto_region 5 with fail
    refine wp_region_lit ?_
    refine list_val (.slice (some ⟨p, o, none⟩) m c) (by kernel_rfl) (by kernel_rfl) ?_
    simp only [Act.put, List.setIfInBounds_toArray, List.set_cons_zero, List.set_cons_succ, List.getElem_toArray, List.getElem_cons_zero, List.getElem_cons_succ]
    refine list_val (.slice (if c = 16 then some ⟨p, o, none⟩ else (some (⟨p, o, none⟩ : Addr)).map (·.add 16)) (m - 16) (c - 16)) (by kernel_rfl) (exec_from _ (.tmp 30) (.const (.int .i64 16)) rfl (some ⟨p, o, none⟩) m c 16 (by kernel_rfl) (by kernel_rfl) hcm hm16) ?_
    simp only [Act.put, List.setIfInBounds_toArray, List.set_cons_zero, List.set_cons_succ, List.getElem_toArray, List.getElem_cons_zero, List.getElem_cons_succ]
    generalize (if c = 16 then some ⟨p, o, none⟩ else (some (⟨p, o, none⟩ : Addr)).map (·.add 16)) = a9 at *
    (refine wpList_step fun K hK => ?_; replace hK := hide hK; go_simp; refine unhide hK _ _ ?_; clear hK K)
    refine wpList_nil ?_
    have em : m - 16 = n - 16 * (j + 1) := ((unhide hmn).2.1 hm16).1
    rw [em] at hO4
    replace em := hide em
    go_wp2_with fail
    refine ⟨⟨j + 1, a9, c - 16, ⟨z0, z1, z2, z3, z4⟩, by rw [unhide em], ((unhide hmn).2.1 hm16).2, hO4, hT3⟩, ?_⟩
    show m - 16 < m
    omega
  · have mI : ¬ 16 ≤ (m : Int) := by omega
    have e0 : j = n / 16 := ((unhide hmn).2.2 hm16).1
    have e1 : m = n % 16 := ((unhide hmn).2.2 hm16).2
    have hT5 : Hid (Took r n0 g l f M A B w (.returned (.slice a' m c)) wr) := by
      refine ⟨a', c, S, ?_, ?_, ?_⟩
      · rw [← unhide hN, e1]
      · rw [← unhide hN, ← e1, ← e0]
        exact hO
      · rw [← unhide hN, ← e0]
        exact hT
    clear hT hO hlb e0 e1 hlm
    go_wp2_with fail
    show T (.returned (.slice a' m c)) wr
    rw [unhide hT0]
    exact unhide hT5
end Go.Proofs.Ytdekjbdkpchbjab
