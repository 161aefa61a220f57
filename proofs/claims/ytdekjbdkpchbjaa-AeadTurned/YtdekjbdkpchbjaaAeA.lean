/-
  The words of layer 8: the one-time key, what a tag is made of, sealed texts; bytes held against each other.
-/
import Derived.Test.YtdekjbdkpchbjaaPolyT
import Derived.Laws.BytesArg
import Derived.ChangeKeysEq
import Derived.WideShapes
namespace Go.Proofs.Ytdekjbdkpchbjaa
open Go.RowKit
set_option maxRecDepth 100000
set_option linter.unusedSimpArgs false
set_option linter.unusedVariables false
theorem list_ext {A B : List Int} (hl : A.length = B.length) (h : ∀ i, i < A.length → A.getD i 0 = B.getD i 0) : A = B := by
  apply List.ext_getElem hl
  intro i h1 h2
  have := h i h1
  simpa [List.getD_eq_getElem?_getD, List.getElem?_eq_getElem h1, List.getElem?_eq_getElem h2] using this
theorem IsB.append {A B : List Int} (h : IsB A) (k : IsB B) : IsB (A ++ B) := fun x hx => by
  rcases List.mem_append.1 hx with h1 | h1
  · exact h x h1
  · exact k x h1
theorem IsB.nil : IsB [] := fun x hx => by cases hx
theorem rep_isB (n : Nat) : IsB (List.replicate n 0) := fun x hx => by have := List.eq_of_mem_replicate hx; omega
theorem bts_isB (W : List Int) : IsB (bts W) := fun x hx => by
  unfold bts at hx
  obtain ⟨i, _, rfl⟩ := List.mem_map.1 hx
  unfold btf
  omega
theorem bk_isB (K N : List Int) (c : Int) : IsB (bk K N c) := bts_isB _
theorem sf_rng (K N : List Int) (c : Int) (i : Nat) : 0 ≤ sf K N c i ∧ sf K N c i < 256 := (bk_isB K N _).at_ _
theorem xl_get (K N : List Int) (c : Int) (B : List Int) (i : Nat) (h : i < B.length) : (xl K N c B).getD i 0 = xf K N c B i := by
  unfold xl
  rw [List.getD_eq_getElem?_getD, List.getElem?_map, List.getElem?_range h]
  rfl
theorem xl_twice (K N : List Int) (c : Int) (B : List Int) (hB : IsB B) : xl K N c (xl K N c B) = B := by
  refine list_ext (by rw [xl_len, xl_len]) fun i hi => ?_
  rw [xl_len, xl_len] at hi
  rw [xl_get _ _ _ _ _ (by rw [xl_len]; exact hi), xf, xl_get _ _ _ _ _ hi, xf]
  exact xb_twice _ _ (hB.at_ i) (sf_rng _ _ _ _)
theorem xl_inj (K N : List Int) (c : Int) {A B : List Int} (hA : IsB A) (hB : IsB B) (h : xl K N c A = xl K N c B) : A = B := by
  rw [← xl_twice K N c A hA, h, xl_twice K N c B hB]
theorem tgL_isB (n : Nat) : IsB (tgL n) := fun x hx => by
  unfold tgL at hx
  obtain ⟨i, _, rfl⟩ := List.mem_map.1 hx
  unfold tgf
  omega
theorem mcL_len (K B : List Int) : (mcL K B).length = 16 := tgL_len _
theorem mcL_isB (K B : List Int) : IsB (mcL K B) := tgL_isB _
/-- the one-time key -/
def otk (K N : List Int) : List Int := (bk K N 0).take 32
theorem otk_len (K N : List Int) : (otk K N).length = 32 := by unfold otk; rw [List.length_take, bk_len]; rfl
theorem otk_isB (K N : List Int) : IsB (otk K N) := (bk_isB K N 0).take 32
/-- how many noughts fill so many bytes up -/
def padz (n : Nat) : Nat := (16 - n % 16) % 16
theorem padz_lt (n : Nat) : padz n < 16 := by unfold padz; omega
theorem padz_zero (n : Nat) (h : n % 16 = 0) : padz n = 0 := by unfold padz; omega
theorem padz_some (n : Nat) (h : n % 16 ≠ 0) : padz n = padz (n + 1) + 1 := by unfold padz; omega
/-- bytes filled up -/
def pd (L : List Int) : List Int := L ++ List.replicate (padz L.length) 0
theorem pd_isB {L : List Int} (h : IsB L) : IsB (pd L) := h.append (rep_isB _)
theorem pd_len (L : List Int) : (pd L).length = L.length + padz L.length := by simp [pd]
/-- what a tag is made of -/
def tin (A C : List Int) : List Int := pd A ++ pd C ++ (lowL (A.length : Int) 8 ++ lowL (C.length : Int) 8)
/-- the tag -/
def tagL (K N A C : List Int) : List Int := mcL (otk K N) (tin A C)
theorem tagL_len (K N A C : List Int) : (tagL K N A C).length = 16 := tgL_len _
theorem tagL_isB (K N A C : List Int) : IsB (tagL K N A C) := tgL_isB _
/-- sealed -/
def sealL (K N A P : List Int) : List Int := xl K N 1 P ++ tagL K N A (xl K N 1 P)
theorem sealL_len (K N A P : List Int) : (sealL K N A P).length = P.length + 16 := by unfold sealL; rw [List.length_append, xl_len, tagL_len]
theorem sealL_isB (K N A P : List Int) : IsB (sealL K N A P) := (xl_isB _ _ _ _).append (tagL_isB _ _ _ _)
/-- a number as a nonce -/
def cntL (n : Int) : List Int := List.replicate 4 0 ++ lowL n 8
theorem cntL_len (n : Int) : (cntL n).length = 12 := by unfold cntL; rw [List.length_append, lowL_len]; rfl
theorem cntL_isB (n : Int) : IsB (cntL n) := (rep_isB 4).append (lowL_isB n 8)
/-- new memory is a list of bytes -/
theorem kc_map (l : List Int) : (l.map (Value.int .u8)).toArray = kc l := rfl
theorem list_upto {ops : Array Oper} {Q : Exit → Act → World → Prop} {a : Act} {w : World} {o : Oper} {rest : List Oper} (x y : Operand) (hw : Region.wanted o (yielded ops a.tmps) = true) (ho : o.op = .slice 26 x none (some y) none)
    (s : Option Addr) (len cap n : Nat) (hx : a.eval x = .slice s len cap) (hy : a.eval y = .int .i64 n) (B : List Int) (hb : Lb w s len cap B) (hn : n ≤ len)
    (h : ∀ s', (∀ v, Lb v s len cap B → Lb v s' n cap (B.take n)) → wpList Try.prog ops Q rest (a.put o.dst (.slice s' n cap)) w) : wpList Try.prog ops Q (o :: rest) a w := by
  refine list_val (.slice (if cap = 0 then s else s.map (·.add 0)) n cap) hw ?_ (h _ fun v hv => hv.upto n hn)
  exact exec_upto w x y ho s len cap n hx hy hb.cap hn
theorem list_from {ops : Array Oper} {Q : Exit → Act → World → Prop} {a : Act} {w : World} {o : Oper} {rest : List Oper} (x y : Operand) (hw : Region.wanted o (yielded ops a.tmps) = true) (ho : o.op = .slice 26 x (some y) none none)
    (s : Option Addr) (len cap n : Nat) (hx : a.eval x = .slice s len cap) (hy : a.eval y = .int .i64 n) (B : List Int) (hb : Lb w s len cap B) (hn : n ≤ len)
    (h : ∀ s', (∀ v, Lb v s len cap B → Lb v s' (len - n) (cap - n) (B.drop n)) → wpList Try.prog ops Q rest (a.put o.dst (.slice s' (len - n) (cap - n))) w) : wpList Try.prog ops Q (o :: rest) a w := by
  refine list_val (.slice (if cap = n then s else s.map (·.add n)) (len - n) (cap - n)) hw ?_ (h _ fun v hv => hv.rest n hn)
  exact exec_from w x y ho s len cap n hx hy hb.cap hn
/-- bytes as a text -/
theorem Sl.text {w : World} {a : Option Addr} {B : List Int} (h : Sl w a B) (n c : Nat) (hn : B.length = n) : (convert 26 9 (.slice a n c)).run Try.prog w = .ok (.string (strOfNums B)) w := by
  subst hn
  rcases h with rfl | ⟨p, o, rfl, h2⟩
  · rw [run_convert_bytes_string w 26 9 5 _ _ c Try.underlying26 Try.underlying5 Try.underlying9]
    cases a <;> simp [Conv.bytesToString, loadCells]
    all_goals rfl
  · exact run_convert_bytes_arg (P := Try.prog) w 26 5 Try.underlying26 Try.underlying5 p o _ c B rfl (fun i hi => h2 i hi) 9 Try.underlying9
theorem str_inj {A B : List Int} (hA : IsB A) (hB : IsB B) (h : strOfNums A = strOfNums B) : A = B := by
  have h1 : (strOfNums A).data.toList = (strOfNums B).data.toList := by rw [h]
  rw [strOfNums_data, strOfNums_data] at h1
  have hl : A.length = B.length := by simpa using congrArg List.length h1
  apply List.ext_getElem hl
  intro i h2 h3
  have h4 : (A.map fun n => UInt8.ofNat n.toNat)[i]? = (B.map fun n => UInt8.ofNat n.toNat)[i]? := by rw [h1]
  simp only [List.getElem?_map, List.getElem?_eq_getElem h2, List.getElem?_eq_getElem h3, Option.map_some, Option.some.injEq] at h4
  have h5 := congrArg UInt8.toNat h4
  simp only [UInt8.toNat_ofNat'] at h5
  have a1 := hA _ (List.getElem_mem h2)
  have b1 := hB _ (List.getElem_mem h3)
  omega
/-- the same bytes are equal -/
theorem equal_same (B : List Int) (a b : Option Addr) (n c d : Nat) (hn : B.length = n) (w : World) (ha : Sl w a B) (hb : Sl w b B) : Calls Try.prog 15 #[.slice a n c, .slice b n d] w (fun r w' => r = .returned (.bool true) ∧ w' = w) := by
  have h1 := ha.text n c hn
  have h2 := hb.text n d hn
  clear ha hb
  go_enter Try.func15, Try.ntmps15
  go_wp2_with fail
  refine bodyPost_ret (v := .bool true) ?_ rfl ⟨rfl, rfl⟩
  simp [results, Try.results15, go_sem]
/-- others are not -/
theorem equal_not (A B : List Int) (a b : Option Addr) (n m c d : Nat) (hn : A.length = n) (hm : B.length = m) (bA : IsB A) (bB : IsB B) (hne : A ≠ B) (w : World) (ha : Sl w a A) (hb : Sl w b B) : Calls Try.prog 15 #[.slice a n c, .slice b m d] w (fun r w' => r = .returned (.bool false) ∧ w' = w) := by
  have h1 := ha.text n c hn
  have h2 := hb.text m d hm
  have h3 : ¬ (strOfNums A).toList = (strOfNums B).toList := fun e => hne (str_inj bA bB (by
    rw [ByteArray.toList_eq, ByteArray.toList_eq] at e
    exact WideShapes.bytes_inj e))
  clear ha hb hne
  generalize strOfNums A = sa at *
  generalize strOfNums B = sb at *
  go_enter Try.func15, Try.ntmps15
  go_wp2_with fail
  refine bodyPost_ret (v := .bool false) ?_ rfl ⟨rfl, rfl⟩
  simp [results, Try.results15, go_sem, h3]
theorem u8_or_nat (a b : Nat) (ha : a < 256) (hb : b < 256) : bits .or .u8 (a : Int) (b : Int) = ((a ||| b : Nat) : Int) := by
  have hx : a ||| b < 2 ^ 8 := Nat.or_lt_two_pow (by omega) (by omega)
  have h1 : (BitVec.ofInt 8 (a : Int)).toNat = a := by
    rw [BitVec.ofInt_natCast, BitVec.toNat_ofNat]; exact Nat.mod_eq_of_lt (by omega)
  have h2 : (BitVec.ofInt 8 (b : Int)).toNat = b := by
    rw [BitVec.ofInt_natCast, BitVec.toNat_ofNat]; exact Nat.mod_eq_of_lt (by omega)
  show IntKind.u8.wrap ((BitVec.ofInt 8 (a : Int) ||| BitVec.ofInt 8 (b : Int)).toNat : Int) = _
  rw [BitVec.toNat_or, h1, h2, IntKind.wrap_u8]
  omega
theorem nat_or_zero (a b : Nat) : a ||| b = 0 ↔ a = 0 ∧ b = 0 := by
  constructor
  · intro h
    have h1 := Nat.left_le_or (n := a) (m := b)
    have h2 := Nat.right_le_or (n := a) (m := b)
    omega
  · rintro ⟨rfl, rfl⟩; rfl
theorem nat_xor_zero (a b : Nat) : a ^^^ b = 0 ↔ a = b := by
  constructor
  · intro h
    have : a ^^^ b ^^^ b = 0 ^^^ b := by rw [h]
    rw [Nat.xor_assoc, Nat.xor_self, Nat.xor_zero, Nat.zero_xor] at this
    exact this
  · rintro rfl; exact Nat.xor_self a
theorem or_xor (u x y : Int) (hu : 0 ≤ u ∧ u < 256) (hx : 0 ≤ x ∧ x < 256) (hy : 0 ≤ y ∧ y < 256) :
    (0 ≤ bits .or .u8 u (bits .xor .u8 x y) ∧ bits .or .u8 u (bits .xor .u8 x y) < 256) ∧ (bits .or .u8 u (bits .xor .u8 x y) = 0 ↔ u = 0 ∧ x = y) := by
  obtain ⟨U, rfl⟩ := Int.eq_ofNat_of_zero_le hu.1
  obtain ⟨X, rfl⟩ := Int.eq_ofNat_of_zero_le hx.1
  obtain ⟨Y, rfl⟩ := Int.eq_ofNat_of_zero_le hy.1
  have h1 : X ^^^ Y < 256 := Nat.xor_lt_two_pow (n := 8) (by omega) (by omega)
  rw [u8_xor_nat X Y (by omega) (by omega), u8_or_nat U (X ^^^ Y) (by omega) h1]
  have h2 : U ||| (X ^^^ Y) < 256 := Nat.or_lt_two_pow (n := 8) (by omega) h1
  have h3 := nat_or_zero U (X ^^^ Y)
  have h4 := nat_xor_zero X Y
  refine ⟨by omega, ?_⟩
  constructor
  · intro h
    have := h3.1 (by omega)
    exact ⟨by omega, by have := h4.1 this.2; omega⟩
  · rintro ⟨h, h'⟩
    have := h3.2 ⟨by omega, h4.2 (by omega)⟩
    omega
theorem take_eq_step (l m : List Int) (k : Nat) (hl : k < l.length) (hm : k < m.length) : l.take (k + 1) = m.take (k + 1) ↔ l.take k = m.take k ∧ l.getD k 0 = m.getD k 0 := by
  have e : ∀ x : List Int, k < x.length → x.take (k + 1) = x.take k ++ [x.getD k 0] := fun x hx => by
    rw [List.take_add_one, List.getElem?_eq_getElem hx]
    simp [hx]
  rw [e l hl, e m hm]
  constructor
  · intro h
    have := List.append_inj h (by simp; omega)
    exact ⟨this.1, by simpa using this.2⟩
  · rintro ⟨h1, h2⟩; rw [h1, h2]
/-- what the loop has gathered so far -/
def Unl (l m : List Int) (k : Nat) (u : Int) : Prop := (0 ≤ u ∧ u < 256) ∧ (u = 0 ↔ l.take k = m.take k)
theorem Unl.step {l m : List Int} {k : Nat} {u x y : Int} (h : Unl l m k u) (hl : k < l.length) (hm : k < m.length) (hx : x = l.getD k 0) (hy : y = m.getD k 0) (bl : IsB l) (bm : IsB m) :
    Unl l m (k + 1) (bits .or .u8 u (bits .xor .u8 x y)) := by
  subst hx; subst hy
  have := or_xor u _ _ h.1 (bl.at_ k) (bm.at_ k)
  refine ⟨this.1, ?_⟩
  rw [this.2, take_eq_step l m k hl hm, h.2]
set_option maxHeartbeats 1000000 in
theorem oequal_ok (l m : List Int) (a a' : Option Addr) (n c c' : Nat) (hn : n ≤ 281474976710656) (w : World) (la : Lb w a n c l) (lb : Lb w a' n c' m) :
    Calls Try.prog 24 #[.slice a n c, .slice a' n c'] w (fun e w' => e = .returned (.bool (decide (l = m))) ∧ w' = w) := by
  have hl := hide la.len
  have hm := hide lb.len
  replace la := hide la
  replace lb := hide lb
  go_enter Try.func24, Try.ntmps24
  go_wp2_with fail
  go_loopw [5, 15] (fun x i wr => ∃ (k : Nat) (u : Int), k ≤ n ∧ i = .int .i64 k ∧ x = .int .u8 u ∧ Hid (Unl l m k u) ∧ wr = w) (fun _ i _ => n - (intOf i).toNat)
  case atStart => exact ⟨0, 0, Nat.zero_le _, rfl, rfl, (⟨by omega, by simp⟩ : Unl l m 0 0), rfl⟩
  case round =>
  obtain ⟨k, u, hk, rfl, rfl, hU, rfl⟩ := hrel
  by_cases hlt : k < n
  · obtain ⟨p, o, rfl, c0⟩ : ∃ p o, a = some ⟨p, o, none⟩ ∧ wr.cell? ⟨p, o + k, none⟩ = some (.int .u8 (l.getD k 0)) := by
      rcases (unhide la).sl with h | ⟨p, o, h1, h2⟩
      · have := unhide hl
        rw [h] at this
        simp at this
        omega
      · exact ⟨p, o, h1, h2 k (by rw [unhide hl]; exact hlt)⟩
    obtain ⟨p', o', rfl, c1⟩ : ∃ p o, a' = some ⟨p, o, none⟩ ∧ wr.cell? ⟨p, o + k, none⟩ = some (.int .u8 (m.getD k 0)) := by
      rcases (unhide lb).sl with h | ⟨p, o, h1, h2⟩
      · have := unhide hm
        rw [h] at this
        simp at this
        omega
      · exact ⟨p, o, h1, h2 k (by rw [unhide hm]; exact hlt)⟩
    obtain ⟨x, hx⟩ : ∃ x, x = l.getD k 0 := ⟨_, rfl⟩
    obtain ⟨y, hy⟩ : ∃ y, y = m.getD k 0 := ⟨_, rfl⟩
    rw [← hx] at c0
    rw [← hy] at c1
    have HS := hide ((unhide hU).step (by rw [unhide hl]; exact hlt) (by rw [unhide hm]; exact hlt) hx hy (unhide la).isB (unhide lb).isB)
    clear hx hy hU
    have kI : (k : Int) < (n : Int) := by omega
    go_wp2_with fail
    go_roundw
    case rel => exact ⟨k + 1, _, by omega, by go_num, rfl, HS, trivial⟩
    case measure => simp [intOf]; omega
  · have kI : ¬ (k : Int) < (n : Int) := by omega
    have e : l.take k = l ∧ m.take k = m := ⟨List.take_of_length_le (by rw [unhide hl]; omega), List.take_of_length_le (by rw [unhide hm]; omega)⟩
    have hU2 := (unhide hU).2
    rw [e.1, e.2] at hU2
    have HU := hide (show (u == 0) = decide (l = m) by rw [Bool.eq_iff_iff]; simpa using hU2)
    clear hU hU2 e
    go_wp2_with fail
    refine bodyPost_ret (v := .bool (u == 0)) (by simp [results, Try.results24, go_sem]) rfl ⟨?_, rfl⟩
    rw [unhide HU]
theorem Try.cells_b : Try.prog.cellsOf 5 = 1 := by kernel_rfl
theorem Try.info_b : (Try.prog.info? 5).map (fun i => (i.zero, i.size, i.bytes)) = some (some (.int .u8 0), 1, 1) := by kernel_rfl
theorem Try.plain_b : Try.prog.plainKey 5 = true := by kernel_rfl
theorem eqs_b (k m : List Int) (hl : k.length = m.length) (d : Nat) (is : List Nat) (h : ∀ i ∈ is, i < k.length) (w : World) : (Op.eqItems (d + 1) 5 1 (kc k) (kc m) is).run Try.prog w = .ok (decide (∀ i ∈ is, k.getD i 0 = m.getD i 0)) w := by
  induction is with
  | nil => simp [Op.eqItems]
  | cons i is ih =>
    have hi : i < k.length := h i (by simp)
    have hp : ∀ m : List Int, i < m.length → (part 5 (kc m) (i * 1)).run Try.prog w = .ok (.int .u8 (m.getD i 0)) w := by
      intro m hm
      refine run_part_plain w Try.plain_b ?_
      simp [kc, List.getD, List.getElem?_eq_getElem hm]
    have he := run_equalIn_int (P := Try.prog) w d 5 .u8 .u8 (k.getD i 0) (m.getD i 0) Try.underlying5
    simp only [Op.eqItems, Sem.run_bind, hp k hi, hp m (by omega), he, Result.andThen_ok]
    have ih := ih (fun j hj => h j (List.mem_cons_of_mem _ hj))
    by_cases hq : k.getD i 0 = m.getD i 0
    · simp only [hq, beq_self_eq_true, if_true, List.mem_cons, forall_eq_or_imp, true_and]
      exact ih
    · have hq2 : (k.getD i 0 == m.getD i 0) = false := by simpa using hq
      simp only [hq2, List.mem_cons, forall_eq_or_imp, hq, false_and, decide_false]
      rfl
theorem eq_T (k m : List Int) (hk : k.length = 16) (hm : m.length = 16) (w : World) : Sem.run Try.prog (Op.equalIn 10000 41 (.agg (kc k)) (.agg (kc m))) w = .ok (decide (k = m)) w := by
  obtain ⟨i0, hi0, _⟩ := info_parts Try.info_b
  rw [run_equalIn_array (P := Try.prog) w 9999 (kc k) (kc m) Try.underlying41 hi0, Try.cells_b]
  refine (eqs_b k m (by omega) 9998 _ (by intro i hi; simp at hi; omega) w).trans ?_
  congr 1
  rw [decide_eq_decide]
  constructor
  · intro h
    exact list_ext (by omega) fun i hi => h i (by simp; omega)
  · rintro rfl i _
    rfl
theorem eq_N (k m : List Int) (hk : k.length = 12) (hm : m.length = 12) (w : World) : Sem.run Try.prog (Op.equalIn 10000 25 (.agg (kc k)) (.agg (kc m))) w = .ok (decide (k = m)) w := by
  obtain ⟨i0, hi0, _⟩ := info_parts Try.info_b
  rw [run_equalIn_array (P := Try.prog) w 9999 (kc k) (kc m) Try.underlying25 hi0, Try.cells_b]
  refine (eqs_b k m (by omega) 9998 _ (by intro i hi; simp at hi; omega) w).trans ?_
  congr 1
  rw [decide_eq_decide]
  constructor
  · intro h
    exact list_ext (by omega) fun i hi => h i (by simp; omega)
  · rintro rfl i _
    rfl
theorem refl_T (k : List Int) (hk : k.length = 16) (w : World) : Sem.run Try.prog (Op.equalIn 10000 41 (.agg (kc k)) (.agg (kc k))) w = .ok true w := by
  rw [eq_T k k hk hk]; simp
theorem refl_N (k : List Int) (hk : k.length = 12) (w : World) : Sem.run Try.prog (Op.equalIn 10000 25 (.agg (kc k)) (.agg (kc k))) w = .ok true w := by
  rw [eq_N k k hk hk]; simp
end Go.Proofs.Ytdekjbdkpchbjaa
