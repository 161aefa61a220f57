/-
  A number in four bytes; a label and parts, told apart.
-/
import Derived.Test.YtpmgmpihmpifgabDoorKdfE
import Derived.Lib.AppendStr
namespace Go.Proofs.YtpmgmpihmpifgabDoor
open Go.RowKit
set_option maxRecDepth 100000
set_option linter.unusedSimpArgs false
set_option linter.unusedVariables false

/-- the lowest k bytes of a number -/
def lw (X : Nat) : Nat → List Int
  | 0 => []
  | k + 1 => lw X k ++ [((X / 256 ^ k % 256 : Nat) : Int)]
theorem lw_len (X : Nat) : ∀ k, (lw X k).length = k
  | 0 => rfl
  | k + 1 => by rw [lw, List.length_append, lw_len X k]; rfl
theorem lw_isB (X : Nat) : ∀ k, IsB (lw X k)
  | 0 => by intro x hx; cases hx
  | k + 1 => by
    intro x hx
    rw [lw] at hx
    rcases List.mem_append.1 hx with h | h
    · exact lw_isB X k x h
    · have : x = ((X / 256 ^ k % 256 : Nat) : Int) := by simpa using h
      omega
/-- the first k bytes are laid, the rest are noughts -/
def lwz (B : List Int) (X k : Nat) : List Int := B ++ (lw X k ++ List.replicate (4 - k) 0)
theorem lwz_len (B : List Int) (X k : Nat) (hk : k ≤ 4) : (lwz B X k).length = B.length + 4 := by
  unfold lwz
  rw [List.length_append, List.length_append, lw_len, List.length_replicate]
  omega
theorem lwz_next (B : List Int) (X k : Nat) (hk : k < 4) : (lwz B X k).set (B.length + k) ((X / 256 ^ k % 256 : Nat) : Int) = lwz B X (k + 1) := by
  obtain ⟨m, hm⟩ : ∃ m, 4 - k = m + 1 := ⟨3 - k, by omega⟩
  have hm2 : 4 - (k + 1) = m := by omega
  unfold lwz
  rw [hm, hm2, List.set_append_right _ _ (by omega), Nat.add_sub_cancel_left, List.set_append_right _ _ (by rw [lw_len]; omega), lw_len, Nat.sub_self, List.replicate_succ, List.set_cons_zero, lw, List.append_assoc]
  rfl
theorem lwz_zero (B : List Int) (X : Nat) : lwz B X 0 = B ++ List.replicate 4 0 := rfl
theorem lwz_all (B : List Int) (X : Nat) : lwz B X 4 = B ++ lw X 4 := by unfold lwz; simp
def Putd (B : List Int) (X : Nat) (n : Nat) (w : World) (r : Ending) (w' : World) : Prop := ∃ g, r = .returned (.slice (some ⟨g, 0, none⟩) (n + 4) (n + 4)) ∧ w.heap.size ≤ g ∧ w'.heap[g]? = some (.cells (kc (B ++ lw X 4)) 5 (0, 0)) ∧ Gr w w'
/-- the bytes of a text -/
def tb (s : ByteArray) : List Int := s.data.toList.map fun x => ((x.toNat : Nat) : Int)
theorem tb_len (s : ByteArray) : (tb s).length = s.size := by unfold tb; simp
theorem tb_isB (s : ByteArray) : IsB (tb s) := by
  intro x hx
  obtain ⟨y, _, rfl⟩ := List.mem_map.1 hx
  have := y.toNat_lt
  omega
theorem tb_cells (s : ByteArray) : Lib.strCells s = (tb s).map (Value.int .u8) := by unfold Lib.strCells tb; simp
/-- a text is put behind bytes of one's own -/
theorem app_str {w : World} {ops : Array Oper} {rest : List Oper} {o : Oper} {a : Act} {Q : Exit → Act → World → Prop} (hgd : o.guard = none) (s x : Operand)
    (ho : o.op = .call { callee := .builtin .append, args := #[s, x], argTypes := #[34, 9] }) (b : Nat) (v : Value) (L : List Int) (hs : a.eval s = v) (hown : Ob b w v L)
    (t : ByteArray) (hx : a.eval x = .string t) (hbig : L.length + t.size ≤ 140737488355328) (hB : b ≤ w.heap.size)
    (h : ∀ v' w', Ob b w' v' (L ++ tb t) → w.grownBy w' v.ownBlock → wpList Tryd.prog ops Q rest (a.put o.dst v') w') :
    wpList Tryd.prog ops Q (o :: rest) a w := by
  obtain ⟨i0, hi, hz0, hz1, hz2⟩ := info_parts Tryd.info5
  refine Lib.wpList_append_own_string w hgd s x 34 9 ho b 5 i0 Tryd.underlying34 Tryd.underlying9 hi hz0 hz1 hz2 v L.length _ hs hown t hx (by unfold maxLen; omega) hbig hB ?_
  intro v' w' h1 h2 _
  refine h v' w' ?_ h2
  unfold Ob
  rw [List.length_append, List.map_append, tb_len, ← tb_cells]
  exact h1
theorem Putd.ob {w w' : World} {B : List Int} {X n g : Nat} (hn : B.length = n) (hg : w.heap.size ≤ g) (h : w'.heap[g]? = some (.cells (kc (B ++ lw X 4)) 5 (0, 0))) (hb : n ≤ 281474976710656) : Ob w.heap.size w' (.slice (some ⟨g, 0, none⟩) (n + 4) (n + 4)) (B ++ lw X 4) := by
  have hl : (B ++ lw X 4).length = n + 4 := by rw [List.length_append, lw_len, hn]
  refine ⟨by simp, .inr ⟨g, n + 4, kc (B ++ lw X 4), by rw [hl], hg, h, by omega, by unfold maxLen; omega, by rw [kc_size, hl]; omega, ?_⟩⟩
  unfold kc
  rw [Nat.mul_one]
  exact List.take_of_length_le (by simp)
theorem Ob.up {b b' : Nat} {w : World} {v : Value} {L : List Int} (h : Ob b w v L) (k : b' ≤ b) : Ob b' w v L := by
  obtain ⟨h1, h2 | ⟨g, cap, cur, h2, h3, h4, h5⟩⟩ := h
  · exact ⟨h1, .inl h2⟩
  · exact ⟨h1, .inr ⟨g, cap, cur, h2, by omega, h4, h5⟩⟩
theorem Ob.lb {b : Nat} {w : World} {v : Value} {L : List Int} (h : Ob b w v L) (hb : IsB L) : ∃ a c, v = .slice a L.length c ∧ Lb w a L.length c L := by
  obtain ⟨a, c, h1, h2, h3, h4⟩ := h.slice
  exact ⟨a, c, h1, rfl, hb, h4, h2, by unfold maxLen at h3; omega⟩
/-- a part with its length ahead of it -/
def tpart (p : List Int) : List Int := lw p.length 4 ++ p
theorem tpart_isB {p : List Int} (h : IsB p) : IsB (tpart p) := isB_append (lw_isB _ _) h
/-- a label and k parts -/
def infL (l : List Int) (ps : List (List Int)) (k : Nat) : List Int := tpart l ++ ((ps.take k).map tpart).flatten
theorem infL_next (l : List Int) (ps : List (List Int)) (k : Nat) (h : k < ps.length) : infL l ps (k + 1) = infL l ps k ++ tpart (ps.getD k []) := by
  unfold infL
  rw [List.take_add_one, List.getElem?_eq_getElem h, List.map_append, List.flatten_append, ← List.append_assoc]
  simp [h]
/-- a label and parts, told apart -/
def infoL (l : List Int) (ps : List (List Int)) : List Int := infL l ps ps.length
def small4 (ps : List (List Int)) : Prop := ps.length ≤ 100 ∧ ∀ p ∈ ps, p.length ≤ 4096
theorem infL_len (l : List Int) (ps : List (List Int)) (hl : l.length ≤ 1000) (hp : small4 ps) : ∀ k, k ≤ ps.length → (infL l ps k).length ≤ 1004 + 4100 * k
  | 0, _ => by unfold infL tpart; simp [lw_len]; omega
  | k + 1, h => by
    rw [infL_next l ps k (by omega), List.length_append]
    have h1 := infL_len l ps hl hp k (by omega)
    have h2 : (tpart (ps.getD k [])).length ≤ 4100 := by
      have h3 : (ps.getD k []) ∈ ps := by rw [List.getD_eq_getElem?_getD, List.getElem?_eq_getElem (by omega)]; exact List.getElem_mem _
      have := hp.2 _ h3
      unfold tpart
      rw [List.length_append, lw_len]
      omega
    omega
def Infd (L : List Int) (w : World) (r : Ending) (w' : World) : Prop := ∃ v, r = .returned v ∧ Ob w.heap.size w' v L ∧ Gr w w'
end Go.Proofs.YtpmgmpihmpifgabDoor
