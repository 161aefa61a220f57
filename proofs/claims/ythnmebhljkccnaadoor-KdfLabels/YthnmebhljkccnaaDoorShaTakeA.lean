/-
  What take makes of whole blocks: plain facts.
-/
import Derived.Test.YthnmebhljkccnaaDoorShaWorld
namespace Go.Proofs.YthnmebhljkccnaaDoor
open Go.RowKit
set_option maxRecDepth 100000
set_option linter.unusedSimpArgs false

/-- the state behind n blocks -/
def bk : Nat → List Int → List Int → List Int
  | 0, s, _ => s
  | n + 1, s, B => stp (bk n s B) (wds ((B.drop (64 * n)).take 64)) KL
theorem bk_len (s B : List Int) (hs : s.length = 8) : ∀ n, (bk n s B).length = 8
  | 0 => hs
  | _ + 1 => stp_len _ _ _
/-- the cells of a Hash -/
def hcl (s l : List Int) (n : Int) : List Value := s.map (Value.int .u32) ++ (l.map (Value.int .u8) ++ [.int .i64 n])
def hc (s l : List Int) (n : Int) : Array Value := (hcl s l n).toArray
/-- bytes that lie behind a slice, out of the state's cells in g -/
def SlO (g : Nat) (w : World) (a : Option Addr) (B : List Int) : Prop := B = [] ∨ ∃ p o, a = some ⟨p, o, none⟩ ∧ At w p o B ∧ (p ≠ g ∨ 8 ≤ o)
theorem range_st {w : World} {g : Nat} {s l : List Int} {n : Int} {t : TypeId} (h : w.heap[g]? = some (.cells (hc s l n) t (0, 0))) : w.rangeAt g 0 (s.map (Value.int .u32)) := by
  intro j v hj
  refine cell_of h ?_
  unfold hc hcl
  have hlt := (List.getElem?_eq_some_iff.1 hj).1
  rw [List.getElem?_toArray, Nat.zero_add, List.getElem?_append_left hlt]
  exact hj
theorem list_store_mid {P : Program} {ops : Array Oper} {Q : Exit → Act → World → Prop} {a : Act} {w : World} {o : Oper} {K : Act → World → Prop} (ty : TypeId) (x y : Operand) (g off : Nat) (c : Array Value) (hw : Region.wanted o (yielded ops a.tmps) = true) (ho : o.op = .store ty x y)
    (hx : a.eval x = .pointer (some ⟨g, off, none⟩)) (hy : a.eval y = .agg c) (ht : w.there g off c.size) (hi : (P.info? ty).map (·.size) = some c.size) (h1 : c.all (·.oneCell') = true)
    (h : K (a.put o.dst undef) (w.setCells g off c.toList)) : if Region.wanted o (yielded ops a.tmps) = true then Oper.wp P o a w K Q else K (a.put o.dst undef) w := by
  rw [if_pos hw]
  exact wp_store_mid ty x y ho g off c hx hy ht hi h1 h

theorem At.bt {g : Nat} {w v : World} {p o : Nat} {B : List Int} (h : At w p o B) (k : Bt g w v) (hp : p ≠ g) : At v p o B := fun j hj => k.cell (h j hj) hp
theorem SlO.gr {g : Nat} {w v : World} {a : Option Addr} {B : List Int} (h : SlO g w a B) (k : Gr w v) : SlO g v a B := by
  rcases h with h | ⟨p, o, h1, h2, h3⟩
  · exact .inl h
  · exact .inr ⟨p, o, h1, h2.gr k, h3⟩
/-- where take stands behind j blocks -/
structure TI (g gk : Nat) (s l : List Int) (n : Int) (B : List Int) (w : World) (j : Nat) (a : Option Addr) (v : World) : Prop where
  hash : v.heap[g]? = some (.cells (hc (bk j s B) l n) 73 (0, 0))
  ks : v.heap[gk]? = some (.cells (uc KL) 64 (0, 0))
  bt : Bt g w v
  sl : SlO g v a (B.drop (64 * j))
  ne : gk ≠ g
theorem TI.gr {g gk : Nat} {s l : List Int} {n : Int} {B : List Int} {w : World} {j : Nat} {a : Option Addr} {u v : World} (h : TI g gk s l n B w j a u) (k : Gr u v) : TI g gk s l n B w j a v :=
  ⟨k.blk h.hash, k.blk h.ks, h.bt.trans (k.bt g), h.sl.gr k, h.ne⟩
/-- what take answers and leaves -/
def Took (g : Nat) (s l : List Int) (n : Int) (B : List Int) (w : World) (r : Ending) (w' : World) : Prop := ∃ a' c', r = .returned (.slice a' (B.length % 64) c') ∧ B.length % 64 ≤ c' ∧ c' < 9223372036854775808 ∧ SlO g w' a' (B.drop (64 * (B.length / 64))) ∧
  w'.heap[g]? = some (.cells (hc (bk (B.length / 64) s B) l n) 73 (0, 0)) ∧ Bt g w w'
def slen : Value → Nat
  | .slice _ n _ => n
  | _ => 0
theorem TI.at_ {g gk : Nat} {s l : List Int} {n : Int} {B : List Int} {w : World} {j p o : Nat} {v : World} (h : TI g gk s l n B w j (some ⟨p, o, none⟩) v) : At v p o ((B.drop (64 * j)).take 64) := by
  intro k hk
  rw [List.length_take] at hk
  rcases h.sl with h0 | ⟨p', o', h1, h2, h3⟩
  · rw [h0] at hk; simp at hk
  · have e1 : p' = p ∧ o' = o := by simpa using h1.symm
    obtain ⟨rfl, rfl⟩ := e1
    have h4 := h2 k (by omega)
    rw [h4]
    have : ((B.drop (64 * j)).take 64).getD k 0 = (B.drop (64 * j)).getD k 0 := by
      have hk2 : k < 64 := by omega
      simp [List.getElem?_take, hk2]
    rw [this]
theorem TI.rng {g gk : Nat} {s l : List Int} {n : Int} {B : List Int} {w : World} {j : Nat} {a : Option Addr} {v : World} {S : List Int} (h : TI g gk s l n B w j a v) (e : Hid (S = bk j s B)) : v.rangeAt g 0 (S.map (Value.int .u32)) := by
  rw [unhide e]
  exact range_st h.hash
theorem TI.step {g gk : Nat} {s l : List Int} {n : Int} {B : List Int} {w : World} {j p o : Nat} {v : World} {S : List Int} (h : TI g gk s l n B w j (some ⟨p, o, none⟩) v) (hs : s.length = 8) (e : S = bk j s B) :
    (v.setCells g 0 (uc (stp S (wds ((B.drop (64 * j)).take 64)) KL)).toList).heap[gk]? = some (.cells (uc KL) 64 (0, 0)) ∧ TI g gk s l n B w (j + 1) (some ⟨p, o + 64, none⟩) (v.setCells g 0 (uc (stp S (wds ((B.drop (64 * j)).take 64)) KL)).toList) := by
  have h1 : (v.setCells g 0 (uc (stp S (wds ((B.drop (64 * j)).take 64)) KL)).toList).heap[gk]? = some (.cells (uc KL) 64 (0, 0)) := (setCells_other _ v g 0 gk h.ne).trans h.ks
  refine ⟨h1, ⟨?_, h1, h.bt.trans (setCells_bt _ v g 0), ?_, h.ne⟩⟩
  · rw [setCells_heap _ v g 0 _ _ h.hash, e]
    have := sp_mid ((stp (bk j s B) (wds ((B.drop (64 * j)).take 64)) KL).map (Value.int .u32)) [] ((bk j s B).map (Value.int .u32)) (l.map (Value.int .u8) ++ [.int .i64 n]) (by rw [List.length_map, List.length_map, bk_len s B hs j]; rfl)
    simp only [List.nil_append, List.length_nil] at this
    unfold hcl uc
    simp only []
    rw [this]
    rfl
  · rcases h.sl with h0 | ⟨p', o', e1, h2, h3⟩
    · refine .inl ?_
      rw [Nat.mul_add, ← List.drop_drop, h0]
      rfl
    · have e2 : p' = p ∧ o' = o := by simpa using e1.symm
      obtain ⟨rfl, rfl⟩ := e2
      refine .inr ⟨p', o' + 64, rfl, ?_, by omega⟩
      intro k hk
      rw [List.length_drop] at hk
      have h4 := h2 (64 + k) (by rw [List.length_drop]; omega)
      have h5 : (B.drop (64 * (j + 1))).getD k 0 = (B.drop (64 * j)).getD (64 + k) 0 := by
        rw [Nat.mul_add, ← List.drop_drop]
        simp [Nat.add_assoc]
      rw [h5, ← h4]
      have h6 : o' + 64 + k = o' + (64 + k) := by omega
      rw [h6]
      refine World.cell?_setCells_out g _ 0 v _ (fun e3 _ => ?_)
      right
      show 0 + (uc _).toList.length ≤ o' + (64 + k)
      rw [Array.length_toList, uc_size, stp_len]
      omega
section
variable {P : Program} {md : Region.Mode} {ops : Array Oper} {Q : Exit → Act → World → Prop} {S : World → Prop}
/-- a load and a call, in whatever order -/
theorem any_pair {i j : Nat} {oi oj : Oper} {v : Value} {f : FuncId} {args : Array Value} {l : Array Bool} {a : Act} {w : World} (R : World → Prop) (T : Value → World → Prop)
    (hr1 : Region.ready md ops l = [i, j]) (hr2 : Region.ready md ops (l.setIfInBounds i true) = [j]) (hr3 : Region.ready md ops (l.setIfInBounds j true) = [i])
    (hoi : ops[i]? = some oi) (hoj : ops[j]? = some oj)
    (hw1 : Region.wanted oi (yielded ops a.tmps) = true) (hw2 : Region.wanted oj (yielded ops a.tmps) = true)
    (hw3 : Region.wanted oj (yielded ops (a.put oi.dst v).tmps) = true) (hw4 : ∀ r, Region.wanted oi (yielded ops (a.put oj.dst r).tmps) = true)
    (hl1 : ∀ w, R w → (execOp a.eval oi).run P w = .ok (.value v) w) (hl2 : ∀ r w, R w → (execOp (a.put oj.dst r).eval oi).run P w = .ok (.value v) w)
    (hc1 : ∀ w, (execOp a.eval oj).run P w = .ok (.enter f args) w) (hc2 : ∀ w, (execOp (a.put oi.dst v).eval oj).run P w = .ok (.enter f args) w)
    (hc : ∀ w, R w → Calls P f args w (fun e w' => ∃ r, e = .returned r ∧ R w' ∧ T r w')) (hRS : ∀ w, R w → S w) (hR : R w)
    (hcomm : ∀ r, (a.put oj.dst r).put oi.dst v = (a.put oi.dst v).put oj.dst r) (hlcomm : (l.setIfInBounds j true).setIfInBounds i true = (l.setIfInBounds i true).setIfInBounds j true)
    (hfin : ∀ r w', R w' → T r w' → Any P md ops Q S ((l.setIfInBounds i true).setIfInBounds j true) ((a.put oi.dst v).put oj.dst r) w') : Any P md ops Q S l a w := by
  intro fuel hfu
  have hm : i ∈ Region.ready md ops l := by rw [hr1]; exact List.mem_cons_self
  have hmj : j ∈ Region.ready md ops l := by rw [hr1]; exact List.mem_cons_of_mem _ List.mem_cons_self
  have h1 := left_of (mem_ready.1 hm).1
  have h2 := left_of (mem_ready.1 hmj).1
  obtain ⟨n, rfl⟩ : ∃ n, fuel = n + 1 := ⟨fuel - 1, by omega⟩
  refine wpAnyH_ready hr1 (by simp) (AllReadyH.cons hoi (fun K hK => ?_) (AllReadyH.cons hoj (fun K hK => ?_) AllReadyH.nil))
  · rw [if_pos hw1]
    unfold Oper.wp
    rw [hl1 w hR]
    refine hK.out _ _ (hRS w hR) (fun _ => ?_)
    refine any_one (S := S) hr2 hoj (fun K2 hK2 => ?_) n (by omega)
    refine step_callw hw3 f args (hc2 w) ((hc w hR).mono ?_)
    rintro e w' ⟨r, rfl, hR', hT⟩
    exact ⟨r, rfl, hK2.out _ _ (hRS w' hR') (fun _ => hfin r w' hR' hT)⟩
  · refine step_callw hw2 f args (hc1 w) ((hc w hR).mono ?_)
    rintro e w' ⟨r, rfl, hR', hT⟩
    refine ⟨r, rfl, hK.out _ _ (hRS w' hR') (fun _ => ?_)⟩
    refine any_one (S := S) hr3 hoi (fun K2 hK2 => ?_) n (by omega)
    rw [if_pos (hw4 r)]
    unfold Oper.wp
    rw [hl2 r w' hR']
    refine hK2.out _ _ (hRS w' hR') (fun _ => ?_)
    rw [hcomm r, hlcomm]
    exact hfin r w' hR' hT
end
end Go.Proofs.YthnmebhljkccnaaDoor
