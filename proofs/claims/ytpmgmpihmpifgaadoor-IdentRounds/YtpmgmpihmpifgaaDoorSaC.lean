/-
  What take makes of whole blocks: plain facts. What take answers. With what bytes are filled up. What a Hash stands for.
-/
import Derived.Test.YtpmgmpihmpifgaaDoorSaB
import Derived.OwnWalk
import Derived.Laws.IdiomCopy
namespace Go.Proofs.YtpmgmpihmpifgaaDoor
open Go.RowKit
set_option maxRecDepth 100000
set_option linter.unusedSimpArgs false
set_option linter.unusedVariables false

/-- the state behind n blocks -/
def hbk : Nat → List Int → List Int → List Int
  | 0, s, _ => s
  | n + 1, s, B => stp (hbk n s B) (wds ((B.drop (64 * n)).take 64)) KL
theorem hbk_len (s B : List Int) (hs : s.length = 8) : ∀ n, (hbk n s B).length = 8
  | 0 => hs
  | _ + 1 => stp_len _ _ _
/-- the cells of a Hash -/
def hcl (s l : List Int) (n : Int) : List Value := s.map (Value.int .u32) ++ (l.map (Value.int .u8) ++ [.int .i64 n])
def hc (s l : List Int) (n : Int) : Array Value := (hcl s l n).toArray
/-- bytes that lie behind a slice, out of the state's cells in g -/
def SlO (g : Nat) (w : World) (a : Option Addr) (B : List Int) : Prop := B = [] ∨ ∃ p o, a = some ⟨p, o, none⟩ ∧ At w p o B ∧ (p ≠ g ∨ 8 ≤ o)
theorem range_st {w : World} {g : Nat} {s l : List Int} {n : Int} {t : TypeId} (h : w.heap[g]? = some (.cells (hc s l n) t (0, 0))) : w.rangeAt g 0 (s.map (Value.int .u32)) := by
  intro j v hj
  refine cell_of h ?_
  unfold hc hcl
  have hlt := (List.getElem?_eq_some_iff.1 hj).1
  rw [List.getElem?_toArray, Nat.zero_add, List.getElem?_append_left hlt]
  exact hj
theorem list_store_mid {P : Program} {ops : Array Oper} {Q : Exit → Act → World → Prop} {a : Act} {w : World} {o : Oper} {K : Act → World → Prop} (ty : TypeId) (x y : Operand) (g off : Nat) (c : Array Value) (hw : Region.wanted o (yielded ops a.tmps) = true) (ho : o.op = .store ty x y)
    (hx : a.eval x = .pointer (some ⟨g, off, none⟩)) (hy : a.eval y = .agg c) (ht : w.there g off c.size) (hi : (P.info? ty).map (·.size) = some c.size) (h1 : c.all (·.oneCell') = true)
    (h : K (a.put o.dst undef) (w.setCells g off c.toList)) : if Region.wanted o (yielded ops a.tmps) = true then Oper.wp P o a w K Q else K (a.put o.dst undef) w := by
  rw [if_pos hw]
  exact wp_store_mid ty x y ho g off c hx hy ht hi h1 h

theorem At.bt {g : Nat} {w v : World} {p o : Nat} {B : List Int} (h : At w p o B) (k : Bt g w v) (hp : p ≠ g) : At v p o B := fun j hj => k.cell (h j hj) hp
theorem SlO.gr {g : Nat} {w v : World} {a : Option Addr} {B : List Int} (h : SlO g w a B) (k : Gr w v) : SlO g v a B := by
  rcases h with h | ⟨p, o, h1, h2, h3⟩
  · exact .inl h
  · exact .inr ⟨p, o, h1, h2.gr k, h3⟩
/-- where take stands behind j blocks -/
structure TI (g gk : Nat) (s l : List Int) (n : Int) (B : List Int) (w : World) (j : Nat) (a : Option Addr) (v : World) : Prop where
  hash : v.heap[g]? = some (.cells (hc (hbk j s B) l n) 99 (0, 0))
  ks : v.heap[gk]? = some (.cells (uc KL) 70 (0, 0))
  bt : Bt g w v
  sl : SlO g v a (B.drop (64 * j))
  ne : gk ≠ g
theorem TI.gr {g gk : Nat} {s l : List Int} {n : Int} {B : List Int} {w : World} {j : Nat} {a : Option Addr} {u v : World} (h : TI g gk s l n B w j a u) (k : Gr u v) : TI g gk s l n B w j a v :=
  ⟨k.blk h.hash, k.blk h.ks, h.bt.trans (k.bt g), h.sl.gr k, h.ne⟩
/-- what take answers and leaves -/
def Took (g : Nat) (s l : List Int) (n : Int) (B : List Int) (w : World) (r : Ending) (w' : World) : Prop := ∃ a' c', r = .returned (.slice a' (B.length % 64) c') ∧ B.length % 64 ≤ c' ∧ c' < 9223372036854775808 ∧ SlO g w' a' (B.drop (64 * (B.length / 64))) ∧
  w'.heap[g]? = some (.cells (hc (hbk (B.length / 64) s B) l n) 99 (0, 0)) ∧ Bt g w w'
def slen : Value → Nat
  | .slice _ n _ => n
  | _ => 0
theorem TI.at_ {g gk : Nat} {s l : List Int} {n : Int} {B : List Int} {w : World} {j p o : Nat} {v : World} (h : TI g gk s l n B w j (some ⟨p, o, none⟩) v) : At v p o ((B.drop (64 * j)).take 64) := by
  intro k hk
  rw [List.length_take] at hk
  rcases h.sl with h0 | ⟨p', o', h1, h2, h3⟩
  · rw [h0] at hk; simp at hk
  · have e1 : p' = p ∧ o' = o := by simpa using h1.symm
    obtain ⟨rfl, rfl⟩ := e1
    have h4 := h2 k (by omega)
    rw [h4]
    have : ((B.drop (64 * j)).take 64).getD k 0 = (B.drop (64 * j)).getD k 0 := by
      have hk2 : k < 64 := by omega
      simp [List.getElem?_take, hk2]
    rw [this]
theorem TI.rng {g gk : Nat} {s l : List Int} {n : Int} {B : List Int} {w : World} {j : Nat} {a : Option Addr} {v : World} {S : List Int} (h : TI g gk s l n B w j a v) (e : Hid (S = hbk j s B)) : v.rangeAt g 0 (S.map (Value.int .u32)) := by
  rw [unhide e]
  exact range_st h.hash
theorem TI.step {g gk : Nat} {s l : List Int} {n : Int} {B : List Int} {w : World} {j p o : Nat} {v : World} {S : List Int} (h : TI g gk s l n B w j (some ⟨p, o, none⟩) v) (hs : s.length = 8) (e : S = hbk j s B) :
    (v.setCells g 0 (uc (stp S (wds ((B.drop (64 * j)).take 64)) KL)).toList).heap[gk]? = some (.cells (uc KL) 70 (0, 0)) ∧ TI g gk s l n B w (j + 1) (some ⟨p, o + 64, none⟩) (v.setCells g 0 (uc (stp S (wds ((B.drop (64 * j)).take 64)) KL)).toList) := by
  have h1 : (v.setCells g 0 (uc (stp S (wds ((B.drop (64 * j)).take 64)) KL)).toList).heap[gk]? = some (.cells (uc KL) 70 (0, 0)) := (setCells_other _ v g 0 gk h.ne).trans h.ks
  refine ⟨h1, ⟨?_, h1, h.bt.trans (setCells_bt _ v g 0), ?_, h.ne⟩⟩
  · rw [setCells_heap _ v g 0 _ _ h.hash, e]
    have := sp_mid ((stp (hbk j s B) (wds ((B.drop (64 * j)).take 64)) KL).map (Value.int .u32)) [] ((hbk j s B).map (Value.int .u32)) (l.map (Value.int .u8) ++ [.int .i64 n]) (by rw [List.length_map, List.length_map, hbk_len s B hs j]; rfl)
    simp only [List.nil_append, List.length_nil] at this
    unfold hcl uc
    simp only []
    rw [this]
    rfl
  · rcases h.sl with h0 | ⟨p', o', e1, h2, h3⟩
    · refine .inl ?_
      rw [Nat.mul_add, ← List.drop_drop, h0]
      rfl
    · have e2 : p' = p ∧ o' = o := by simpa using e1.symm
      obtain ⟨rfl, rfl⟩ := e2
      refine .inr ⟨p', o' + 64, rfl, ?_, by omega⟩
      intro k hk
      rw [List.length_drop] at hk
      have h4 := h2 (64 + k) (by rw [List.length_drop]; omega)
      have h5 : (B.drop (64 * (j + 1))).getD k 0 = (B.drop (64 * j)).getD (64 + k) 0 := by
        rw [Nat.mul_add, ← List.drop_drop]
        simp [Nat.add_assoc]
      rw [h5, ← h4]
      have h6 : o' + 64 + k = o' + (64 + k) := by omega
      rw [h6]
      refine World.cell?_setCells_out g _ 0 v _ (fun e3 _ => ?_)
      right
      show 0 + (uc _).toList.length ≤ o' + (64 + k)
      rw [Array.length_toList, uc_size, stp_len]
      omega
section
variable {P : Program} {md : Region.Mode} {ops : Array Oper} {Q : Exit → Act → World → Prop} {S : World → Prop}
/-- a load and a call, in whatever order -/
theorem any_pair {i j : Nat} {oi oj : Oper} {v : Value} {f : FuncId} {args : Array Value} {l : Array Bool} {a : Act} {w : World} (R : World → Prop) (T : Value → World → Prop)
    (hr1 : Region.ready md ops l = [i, j]) (hr2 : Region.ready md ops (l.setIfInBounds i true) = [j]) (hr3 : Region.ready md ops (l.setIfInBounds j true) = [i])
    (hoi : ops[i]? = some oi) (hoj : ops[j]? = some oj)
    (hw1 : Region.wanted oi (yielded ops a.tmps) = true) (hw2 : Region.wanted oj (yielded ops a.tmps) = true)
    (hw3 : Region.wanted oj (yielded ops (a.put oi.dst v).tmps) = true) (hw4 : ∀ r, Region.wanted oi (yielded ops (a.put oj.dst r).tmps) = true)
    (hl1 : ∀ w, R w → (execOp a.eval oi).run P w = .ok (.value v) w) (hl2 : ∀ r w, R w → (execOp (a.put oj.dst r).eval oi).run P w = .ok (.value v) w)
    (hc1 : ∀ w, (execOp a.eval oj).run P w = .ok (.enter f args) w) (hc2 : ∀ w, (execOp (a.put oi.dst v).eval oj).run P w = .ok (.enter f args) w)
    (hc : ∀ w, R w → Calls P f args w (fun e w' => ∃ r, e = .returned r ∧ R w' ∧ T r w')) (hRS : ∀ w, R w → S w) (hR : R w)
    (hcomm : ∀ r, (a.put oj.dst r).put oi.dst v = (a.put oi.dst v).put oj.dst r) (hlcomm : (l.setIfInBounds j true).setIfInBounds i true = (l.setIfInBounds i true).setIfInBounds j true)
    (hfin : ∀ r w', R w' → T r w' → Any P md ops Q S ((l.setIfInBounds i true).setIfInBounds j true) ((a.put oi.dst v).put oj.dst r) w') : Any P md ops Q S l a w := by
  intro fuel hfu
  have hm : i ∈ Region.ready md ops l := by rw [hr1]; exact List.mem_cons_self
  have hmj : j ∈ Region.ready md ops l := by rw [hr1]; exact List.mem_cons_of_mem _ List.mem_cons_self
  have h1 := left_of (mem_ready.1 hm).1
  have h2 := left_of (mem_ready.1 hmj).1
  obtain ⟨n, rfl⟩ : ∃ n, fuel = n + 1 := ⟨fuel - 1, by omega⟩
  refine wpAnyH_ready hr1 (by simp) (AllReadyH.cons hoi (fun K hK => ?_) (AllReadyH.cons hoj (fun K hK => ?_) AllReadyH.nil))
  · rw [if_pos hw1]
    unfold Oper.wp
    rw [hl1 w hR]
    refine hK.out _ _ (hRS w hR) (fun _ => ?_)
    refine any_one (S := S) hr2 hoj (fun K2 hK2 => ?_) n (by omega)
    refine step_callw hw3 f args (hc2 w) ((hc w hR).mono ?_)
    rintro e w' ⟨r, rfl, hR', hT⟩
    exact ⟨r, rfl, hK2.out _ _ (hRS w' hR') (fun _ => hfin r w' hR' hT)⟩
  · refine step_callw hw2 f args (hc1 w) ((hc w hR).mono ?_)
    rintro e w' ⟨r, rfl, hR', hT⟩
    refine ⟨r, rfl, hK.out _ _ (hRS w' hR') (fun _ => ?_)⟩
    refine any_one (S := S) hr3 hoi (fun K2 hK2 => ?_) n (by omega)
    rw [if_pos (hw4 r)]
    unfold Oper.wp
    rw [hl2 r w' hR']
    refine hK2.out _ _ (hRS w' hR') (fun _ => ?_)
    rw [hcomm r, hlcomm]
    exact hfin r w' hR' hT
end


set_option maxHeartbeats 2000000 in
theorem take_ok (s l : List Int) (n : Int) (hs : s.length = 8) (g : Nat) (B : List Int) (hb : IsB B) (a : Option Addr) (cap : Nat) (hcap : B.length ≤ cap) (hbig : cap < 9223372036854775808) (w : World)
    (hg : w.heap[g]? = some (.cells (hc s l n) 99 (0, 0))) (hA : SlO g w a B) :
    Calls Tryd.prog 67 #[.pointer (some ⟨g, 0, none⟩), .slice a B.length cap] w (Took g s l n B w) := by
  obtain ⟨N, hN⟩ : ∃ N, N = B.length := ⟨_, rfl⟩
  rw [← hN] at hcap
  obtain ⟨T, hT0⟩ : ∃ T, T = Took g s l n B w := ⟨_, rfl⟩
  rw [← hT0, ← hN]
  replace hT0 := hide hT0
  replace hb := hide hb
  replace hg := hide hg
  replace hA := hide hA
  replace hN := hide hN
  by_cases hl : N < 64
  · have e0 : N / 64 = 0 := by omega
    have e1 : N % 64 = N := by omega
    have hI : (N : Int) < 64 := by omega
    go_enter Tryd.func67, Tryd.ntmps67
    go_wp2_with fail
    show T (.returned (.slice a N cap)) w
    rw [unhide hT0]
    unfold Took
    rw [← unhide hN, e0, e1]
    exact ⟨a, cap, rfl, by omega, hbig, by simpa using unhide hA, unhide hg, Bt.refl g w⟩
  · have hI : ¬ (N : Int) < 64 := by omega
    go_enter Tryd.func67, Tryd.ntmps67
    go_upto_region 3 with fail
    have hB := Bl.nil w
    refine wp_region_lit ?_
    refine list_call 86 #[] (by kernel_rfl) (by kernel_rfl) ((constants_ok _).mono ?_)
    rintro r v1 ⟨rfl, hgr⟩
    refine ⟨_, rfl, ?_⟩
    replace hB := hB.more hgr
    replace hg := hide (hgr.blk (unhide hg))
    clear hgr
    simp only [Act.put, List.setIfInBounds_toArray, List.set_cons_zero, List.set_cons_succ, List.getElem_toArray, List.getElem_cons_zero, List.getElem_cons_succ]
    refine wpList_step fun K hK => ?_
    replace hK := hide hK
    go_simp
    refine unhide hK _ _ ?_
    clear hK K
    have hgk : v1.heap.size ≠ g := by have := lt_of_block (unhide hg); omega
    replace hB := hB.new #[.int .u32 0, .int .u32 0, .int .u32 0, .int .u32 0, .int .u32 0, .int .u32 0, .int .u32 0, .int .u32 0, .int .u32 0, .int .u32 0, .int .u32 0, .int .u32 0, .int .u32 0, .int .u32 0, .int .u32 0, .int .u32 0, .int .u32 0, .int .u32 0, .int .u32 0, .int .u32 0, .int .u32 0, .int .u32 0, .int .u32 0, .int .u32 0, .int .u32 0, .int .u32 0, .int .u32 0, .int .u32 0, .int .u32 0, .int .u32 0, .int .u32 0, .int .u32 0, .int .u32 0, .int .u32 0, .int .u32 0, .int .u32 0, .int .u32 0, .int .u32 0, .int .u32 0, .int .u32 0, .int .u32 0, .int .u32 0, .int .u32 0, .int .u32 0, .int .u32 0, .int .u32 0, .int .u32 0, .int .u32 0, .int .u32 0, .int .u32 0, .int .u32 0, .int .u32 0, .int .u32 0, .int .u32 0, .int .u32 0, .int .u32 0, .int .u32 0, .int .u32 0, .int .u32 0, .int .u32 0, .int .u32 0, .int .u32 0, .int .u32 0, .int .u32 0] 70
    replace hg := hide (((Gr.refl v1).alloc (.cells #[.int .u32 0, .int .u32 0, .int .u32 0, .int .u32 0, .int .u32 0, .int .u32 0, .int .u32 0, .int .u32 0, .int .u32 0, .int .u32 0, .int .u32 0, .int .u32 0, .int .u32 0, .int .u32 0, .int .u32 0, .int .u32 0, .int .u32 0, .int .u32 0, .int .u32 0, .int .u32 0, .int .u32 0, .int .u32 0, .int .u32 0, .int .u32 0, .int .u32 0, .int .u32 0, .int .u32 0, .int .u32 0, .int .u32 0, .int .u32 0, .int .u32 0, .int .u32 0, .int .u32 0, .int .u32 0, .int .u32 0, .int .u32 0, .int .u32 0, .int .u32 0, .int .u32 0, .int .u32 0, .int .u32 0, .int .u32 0, .int .u32 0, .int .u32 0, .int .u32 0, .int .u32 0, .int .u32 0, .int .u32 0, .int .u32 0, .int .u32 0, .int .u32 0, .int .u32 0, .int .u32 0, .int .u32 0, .int .u32 0, .int .u32 0, .int .u32 0, .int .u32 0, .int .u32 0, .int .u32 0, .int .u32 0, .int .u32 0, .int .u32 0, .int .u32 0] 70)).blk (unhide hg))
    simp only [List.nil_append] at hB
    have hgo : w.heap.size ≤ v1.heap.size := hB.own 0 (x := ⟨v1.heap.size, #[.int .u32 0, .int .u32 0, .int .u32 0, .int .u32 0, .int .u32 0, .int .u32 0, .int .u32 0, .int .u32 0, .int .u32 0, .int .u32 0, .int .u32 0, .int .u32 0, .int .u32 0, .int .u32 0, .int .u32 0, .int .u32 0, .int .u32 0, .int .u32 0, .int .u32 0, .int .u32 0, .int .u32 0, .int .u32 0, .int .u32 0, .int .u32 0, .int .u32 0, .int .u32 0, .int .u32 0, .int .u32 0, .int .u32 0, .int .u32 0, .int .u32 0, .int .u32 0, .int .u32 0, .int .u32 0, .int .u32 0, .int .u32 0, .int .u32 0, .int .u32 0, .int .u32 0, .int .u32 0, .int .u32 0, .int .u32 0, .int .u32 0, .int .u32 0, .int .u32 0, .int .u32 0, .int .u32 0, .int .u32 0, .int .u32 0, .int .u32 0, .int .u32 0, .int .u32 0, .int .u32 0, .int .u32 0, .int .u32 0, .int .u32 0, .int .u32 0, .int .u32 0, .int .u32 0, .int .u32 0, .int .u32 0, .int .u32 0, .int .u32 0, .int .u32 0], 70⟩) rfl
    generalize v1.heap.size = gk at *
    generalize World.alloc _ _ = v2 at *
    replace hB : Bl w [⟨gk, uc Z64, 70⟩] v2 := hB
    refine list_store 70 (.tmp 5) (.tmp 10) gk (uc KL) 70 (uc Z64) (by kernel_rfl) rfl (by kernel_rfl) (by kernel_rfl) (hB.get 0 (x := ⟨gk, uc Z64, 70⟩) rfl) (by rw [Tryd.infoW, uc_size, KL_len]) ((show (uc Z64).size = 64 from rfl).trans ((uc_size _).trans KL_len).symm) (uc_one _) ?_
    replace hB := hB.set 0 (x := ⟨gk, uc Z64, 70⟩) rfl (uc KL)
    simp only [List.set_cons_zero, List.set_cons_succ] at hB
    replace hg : Hid ((v2.setRow gk (uc KL)).heap[g]? = some (.cells (hc s l n) 99 (0, 0))) := hide ((setRow_other v2 gk g (uc KL) (fun e => hgk e.symm)).trans (unhide hg))
    generalize World.setRow _ _ _ = v3 at *
    simp only [Act.put, List.setIfInBounds_toArray, List.set_cons_zero, List.set_cons_succ, List.getElem_toArray, List.getElem_cons_zero, List.getElem_cons_succ]
    refine wpList_nil ?_
    have hT : TI g gk s l n B w 0 a v3 := ⟨unhide hg, hB.get 0 (x := ⟨gk, uc KL, 70⟩) rfl, hB.gr.bt g, by simpa using (unhide hA).gr hB.gr, hgk⟩
    replace hT := hide hT
    clear hB hg
    go_wp2_with fail
    go_loopw [1] (fun b wr => ∃ (j : Nat) (a : Option Addr) (c : Nat), b = .slice a (N - 64 * j) c ∧ 64 * j ≤ N ∧ N - 64 * j ≤ c ∧ c < 9223372036854775808 ∧ Hid (TI g gk s l n B w j a wr)) (fun b _ => slen b)
    case atStart => exact ⟨0, a, cap, rfl, by omega, by omega, hbig, hT⟩
    case round =>
    clear hT
    obtain ⟨j, a', c, rfl, hj, hc1, hc2, hT⟩ := hrel
    obtain ⟨m, hm⟩ : ∃ m, m = N - 64 * j := ⟨_, rfl⟩
    rw [← hm] at hc1
    rw [← hm]
    replace hT := unhide hT
    have hNl : (B.drop (64 * j)).length = m := by rw [List.length_drop, ← unhide hN, hm]
    by_cases hml : 64 ≤ m
    · obtain ⟨p, o, ha, hat, hpo⟩ := (show ∃ p o, a' = some ⟨p, o, none⟩ ∧ At wr p o (B.drop (64 * j)) ∧ (p ≠ g ∨ 8 ≤ o) by
        rcases hT.sl with h0 | h0
        · rw [h0] at hNl; simp at hNl; omega
        · exact h0)
      subst ha
      have mI : 64 ≤ (m : Int) := by omega
      have cI : 64 ≤ (c : Int) := by omega
      have cI2 : ¬ (c : Int) < 64 := by omega
      have mI2 : ¬ (m : Int) < 64 := by omega
      have hsl5 := hide hat
      have hb5 : Hid (IsB ((B.drop (64 * j)).take 64)) := fun x hx => unhide hb x (List.mem_of_mem_drop (List.mem_of_mem_take hx))
      have hl5 : Hid (((B.drop (64 * j)).take 64).length = 64) := by show List.length _ = 64; rw [List.length_take, hNl]; omega
      have hSl : (hbk j s B).length = 8 := hbk_len s B hs j
      obtain ⟨S, hSe⟩ : ∃ S, S = hbk j s B := ⟨_, rfl⟩
      rw [← hSe] at hSl
      replace hT := hide hT
      replace hSe := hide hSe
      replace hNl := hide hNl
      replace hpo := hide hpo
      go_upto_region 5 with fail
      replace hT := unhide hT
      refine any_start (S := fun v => v.heap[gk]? = some (.cells (uc KL) 70 (0, 0))) (by kernel_rfl) ?_
      replace hT := hT.gr (Gr.refl wr).drew
      have hS := hT.ks
      generalize World.drew _ = x0 at *
      simp only [List.size_toArray, List.length_cons, List.length_nil, Array.replicate, List.replicate]
      refine any_take (i := 0) (v := (.pointer (some ⟨g, 0, none⟩))) #[false, false, false, false, false, false, false, false, false, false, false, false, false] rfl (by kernel_rfl) (by kernel_rfl) (by kernel_rfl) (by kernel_rfl) (fun _ _ _ h => h) (.inl ⟨by kernel_rfl, fun x_ hu => by kernel_rfl⟩) hS ?_
      simp only [Act.put, List.setIfInBounds_toArray, List.set_cons_zero, List.set_cons_succ, List.getElem_toArray, List.getElem_cons_zero, List.getElem_cons_succ]
      refine any_take (i := 1) (v := (.pointer (some ⟨g, 0, none⟩))) #[true, false, false, false, false, false, false, false, false, false, false, false, false] rfl (by kernel_rfl) (by kernel_rfl) (by kernel_rfl) (by kernel_rfl) (fun _ _ _ h => h) (.inl ⟨by kernel_rfl, fun x_ hu => by kernel_rfl⟩) hS ?_
      simp only [Act.put, List.setIfInBounds_toArray, List.set_cons_zero, List.set_cons_succ, List.getElem_toArray, List.getElem_cons_zero, List.getElem_cons_succ]
      refine any_take (i := 2) (v := (.pointer (some ⟨g, 0, none⟩))) #[true, true, false, false, false, false, false, false, false, false, false, false, false] rfl (by kernel_rfl) (by kernel_rfl) (by kernel_rfl) (by kernel_rfl) (fun _ _ _ h => h) (.inl ⟨by kernel_rfl, fun x_ hu => by kernel_rfl⟩) hS ?_
      simp only [Act.put, List.setIfInBounds_toArray, List.set_cons_zero, List.set_cons_succ, List.getElem_toArray, List.getElem_cons_zero, List.getElem_cons_succ]
      refine any_take (i := 3) (v := (.pointer (some ⟨g, 0, none⟩))) #[true, true, true, false, false, false, false, false, false, false, false, false, false] rfl (by kernel_rfl) (by kernel_rfl) (by kernel_rfl) (by kernel_rfl) (fun _ _ _ h => h) (.inl ⟨by kernel_rfl, fun x_ hu => by kernel_rfl⟩) hS ?_
      simp only [Act.put, List.setIfInBounds_toArray, List.set_cons_zero, List.set_cons_succ, List.getElem_toArray, List.getElem_cons_zero, List.getElem_cons_succ]
      refine any_take (i := 5) (v := (.slice (some ⟨p, o, none⟩) m c)) #[true, true, true, true, false, false, false, false, false, false, false, false, false] rfl (by kernel_rfl) (by kernel_rfl) (by kernel_rfl) (by kernel_rfl) (fun _ _ _ h => h) (.inl ⟨by kernel_rfl, fun x_ hu => by kernel_rfl⟩) hS ?_
      simp only [Act.put, List.setIfInBounds_toArray, List.set_cons_zero, List.set_cons_succ, List.getElem_toArray, List.getElem_cons_zero, List.getElem_cons_succ]
      refine any_take (i := 6) (v := (.slice (some ⟨p, o, none⟩) 64 c)) #[true, true, true, true, false, true, false, false, false, false, false, false, false] rfl (by kernel_rfl) (by kernel_rfl) (by kernel_rfl) (by kernel_rfl) (fun _ _ _ h => h) (.inl ⟨by kernel_rfl, fun x_ hu => by go_simp⟩) hS ?_
      simp only [Act.put, List.setIfInBounds_toArray, List.set_cons_zero, List.set_cons_succ, List.getElem_toArray, List.getElem_cons_zero, List.getElem_cons_succ]
      refine any_take (i := 8) (v := (.agg (uc KL))) #[true, true, true, true, false, true, true, false, false, false, false, false, false] rfl (by kernel_rfl) (by kernel_rfl) (by kernel_rfl) (by kernel_rfl) (fun _ _ _ h => h) (.inl ⟨by kernel_rfl, fun x_ hu => exec_arr x_ 70 (.tmp 5) rfl gk (by kernel_rfl) (uc KL) 70 _ hu Tryd.underlying70 rfl (by rw [Tryd.infoW, uc_size, KL_len])⟩) hS ?_
      simp only [Act.put, List.setIfInBounds_toArray, List.set_cons_zero, List.set_cons_succ, List.getElem_toArray, List.getElem_cons_zero, List.getElem_cons_succ]
      refine any_pair (i := 4) (j := 7) (v := .agg (uc S)) (f := 88) (args := #[.slice (some ⟨p, o, none⟩) 64 c]) (fun v => TI g gk s l n B w j (some ⟨p, o, none⟩) v) (fun r _ => r = .agg (uc (wds ((B.drop (64 * j)).take 64)))) (by kernel_rfl) (by kernel_rfl) (by kernel_rfl) rfl rfl (by kernel_rfl) (by kernel_rfl) (by kernel_rfl) (fun r => by kernel_rfl) (fun x hx => exec_row x 73 (.tmp 17) rfl g 0 (by kernel_rfl) (S.map (Value.int .u32)) _ (hx.rng hSe) Tryd.underlying73 rfl (by rw [Tryd.infoS, List.length_map, hSl])) (fun r x hx => exec_row x 73 (.tmp 17) rfl g 0 (by kernel_rfl) (S.map (Value.int .u32)) _ (hx.rng hSe) Tryd.underlying73 rfl (by rw [Tryd.infoS, List.length_map, hSl])) (fun x => by kernel_rfl) (fun x => by kernel_rfl) (fun x hx => (words_ok ((B.drop (64 * j)).take 64) (unhide hb5) (unhide hl5) p o c x hx.at_).mono (fun e x2 h => ⟨_, h.1, hx.gr h.2, rfl⟩)) (fun x hx => hx.ks) hT (fun r => by kernel_rfl) (by kernel_rfl) ?_
      rintro r x2 hT2 rfl
      clear hT
      have hT := hT2
      clear hT2
      have hS := hT.ks
      simp only [Act.put, List.setIfInBounds_toArray, List.set_cons_zero, List.set_cons_succ, List.getElem_toArray, List.getElem_cons_zero, List.getElem_cons_succ]
      refine any_one (i := 9) (by kernel_rfl) rfl (fun K hK => ?_)
      refine step_callw (by kernel_rfl) 87 #[.agg (uc S), .agg (uc (wds ((B.drop (64 * j)).take 64))), .agg (uc KL)] (by kernel_rfl) ((steps_ok S (wds ((B.drop (64 * j)).take 64)) KL hSl (wds_len _) KL_len _).mono ?_)
      rintro r x9 ⟨rfl, hgr⟩
      refine ⟨_, rfl, ?_⟩
      replace hT := hT.gr hgr
      clear hgr hS
      have hS := hT.ks
      refine hK.out _ _ hS (fun _ => ?_)
      clear hK K
      simp only [Act.put, List.setIfInBounds_toArray, List.set_cons_zero, List.set_cons_succ, List.getElem_toArray, List.getElem_cons_zero, List.getElem_cons_succ]
      refine any_take (i := 10) (v := (.pointer (some ⟨g, 0, none⟩))) #[true, true, true, true, true, true, true, true, true, true, false, false, false] rfl (by kernel_rfl) (by kernel_rfl) (by kernel_rfl) (by kernel_rfl) (fun _ _ _ h => h) (.inl ⟨by kernel_rfl, fun x_ hu => by kernel_rfl⟩) hS ?_
      simp only [Act.put, List.setIfInBounds_toArray, List.set_cons_zero, List.set_cons_succ, List.getElem_toArray, List.getElem_cons_zero, List.getElem_cons_succ]
      refine any_take (i := 11) (v := (.pointer (some ⟨g, 0, none⟩))) #[true, true, true, true, true, true, true, true, true, true, true, false, false] rfl (by kernel_rfl) (by kernel_rfl) (by kernel_rfl) (by kernel_rfl) (fun _ _ _ h => h) (.inl ⟨by kernel_rfl, fun x_ hu => by kernel_rfl⟩) hS ?_
      simp only [Act.put, List.setIfInBounds_toArray, List.set_cons_zero, List.set_cons_succ, List.getElem_toArray, List.getElem_cons_zero, List.getElem_cons_succ]
      refine any_one (i := 12) (by kernel_rfl) rfl (fun K hK => ?_)
      have hre := unhide hSe
      refine list_store_mid 73 (.tmp 25) (.tmp 23) g 0 (uc (stp S (wds ((B.drop (64 * j)).take 64)) KL)) (by kernel_rfl) rfl (by kernel_rfl) (by kernel_rfl) (by rw [uc_size, stp_len]; exact there_of hT.hash (by unfold hcl; simp only [List.length_append, List.length_map]; rw [← hre, hSl]; omega)) (by rw [Tryd.infoS, uc_size, stp_len]) (uc_one _) ?_
      have hT3 := hT.step hs hre
      clear hT
      refine hK.out _ _ hT3.1 (fun _ => ?_)
      refine any_done (by kernel_rfl) ?_
      clear hK K hS
      simp only [Act.put, List.setIfInBounds_toArray, List.set_cons_zero, List.set_cons_succ, List.getElem_toArray, List.getElem_cons_zero, List.getElem_cons_succ]
      generalize World.setCells _ _ _ _ = x4 at *
      go_wp2_with fail
      have hT4 : TI g gk s l n B w (j + 1) (if c = 64 then some ⟨p, o, none⟩ else some ⟨p, o + 64, none⟩) x4 := by
        split
        · refine ⟨hT3.2.hash, hT3.2.ks, hT3.2.bt, .inl ?_, hT3.2.ne⟩
          refine List.eq_nil_of_length_eq_zero ?_
          rw [List.length_drop, ← unhide hN]
          omega
        · exact hT3.2
      refine ⟨⟨j + 1, _, c - 64, by congr 1, by omega, by omega, by omega, hide hT4⟩, ?_⟩
      show N - 64 * j - 64 < m
      omega
    · have mI : ¬ 64 ≤ (m : Int) := by omega
      have e0 : j = N / 64 := by omega
      have e1 : m = N % 64 := by omega
      have hT5 : Hid (SlO g wr a' (B.drop (64 * (N / 64))) ∧ wr.heap[g]? = some (.cells (hc (hbk (N / 64) s B) l n) 99 (0, 0)) ∧ Bt g w wr) := by
        rw [← e0]
        exact ⟨hT.sl, hT.hash, hT.bt⟩
      clear hT
      replace hNl := hide hNl
      go_wp2_with fail
      show T (.returned (.slice a' (N - 64 * (N / 64)) c)) wr
      rw [unhide hT0]
      unfold Took
      rw [← unhide hN]
      exact ⟨a', c, by rw [show N - 64 * (N / 64) = N % 64 by omega], by omega, hc2, (unhide hT5).1, (unhide hT5).2.1, (unhide hT5).2.2⟩


/-- the first r of eight bytes, the highest first -/
def be8 (X : Nat) : Nat → List Int
  | 0 => []
  | r + 1 => be8 X r ++ [((X / 2 ^ (56 - 8 * r) % 256 : Nat) : Int)]
theorem be8_len (X : Nat) : ∀ r, (be8 X r).length = r
  | 0 => rfl
  | r + 1 => by rw [be8, List.length_append, be8_len X r]; rfl
def nz (n : Nat) : Nat := (119 - n % 64) % 64
def padH (n : Nat) : List Int := 128 :: List.replicate (nz n) 0
def padL (n : Nat) : List Int := padH n ++ be8 (n * 8) 8
theorem padH_len (n : Nat) : (padH n).length = nz n + 1 := by unfold padH; simp
theorem padL_len (n : Nat) : (padL n).length = nz n + 9 := by unfold padL; rw [List.length_append, padH_len, be8_len]
theorem padL_whole (n : Nat) : (n + (padL n).length) % 64 = 0 := by rw [padL_len]; unfold nz; omega
theorem be8_isB (X : Nat) : ∀ r, IsB (be8 X r)
  | 0 => by intro x hx; cases hx
  | r + 1 => by
    intro x hx
    rw [be8] at hx
    rcases List.mem_append.1 hx with h | h
    · exact be8_isB X r x h
    · have : x = ((X / 2 ^ (56 - 8 * r) % 256 : Nat) : Int) := by simpa using h
      omega
theorem padL_isB (n : Nat) : IsB (padL n) := by
  intro x hx
  rcases List.mem_append.1 hx with h | h
  · rcases List.mem_cons.1 h with h | h
    · omega
    · have := List.eq_of_mem_replicate h
      omega
  · exact be8_isB _ _ x h
theorem Tryd.info5 : (Tryd.prog.info? 5).map (fun i => (i.zero, i.size, i.bytes)) = some (some (.int .u8 0), 1, 1) := by kernel_rfl

/-- a slice is made, with room behind it -/
theorem wpList_make_room (w : World) {ops : Array Oper} {rest : List Oper} {o : Oper} {a : Act} {Q : Exit → Act → World → Prop}
    (hg : o.guard = none) (l c : Operand) (hop : o.op = Op.makeSlice 33 l c) (L C : Int) (n m : Nat) (hl : a.eval l = .int .i64 L) (hc : a.eval c = .int .i64 C) (hL : L = (n : Int)) (hC : C = (m : Int)) (hnm : n ≤ m) (hn : m ≤ 281474976710656)
    (hK : wpList Tryd.prog ops Q rest (a.put o.dst (.slice (some ⟨w.heap.size, 0, none⟩) n m)) (w.alloc (.cells (kc (List.replicate m 0)) 5 (0, 0)))) :
    wpList Tryd.prog ops Q (o :: rest) a w := by
  obtain ⟨i, h2, h3, h4, h5⟩ := info_parts Tryd.info5
  subst hL hC
  refine wpList_plain hg fun K hK' => ?_
  have hrun := run_make (P := Tryd.prog) w 33 5 i (.int .u8 0) Tryd.underlying33 h2 h3 .i64 .i64 (n : Int) (m : Int) (by omega) (by omega) (by rw [h5]; omega) (by omega)
  rw [h4] at hrun
  have e : madeCells (Value.int .u8 0).cells m = kc (List.replicate m 0) := by
    apply Array.ext
    · simp [size_madeCells, kc]
    · intro i h1 h2
      have : i % 1 = 0 := Nat.mod_one i
      simp [madeCells, Value.cells, this, kc]
  simp only [Int.toNat_natCast, Nat.mul_one, e] at hrun
  unfold Oper.wp
  simp [execOp, hop, hl, hc, hrun, Result.andThen]
  exact hK' _ _ hK

theorem own_gr {B m : Nat} {v : Value} {xs : List Value} {w u : World} (h : w.ownsRow B 5 1 v m xs) (k : Gr w u) : u.ownsRow B 5 1 v m xs := by
  obtain ⟨h1, h2 | ⟨g, cap, cur, h2, h3, h4, h5⟩⟩ := h
  · exact ⟨h1, .inl h2⟩
  · exact ⟨h1, .inr ⟨g, cap, cur, h2, h3, k.blk h4, h5⟩⟩
theorem grown_gr {w u v : World} {g : Nat} (h : Gr w u) (k : u.grownBy v (some g)) (hg : w.heap.size ≤ g) : Gr w v :=
  ⟨k.os.trans h.os, k.tape.trans h.tape, k.output.trans h.output, Nat.le_trans h.size k.size, fun i hi => (k.block i (Nat.lt_of_lt_of_le hi h.size) (by simp; omega)).trans (h.block i hi)⟩
/-- what Pad answers -/
def Padded (n : Nat) (w : World) (r : Ending) (w' : World) : Prop := ∃ g, r = .returned (.slice (some ⟨g, 0, none⟩) (nz n + 9) (nz n + 9)) ∧ w.heap.size ≤ g ∧ w'.heap[g]? = some (.cells (kc (padL n)) 5 (0, 0)) ∧ Gr w w'

set_option maxHeartbeats 2000000 in
theorem pad_ok (n : Nat) (hn : n < 1152921504606846976) (w : World) : Calls Tryd.prog 68 #[.int .i64 n] w (Padded n w) := by
  obtain ⟨T, hT⟩ : ∃ T, T = Padded n w := ⟨_, rfl⟩
  rw [← hT]
  replace hT := hide hT
  obtain ⟨z, hz⟩ : ∃ z, z = nz n := ⟨_, rfl⟩
  obtain ⟨q, hq⟩ : ∃ q, q = n % 64 := ⟨_, rfl⟩
  have hz2 : z = (119 - q) % 64 := by rw [hz, hq]; rfl
  have e0 : ¬ (n : Int) < 0 := by omega
  have e1 : Int.tmod (n : Int) 64 = (q : Int) := by rw [Int.tmod_eq_emod_of_nonneg (by omega)]; omega
  have e2 : IntKind.i64.wrap (119 - (q : Int)) = 119 - (q : Int) := by rw [IntKind.wrap_i64]; omega
  have e3 : Int.tmod (119 - (q : Int)) 64 = (z : Int) := by rw [Int.tmod_eq_emod_of_nonneg (by omega)]; omega
  have e4 : IntKind.i64.wrap (q : Int) = (q : Int) := by rw [IntKind.wrap_i64]; omega
  have e5 : IntKind.i64.wrap (z : Int) = (z : Int) := by rw [IntKind.wrap_i64]; omega
  have hz3 : z < 64 := by omega
  have e6 : IntKind.i64.wrap (1 + (z : Int)) = 1 + (z : Int) := by rw [IntKind.wrap_i64]; omega
  have e7 : IntKind.i64.wrap (1 + (z : Int) + 8) = 1 + (z : Int) + 8 := by rw [IntKind.wrap_i64]; omega
  replace hz := hide hz
  replace hq := hide hq
  replace hz2 := hide hz2
  go_enter Tryd.func68, Tryd.ntmps68
  go_wp2_with (at_make; refine wpList_make_room _ rfl (.tmp 14) (.tmp 17) rfl _ _ (z + 1) (z + 9) rfl rfl (by omega) (by omega) (by omega) (by omega) ?_)
  obtain ⟨i, h2, h3, h4, h5⟩ := info_parts Tryd.info5
  have hR : Hid ((w.alloc (.cells ((kc (List.replicate (z + 9) 0)).setIfInBounds 0 (.int .u8 128)) 5)).ownsRow w.heap.size 5 1 (.slice (some ⟨w.heap.size, 0, none⟩) (z + 1) (z + 9)) (z + 1) ((padH n ++ be8 (n * 8) 0).map (Value.int .u8))) := by
    rw [kc_set]
    refine ⟨?_, .inr ⟨w.heap.size, z + 9, _, rfl, Nat.le_refl _, blk_new _ _, by omega, by unfold maxLen; omega, ?_, ?_⟩⟩
    · rw [List.length_map, List.length_append, padH_len, be8_len, ← unhide hz]
      omega
    · rw [kc_size, List.length_set, List.length_replicate, Nat.mul_one]
    · unfold kc padH be8
      rw [← unhide hz, List.append_nil]
      show (List.map _ _).take _ = _
      rw [← List.map_take, show z + 9 = (z + 8) + 1 by omega, List.replicate_succ, List.set_cons_zero, Nat.mul_one, List.take_succ_cons, List.take_replicate, Nat.min_eq_left (by omega)]
  have hG : Hid (Gr w (w.alloc (.cells ((kc (List.replicate (z + 9) 0)).setIfInBounds 0 (.int .u8 128)) 5))) := (Gr.refl w).alloc _
  generalize World.alloc _ _ = u at *
  go_loopw [6, 4] (fun s p wr => ∃ r : Nat, r ≤ 8 ∧ s = .int .i64 (56 - 8 * (r : Int)) ∧ p = .slice (some ⟨w.heap.size, 0, none⟩) (z + 1 + r) (z + 9) ∧ Hid (wr.ownsRow w.heap.size 5 1 (.slice (some ⟨w.heap.size, 0, none⟩) (z + 1 + r) (z + 9)) (z + 1 + r) ((padH n ++ be8 (n * 8) r).map (Value.int .u8))) ∧ Hid (Gr w wr)) (fun s _ _ => (intOf s + 8).toNat)
  case atStart => exact ⟨0, by omega, rfl, rfl, hR, hG⟩
  case round =>
  clear hR hG
  obtain ⟨r, hr, rfl, rfl, hR, hG⟩ := hrel
  by_cases hil : r < 8
  · obtain ⟨sh, hsh⟩ : ∃ sh, sh = 56 - 8 * r := ⟨_, rfl⟩
    have g0 : 56 - 8 * (r : Int) = (sh : Int) := by omega
    rw [g0]
    have g1 : 0 ≤ (sh : Int) := by omega
    have g2 : (sh : Int) ≤ 64 := by omega
    have g3 : (sh : Int) < 64 := by omega
    obtain ⟨y, hy⟩ : ∃ y : Int, y = ((n * 8 / 2 ^ (56 - 8 * r) % 256 : Nat) : Int) := ⟨_, rfl⟩
    have g4 : IntKind.u8.wrap ((n : Int) * 8 / 2 ^ sh) = y := by
      rw [IntKind.wrap_u8', hy, hsh]
      have : (2 : Int) ^ (56 - 8 * r) = ((2 ^ (56 - 8 * r) : Nat) : Int) := by simp
      rw [this, show (n : Int) * 8 = ((n * 8 : Nat) : Int) by omega]
      rfl
    have g5 : IntKind.i64.wrap ((sh : Int) - 8) = (sh : Int) - 8 := by rw [IntKind.wrap_i64]; omega
    have hnx : Hid ((padH n ++ be8 (n * 8) r).map (Value.int .u8) ++ [.int .u8 y] = (padH n ++ be8 (n * 8) (r + 1)).map (Value.int .u8)) := by
      rw [be8, ← List.append_assoc, List.map_append (l₁ := padH n ++ be8 (n * 8) r), hy]
      rfl
    have hsz : Hid (w.heap.size ≤ wr.heap.size) := (unhide hG).size
    replace hsh := hide hsh
    replace hy := hide hy
    go_wp2_with (at_builtin; refine wpList_append_fits _ rfl (.tmp 28) (.tmp 33) 33 rfl w.heap.size 5 i 1 Tryd.underlying33 h2 h4 w.heap.size (z + 1 + r) (z + 9) _ rfl (own_gr (unhide hR) ((Gr.refl wr).alloc _)) ⟨wr.heap.size, 0, none⟩ 1 1 [.int .u8 y] rfl rfl (by intro j u hj; have hj0 : j = 0 := (by have := (List.getElem?_eq_some_iff.1 hj).1; simp at this; exact this); subst hj0; simp only [List.getElem?_cons_zero, Option.some.injEq] at hj; subst hj; exact cell_of (blk_new _ _) rfl) (by intro u hu; simp at hu; subst hu; rfl) (by omega) ?_; intro w2 hR2 hG2)
    have hs1 := unhide hsh
    refine ⟨⟨r + 1, by omega, by congr 1; omega, rfl, ?_, ?_⟩, ?_⟩
    · rw [unhide hnx] at hR2
      exact hR2
    · exact grown_gr ((unhide hG).alloc _) hG2 (Nat.le_refl _)
    · show ((sh : Int) - 8 + 8).toNat < ((sh : Int) + 8).toNat
      omega
  · have e : r = 8 := by omega
    subst e
    have hP : Hid (Padded n w (.returned (.slice (some ⟨w.heap.size, 0, none⟩) (z + 1 + 8) (z + 9))) wr) := by
      obtain ⟨h6, ⟨h7, h8⟩ | ⟨g, cap, cur, h7, h8, h9, h10, h11, h12, h13⟩⟩ := unhide hR
      · cases h7
      · simp only [Value.slice.injEq, Option.some.injEq, Addr.mk.injEq] at h7
        obtain ⟨⟨hg0, _⟩, _, hcap⟩ := h7
        refine ⟨w.heap.size, by rw [← unhide hz], Nat.le_refl _, ?_, unhide hG⟩
        rw [hg0, h9]
        have hcur : cur = kc (padL n) := by
          have h14 : cur.toList.take ((z + 1 + 8) * 1) = cur.toList := List.take_of_length_le (by rw [Array.length_toList, h12]; omega)
          rw [h14] at h13
          unfold kc padL
          rw [← h13]
        rw [hcur]
    clear hil hR hG
    go_wp2_with fail
    rw [unhide hT]
    exact unhide hP


theorem blk_left {B : List Int} (C : List Int) (k : Nat) (h : 64 * (k + 1) ≤ B.length) : ((B ++ C).drop (64 * k)).take 64 = (B.drop (64 * k)).take 64 := by
  rw [List.drop_append_of_le_length (by omega), List.take_append_of_le_length (by rw [List.length_drop]; omega)]
theorem bk_left {B : List Int} (s C : List Int) : ∀ n, 64 * n ≤ B.length → hbk n s (B ++ C) = hbk n s B
  | 0, _ => rfl
  | n + 1, h => by rw [hbk, hbk, bk_left s C n (by omega), blk_left C n h]
theorem bk_append {B : List Int} (s C : List Int) (n : Nat) (hB : B.length = 64 * n) : ∀ m, hbk (n + m) s (B ++ C) = hbk m (hbk n s B) C
  | 0 => bk_left s C n (by omega)
  | m + 1 => by
    have e : n + (m + 1) = (n + m) + 1 := by omega
    rw [e, hbk, hbk, bk_append s C n hB m, Nat.mul_add, ← List.drop_drop, ← hB, List.drop_left]
/-- the state of no bytes -/
def F0 : List Int := [1779033703, 3144134277, 1013904242, 2773480762, 1359893119, 2600822924, 528734635, 1541459225]
/-- the Hash at g stands for the bytes B -/
def H (g : Nat) (B : List Int) (v : World) : Prop := ∃ l, l.length = 64 ∧ IsB l ∧ v.heap[g]? = some (.cells (hc (hbk (B.length / 64) F0 B) l B.length) 99 (0, 0)) ∧ l.take (B.length % 64) = B.drop (64 * (B.length / 64))
theorem H.gr {g : Nat} {B : List Int} {w v : World} (h : H g B w) (k : Gr w v) : H g B v := by
  obtain ⟨l, h1, h2, h3, h4⟩ := h
  exact ⟨l, h1, h2, k.blk h3, h4⟩
theorem H.bt {g p : Nat} {B : List Int} {w v : World} (h : H g B w) (k : Bt p w v) (hn : g ≠ p) : H g B v := by
  obtain ⟨l, h1, h2, h3, h4⟩ := h
  exact ⟨l, h1, h2, k.blk h3 hn, h4⟩
theorem H.whole {g : Nat} {B C : List Int} {v : World} {l : List Int} (hB : B.length % 64 = 0) (h1 : l.length = 64) (h2 : IsB l)
    (h3 : v.heap[g]? = some (.cells (hc (hbk (C.length / 64) (hbk (B.length / 64) F0 B) C) l ((B.length : Int) + C.length)) 99 (0, 0))) (h4 : l.take (C.length % 64) = C.drop (64 * (C.length / 64))) : H g (B ++ C) v := by
  have e1 : (B ++ C).length / 64 = B.length / 64 + C.length / 64 := by rw [List.length_append]; omega
  have e2 : (B ++ C).length % 64 = C.length % 64 := by rw [List.length_append]; omega
  have e3 : ((B ++ C).length : Int) = (B.length : Int) + C.length := by rw [List.length_append]; omega
  refine ⟨l, h1, h2, ?_, ?_⟩
  · rw [e1, bk_append F0 C (B.length / 64) (by omega), e3]
    exact h3
  · rw [e2, h4, e1, Nat.mul_add, ← List.drop_drop, show 64 * (B.length / 64) = B.length by omega, List.drop_left]

theorem hcl_len (s l : List Int) (n : Int) (hs : s.length = 8) (hl : l.length = 64) : (hcl s l n).length = 73 := by unfold hcl; simp [hs, hl]
theorem hcl_count (s l : List Int) (n m : Int) (hs : s.length = 8) (hl : l.length = 64) : (hcl s l n).set 72 (.int .i64 m) = hcl s l m := by
  unfold hcl
  rw [List.set_append_right _ _ (by simp [hs]), List.set_append_right _ _ (by simp [hs, hl])]
  simp [hs, hl]
theorem hcl_copy (s l B : List Int) (n : Int) (k : Nat) (hs : s.length = 8) (hk : k + B.length ≤ l.length) : sp (hcl s l n) (8 + k) (B.map (Value.int .u8)) = hcl s (l.take k ++ (B ++ l.drop (k + B.length))) n := by
  have e : hcl s l n = (s.map (Value.int .u32) ++ (l.take k).map (Value.int .u8)) ++ (((l.drop k).take B.length).map (Value.int .u8) ++ ((l.drop (k + B.length)).map (Value.int .u8) ++ [.int .i64 n])) := by
    unfold hcl
    rw [List.append_assoc]
    congr 1
    rw [← List.append_assoc, ← List.append_assoc, ← List.map_append, ← List.map_append]
    congr 2
    rw [List.append_assoc]
    have : (l.drop k).take B.length ++ l.drop (k + B.length) = l.drop k := by rw [← List.drop_drop, List.take_append_drop]
    rw [this, List.take_append_drop]
  have hlen : (s.map (Value.int .u32) ++ (l.take k).map (Value.int .u8)).length = 8 + k := by simp [hs]; omega
  have h := sp_mid (B.map (Value.int .u8)) (s.map (Value.int .u32) ++ (l.take k).map (Value.int .u8)) (((l.drop k).take B.length).map (Value.int .u8)) ((l.drop (k + B.length)).map (Value.int .u8) ++ [.int .i64 n]) (by simp; omega)
  rw [hlen, ← e] at h
  rw [h]
  unfold hcl
  simp [List.append_assoc]
/-- bytes behind a slice that does not lie in g -/
def SlX (g : Nat) (w : World) (a : Option Addr) (B : List Int) : Prop := B = [] ∨ ∃ p o, a = some ⟨p, o, none⟩ ∧ At w p o B ∧ p ≠ g
theorem SlX.gr {g : Nat} {w v : World} {a : Option Addr} {B : List Int} (h : SlX g w a B) (k : Gr w v) : SlX g v a B := by
  rcases h with h | ⟨p, o, h1, h2, h3⟩
  · exact .inl h
  · exact .inr ⟨p, o, h1, h2.gr k, h3⟩
theorem SlX.bt {g : Nat} {w v : World} {a : Option Addr} {B : List Int} (h : SlX g w a B) (k : Bt g w v) : SlX g v a B := by
  rcases h with h | ⟨p, o, h1, h2, h3⟩
  · exact .inl h
  · exact .inr ⟨p, o, h1, h2.bt k h3, h3⟩
theorem SlX.out {g : Nat} {w : World} {a : Option Addr} {B : List Int} (h : SlX g w a B) : SlO g w a B := by
  rcases h with h | ⟨p, o, h1, h2, h3⟩
  · exact .inl h
  · exact .inr ⟨p, o, h1, h2, .inl h3⟩
theorem At.take {w : World} {p o : Nat} {B : List Int} (h : At w p o B) (k : Nat) : At w p o (B.take k) := by
  intro j hj
  rw [List.length_take] at hj
  rw [h j (by omega)]
  have hk2 : j < k := by omega
  simp [List.getElem?_take, hk2]
theorem At.drop {w : World} {p o : Nat} {B : List Int} (h : At w p o B) (k : Nat) : At w p (o + k) (B.drop k) := by
  intro j hj
  rw [List.length_drop] at hj
  rw [Nat.add_assoc, h (k + j) (by omega)]
  simp
theorem isB_take {B : List Int} (h : IsB B) (k : Nat) : IsB (B.take k) := fun x hx => h x (List.mem_of_mem_take hx)
theorem isB_drop {B : List Int} (h : IsB B) (k : Nat) : IsB (B.drop k) := fun x hx => h x (List.mem_of_mem_drop hx)
theorem isB_append {B C : List Int} (h : IsB B) (k : IsB C) : IsB (B ++ C) := fun x hx => (List.mem_append.1 hx).elim (h x) (k x)
theorem Tryd.size5 : (Tryd.prog.info? 5).map (·.size) = some 1 := by kernel_rfl
/-- copy -/
theorem copy_wp {o : Oper} {a : Act} {w : World} {K : Act → World → Prop} {Q : Exit → Act → World → Prop} (d s : Operand) (ho : o.op = .call { callee := .builtin .copy, args := #[d, s], argTypes := #[33, 33] })
    (g off dLen dCap : Nat) (sp : Option Addr) (sLen sCap : Nat) (hd : a.eval d = .slice (some ⟨g, off, none⟩) dLen dCap) (hs : a.eval s = .slice sp sLen sCap)
    (C : List Value) (t : TypeId) (hg : w.heap[g]? = some (.cells C.toArray t (0, 0))) (B : List Int) (hn : B.length = Nat.min sLen dLen) (hsrc : B = [] ∨ ∃ p q, sp = some ⟨p, q, none⟩ ∧ At w p q B) (hfit : off + B.length ≤ C.length)
    (h : K (a.put o.dst (.int .i64 B.length)) (w.setCells g off (B.map (Value.int .u8)))) : o.wp Tryd.prog a w K Q := by
  rcases hsrc with rfl | ⟨p, q, rfl, hat⟩
  · have hrun := run_copy_none (P := Tryd.prog) w 33 33 o.type 5 (some ⟨g, off, none⟩) sp dLen dCap sLen sCap Tryd.underlying33 Tryd.size5 hn.symm
    unfold Oper.wp
    simp [execOp, ho, resolve, invoke, builtin, hd, hs, hrun, Result.andThen]
    exact h
  · have hth := there_of (n := B.length) hg hfit
    have hrun := run_copy_cells (P := Tryd.prog) w 33 33 o.type 5 g off dLen dCap ⟨p, q, none⟩ sLen sCap (B.map (Value.int .u8)) Tryd.underlying33 Tryd.size5 (by simpa using hn) (by
      intro j v hj
      have hj2 : j < B.length := by have := (List.getElem?_eq_some_iff.1 hj).1; simpa using this
      rw [Addr.add_mid, hat j hj2]
      simp [hj2] at hj ⊢
      exact hj) (fun j hj => (hth j (by simpa using hj)).1) (fun j hj => (hth j (by simpa using hj)).2) (by intro v hv; obtain ⟨x, _, rfl⟩ := List.mem_map.1 hv; rfl)
    unfold Oper.wp
    simp [execOp, ho, resolve, invoke, builtin, hd, hs, hrun, Result.andThen]
    exact h
end Go.Proofs.YtpmgmpihmpifgaaDoor
