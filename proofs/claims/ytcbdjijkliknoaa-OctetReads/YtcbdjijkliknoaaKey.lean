/-
  What Reader.Key does.
-/
import Derived.Test.YtcbdjijkliknoaaWakes
import Derived.Laws.CopyOwn
import Derived.Deep.RegionLaw
namespace Go.Proofs.Ytcbdjijkliknoaa
open Go.RowKit

/-- A call of a Go function by its contract, as one step of a region that draws its order. -/
theorem step_call {P : Program} {ops : Array Oper} {o : Oper} {a : Act} {w : World} {K : Act → World → Prop} {Q : Exit → Act → World → Prop} {E : Prop} (hgd : o.guard = none)
    (f : FuncId) (args : Array Value) (hrun : (execOp a.eval o).run P w = .ok (.enter f args) w) (hc : Calls P f args w fun e w' => ∃ v, e = .returned v ∧ K (a.put o.dst v) w') :
    if Region.wanted o (yielded ops a.tmps) = true then Oper.wp P o a w K Q else E := by
  have hw : Region.wanted o (yielded ops a.tmps) = true := by simp [Region.wanted, hgd]
  rw [if_pos hw]
  unfold Oper.wp
  rw [hrun, Oper.upon_enter]
  refine hc.mono fun e w'' hh => ?_
  obtain ⟨v, rfl, hK⟩ := hh
  exact hK

def zer : List Value := List.replicate 32 (.int .u8 0)
/-- The key's cells where r was taken. -/
def keyL (r : List Int) : List Value := splice zer 0 (r.map (Value.int .u8))
theorem keyL_len (r : List Int) (h : r.length ≤ 32) : (keyL r).length = 32 := by rw [keyL, length_splice _ _ _ (by simp [zer]; omega)]; simp [zer]
theorem keyL_one (r : List Int) : (keyL r).toArray.all (·.oneCell') = true := by
  simp only [keyL, splice, zer, List.all_toArray, List.all_eq_true]
  intro v hv
  simp only [List.mem_append] at hv
  rcases hv with h | h | h
  · have := List.mem_of_mem_take h; rw [List.eq_of_mem_replicate this]; rfl
  · obtain ⟨x, _, rfl⟩ := List.mem_map.1 h; rfl
  · have := List.mem_of_mem_drop h; rw [List.eq_of_mem_replicate this]; rfl
theorem Try.info53 : (Try.prog.info? 53).map (·.size) = some 32 := by kernel_rfl
theorem Try.size5 : (Try.prog.info? 5).map (·.size) = some 1 := by kernel_rfl

theorem bs_cells {w : World} {a : Option Addr} {l : List Int} (h : Bs w a l.length l) (h0 : 0 < l.length) : ∃ ad, a = some ad ∧ ∀ j v, (l.map (Value.int .u8))[j]? = some v → w.cell? (ad.add j) = some v := by
  obtain ⟨b, off, ha, hc⟩ := h.2.2 h0
  refine ⟨_, ha, fun j v hj => ?_⟩
  have hjn : j < l.length := by
    have := (List.getElem?_eq_some_iff.1 hj).1
    simpa using this
  have e1 : (⟨b, off, none⟩ : Addr).add j = ⟨b, off + j, none⟩ := by
    rcases Nat.eq_zero_or_pos j with h0 | h0
    · subst h0; rfl
    · simp [Addr.add]; omega
  rw [map_u8 l j hjn] at hj
  rw [e1]
  exact (hc j hjn).trans hj

/-- The copy of r into the key's own row. -/
theorem step_copy_key {ops : Array Oper} {o : Oper} {a : Act} {w : World} {K : Act → World → Prop} {Q : Exit → Act → World → Prop} {E : Prop} (hgd : o.guard = none) (d s : Operand)
    (ho : o.op = .call { callee := .builtin .copy, args := #[d, s], argTypes := #[22, 22] }) (g : Nat) (sp : Option Addr) (sCap : Nat) (r : List Int) (hd : a.eval d = .slice (some ⟨g, 0, none⟩) 32 32) (hs : a.eval s = .slice sp r.length sCap)
    (hk : Hid (w.heap[g]? = some (.cells zer.toArray 53 (0, 0)))) (hbs : Bs w sp r.length r) (hr : r.length ≤ 32)
    (h : ∀ w', Hid (w'.heap[g]? = some (.cells (keyL r).toArray 53 (0, 0))) → Below g w w' → K (a.put o.dst (goInt r.length)) w') :
    if Region.wanted o (yielded ops a.tmps) = true then Oper.wp Try.prog o a w K Q else E := by
  refine step_copy_splice hgd d s 22 22 ho 5 Try.underlying22 Try.size5 (some ⟨g, 0, none⟩) sp 32 32 r.length sCap hd hs g 0 zer 53 (unhide hk) (r.map (Value.int .u8)) (by rw [List.length_map]; exact (Nat.min_eq_left hr).symm) ?_ (by simp [zer]; omega) ?_ g w (Below.refl _ _) (Nat.le_refl _) ?_
  · intro h0
    exact ⟨rfl, bs_cells hbs (by simpa using h0)⟩
  · intro v hv
    obtain ⟨x, _, rfl⟩ := List.mem_map.1 hv
    rfl
  · intro w' h1 h2
    have := h w' h1 h2
    rw [List.length_map]
    exact this

set_option maxHeartbeats 1000000 in
theorem key_core (arg : Value) (r : List Int) (hr : r.length ≤ 32) (w : World) (X : World → Prop) (hX : ∀ W W', Below w.heap.size W W' → X W → X W')
    (HT : ∀ W, Below w.heap.size w W → w.heap.size + 2 ≤ W.heap.size → Calls Try.prog 33 #[arg, .int .i64 32] W fun e W' => ∃ a c, e = .returned (.slice a r.length c) ∧ Bs W' a r.length r ∧ X W' ∧ (∀ k, w.heap.size ≤ k → W'.heap[k]? = W.heap[k]?) ∧ W'.heap.size = W.heap.size) :
    Calls Try.prog 27 #[arg] w fun e w' => e = .returned (.agg (keyL r).toArray) ∧ X w' := by
  have H := hide HT
  clear HT
  go_enter Try.func27, Try.ntmps27
  go_wp2
  generalize hW : World.alloc (World.alloc w _) _ = W2
  have hk : W2.heap[w.heap.size + 1]? = some (.cells zer.toArray 53 (0, 0)) := by
    subst hW
    have := heap_alloc_new (w.alloc (.cells zer.toArray 53)) (.cells zer.toArray 53 (0, 0))
    rw [size_new] at this
    exact this
  have hk0 : W2.heap[w.heap.size]? = some (.cells zer.toArray 53 (0, 0)) := by
    subst hW
    rw [Below.heap_alloc _ _ _ (by simp)]
    exact heap_alloc_new w (.cells zer.toArray 53 (0, 0))
  have hb : Below w.heap.size w W2 := by subst hW; exact (Below.new w _).alloc (by simp) _
  have hsz : w.heap.size + 2 ≤ W2.heap.size := by subst hW; simp
  clear hW
  have Hk := hide hk
  have Hk0 := hide hk0
  clear hk hk0
  go_region_law (first
    | (refine step_copy_key rfl (.tmp 4) (.tmp 6) rfl (w.heap.size + 1) _ _ r rfl rfl Hk3 hbs hr ?_; intro w4 hg4 hb4; have Hk5 : Hid (w4.heap[w.heap.size]? = some (.cells zer.toArray 53 (0, 0))) := (hb4.block _ (by omega)).trans (unhide Hk4))
    | (refine step_call rfl 33 #[arg, .int .i64 32] (by go_simp) ((unhide H _ hb.drew (by exact hsz)).mono ?_); rintro e w3 ⟨a, c, rfl, hbs, hx, hsame, hsz3⟩; refine ⟨_, rfl, ?_⟩; have Hk3 : Hid (w3.heap[w.heap.size + 1]? = some (.cells zer.toArray 53 (0, 0))) := (hsame _ (by omega)).trans (unhide Hk); have Hk4 : Hid (w3.heap[w.heap.size]? = some (.cells zer.toArray 53 (0, 0))) := (hsame _ (by omega)).trans (unhide Hk0)))
  go_wp2_with (first | (refine wpList_load_row rfl 53 (.tmp 3) rfl (w.heap.size + 1) rfl 53 (keyL r).toArray (0, 0) _ (by exact unhide hg4) Try.underlying53 rfl (by rw [Try.info53]; simp [keyL_len r hr]) ?_) | (refine wpList_store_row rfl 53 (.tmp 2) (.tmp 8) rfl w.heap.size (keyL r).toArray rfl rfl 53 zer.toArray (by exact unhide Hk5) (by rw [Try.info53]; simp [keyL_len r hr]) (by simp [zer, keyL_len r hr]) (keyL_one r) ?_))
  refine bodyPost_ret (v := .agg (keyL r).toArray) (results_cell_row Try.results27 _ _ w.heap.size 53 (keyL r).toArray (0, 0) _ rfl (setRow_heap w4 w.heap.size _ _ 53 _ (unhide Hk5)) Try.underlying53 rfl (by rw [Try.info53]; simp [keyL_len r hr])) rfl ⟨rfl, ?_⟩
  exact hX w3 _ (below_setRow (hb4.mono (by omega)) (Nat.le_refl _) _) hx

theorem key_nil (w : World) : Calls Try.prog 27 #[.pointer none] w fun e w' => e = .returned (.agg zer.toArray) ∧ Below w.heap.size w w' := by
  have := key_core (.pointer none) [] (by simp) w (fun W => Below w.heap.size w W) (fun W W' h1 h2 => h2.trans h1) (fun W hb hs => (take_nil 32 W).mono fun e w' ⟨he, hw⟩ => by
    subst hw; exact ⟨none, 0, he, Bs.nil _ _, hb, fun k _ => rfl, rfl⟩)
  rw [show keyL [] = zer from by simp [keyL, splice]] at this
  exact this

/-- The reader's block and value behind a call, all other old blocks as they were. -/
def Kept (p : Nat) (v : Value) (i : Nat) (e : Int) (w w' : World) : Prop :=
  Rd w' p i e v ∧ (∀ k, k < w.heap.size → k ≠ p → w'.heap[k]? = w.heap[k]?) ∧ Below 0 w w'

theorem Sl.same {p : Nat} {w w' : World} {v : Value} {l : List Int} (h : Sl p w v l) (s : ∀ k, k < w.heap.size → k ≠ p → w'.heap[k]? = w.heap[k]?) : Sl p w' v l := by
  obtain ⟨a, c, h1, h2, h3, h4, h5, h6, h7, h8⟩ := h
  refine ⟨a, c, h1, h2, h3, h4, h5, h6, h7, fun hn => ?_⟩
  obtain ⟨b, off, ha, hc⟩ := h8 hn
  refine ⟨b, off, ha, fun i hi => ?_⟩
  have := lt_of_cell (hc i hi)
  rw [World.cell?_of_block (w := w) (a := ⟨b, off + i, none⟩) (s b this (h5 _ ha).1)]
  exact hc i hi

theorem Kept.rdr {p : Nat} {v : Value} {i i' : Nat} {e e' : Int} {l : List Int} {w w' : World} (h : Rdr w p v l i e) (k : Kept p v i' e' w w') (hi : i' ≤ l.length) : Rdr w' p v l i' e' := by
  obtain ⟨_, h2, _, h4⟩ := h
  exact ⟨hi, h2, k.1, h4.same k.2.1⟩

theorem takeM_le (l : List Int) (i : Nat) (e n : Int) (h : i ≤ l.length) : (takeM l i e n).2.1 ≤ l.length := by
  unfold takeM
  split
  · exact h
  · split
    · exact h
    · split
      · exact h
      · simp only []; omega

theorem key_any (p : Nat) (v : Value) (l : List Int) (i : Nat) (e : Int) (w : World) (h : Rdr w p v l i e) :
    Calls Try.prog 27 #[.pointer (some ⟨p, 0, none⟩)] w fun x w' => x = .returned (.agg (keyL (takeM l i e 32).1).toArray) ∧ Rdr w' p v l (takeM l i e 32).2.1 (takeM l i e 32).2.2 ∧ Kept p v (takeM l i e 32).2.1 (takeM l i e 32).2.2 w w' := by
  have hlen := takeM_len l i e 32
  have hp := h.lt
  refine (key_core (.pointer (some ⟨p, 0, none⟩)) (takeM l i e 32).1 (by omega) w (fun W => Kept p v (takeM l i e 32).2.1 (takeM l i e 32).2.2 w W) ?_ ?_).mono fun x w' ⟨h1, h2⟩ => ⟨h1, Kept.rdr h h2 (takeM_le l i e 32 h.1), h2⟩
  · rintro W W' hb ⟨h1, h2, h3⟩
    exact ⟨h1.below hb hp, fun k hk hkp => (hb.block k hk).trans (h2 k hk hkp), h3.trans (hb.mono (Nat.zero_le _))⟩
  · intro W hb hs
    refine (take_any p v l i e 32 W (h.below hb)).mono ?_
    rintro x W' ⟨a, c, hx, hbs, _, hrd, hbut⟩
    exact ⟨a, c, hx, hbs, ⟨hrd.2.2.1, fun k hk hkp => (hbut.block k hkp).trans (hb.block k hk), (hb.mono (Nat.zero_le _)).trans (hbut.below (Nat.zero_le _))⟩, fun k hk => hbut.block k (by omega), hbut.size⟩
end Go.Proofs.Ytcbdjijkliknoaa
