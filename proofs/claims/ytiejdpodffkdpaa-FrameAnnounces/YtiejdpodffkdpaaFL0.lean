/-
  Layer 14: noughts are put behind bytes of one's own.
-/
import Derived.Test.YtiejdpodffkdpaaFK
namespace Go.Proofs.Ytiejdpodffkdpaa
open Go.RowKit
set_option maxRecDepth 100000
set_option linter.unusedSimpArgs false
set_option linter.unusedVariables false
theorem zc_rep (m : Nat) : Builtin.zeroCells (Value.int .u8 0).cells m = (List.replicate m (Value.int .u8 0)).toArray := by
  unfold Builtin.zeroCells Value.cells
  apply Array.ext
  · simp
  · intro i h1 h2
    simp [Nat.mod_one]
theorem rep_one (m : Nat) : ∀ u ∈ List.replicate m (Value.int .u8 0), u.oneCell' = true := by
  intro u hu
  rw [List.eq_of_mem_replicate hu]
  rfl
theorem run_zs_room (w : World) (ty : TypeId) (g n cap m : Nat) (cur : Array Value) (hg : w.heap[g]? = some (.cells cur 5 (0, 0))) (hroom : n + m ≤ cap) (hs : cur.size = cap) (hm : m ≤ 100000) :
    (Builtin.append_ #[26, 3] ty #[.slice (some ⟨g, 0, none⟩) n cap, .int .i64 (m : Int)]).run Try.prog w =
      .ok (.slice (some ⟨g, 0, none⟩) (n + m) cap) (w.setRow g (cur.toList.take n ++ (List.replicate m (Value.int .u8 0) ++ cur.toList.drop (n + m))).toArray) := by
  obtain ⟨i0, hi, hz0, hz1, hz2⟩ := info_parts Try.info5
  have hst := run_storeCells_at Try.prog g n 5 (List.replicate m (Value.int .u8 0)) 0 cur w hg (by simp; omega) (rep_one m)
  simp only [Nat.add_zero, List.length_replicate, List.append_assoc] at hst
  have hzc : (Builtin.zeroCells (Value.int .u8 0).cells m).toList = List.replicate m (Value.int .u8 0) := by rw [zc_rep]
  have h1 : ¬ ((m : Int) < 0) := by omega
  have h2 : IntKind.i64.wrap (m : Int) = (m : Int) := by rw [IntKind.wrap_i64]; omega
  have h3 : ¬ (281474976710656 < (m : Int)) := by omega
  by_cases h0 : m = 0
  · subst h0
    have hr : n ≤ cap := by omega
    simp only [List.replicate_zero, List.nil_append, Nat.add_zero, List.take_append_drop, Array.toArray_toList] at hst ⊢
    simp [Builtin.append_, run_underlying Try.underlying26, run_underlying Try.underlying3, sizeOf, typeInfo, zeroValue, hi, hz0, hz1, hz2, asInt, asIntOf, IntKind.wrap_i64, Question.forced, hr, Addr.add_lit, hst]
  · simp [Builtin.append_, run_underlying Try.underlying26, run_underlying Try.underlying3, sizeOf, typeInfo, zeroValue, hi, hz0, hz1, hz2, asInt, asIntOf, h1, h2, h3, Question.forced, hroom, Addr.add_lit, h0, hzc, hst]
theorem run_zs_grow (w : World) (ty : TypeId) (g n cap m : Nat) (olds : List Value) (hlo : olds.length = n) (holds : ∀ j v, olds[j]? = some v → w.cell? ((⟨g, 0, none⟩ : Addr).add j) = some v) (hnc : n ≤ cap) (hroom : cap < n + m) (hb : n + m ≤ 100000) :
    (Builtin.append_ #[26, 3] ty #[.slice (some ⟨g, 0, none⟩) n cap, .int .i64 (m : Int)]).run Try.prog w =
      .ok (.slice (some ⟨w.heap.size, 0, none⟩) (n + m) (grownCap w (n + m) cap 5))
        (w.drew.alloc (.cells (olds.toArray ++ Builtin.zeroCells (Value.int .u8 0).cells m ++ Builtin.zeroCells (Value.int .u8 0).cells (grownCap w (n + m) cap 5 - (n + m))) 5)) := by
  obtain ⟨i0, hi, hz0, hz1, hz2⟩ := info_parts Try.info5
  have hfo := run_firstCells_some (P := Try.prog) w.drew i0.size n ⟨g, 0, none⟩ n cap olds (by rw [hlo, hz1, Nat.mul_one]) (by simpa using holds)
  rw [hz1] at hfo
  have hfit0 := growslice_fits (need := n + m) (old := cap) (bytes := 1) hroom (by omega)
  have hfit : ¬ (281474976710656 < Builtin.nextslicecap (n + m) cap) := by omega
  have h1 : ¬ ((m : Int) < 0) := by omega
  have h2 : IntKind.i64.wrap (m : Int) = (m : Int) := by rw [IntKind.wrap_i64]; omega
  have h3 : ¬ (281474976710656 < (m : Int)) := by omega
  have h4 : ¬ (n + m ≤ cap) := by omega
  have h5 : ¬ (9223372036854775807 < (n : Int) + (m : Int)) := by omega
  have h0 : ¬ m = 0 := by omega
  simp [Builtin.append_, run_underlying Try.underlying26, run_underlying Try.underlying3, sizeOf, typeInfo, zeroValue, hi, hz0, hz1, hz2, asInt, asIntOf, h1, h2, h3, Question.forced, hfo, newRow, grownCap, hfit, h4, h5, h0]
theorem app_zs {w : World} {ops : Array Oper} {rest : List Oper} {o : Oper} {a : Act} {Q : Exit → Act → World → Prop} (hw : Region.wanted o (yielded ops a.tmps) = true) (s x : Operand)
    (ho : o.op = .call { callee := .builtin .append, args := #[s, x], argTypes := #[26, 3] }) (b : Nat) (v : Value) (L : List Int) (hs : a.eval s = v) (hown : Ob b w v L) (hne : L ≠ [])
    (m : Nat) (hx : a.eval x = .int .i64 (m : Int)) (hbig : L.length + m ≤ 100000) (hB : b ≤ w.heap.size)
    (h : ∀ v' w', Ob b w' v' (L ++ List.replicate m 0) → w.grownBy w' v.ownBlock → wpList Try.prog ops Q rest (a.put o.dst v') w') :
    wpList Try.prog ops Q (o :: rest) a w := by
  obtain ⟨g, cap, cur, rfl, hbg, hcur, hLc, hmx, hsz, htk⟩ := hown.some hne
  rw [wpList, if_pos hw]
  refine Or.inl ?_
  have ez : (List.replicate m (0 : Int)).map (Value.int .u8) = List.replicate m (Value.int .u8 0) := by simp
  by_cases hr : L.length + m ≤ cap
  · have hrun := run_zs_room w o.type g L.length cap m cur hcur hr hsz (by omega)
    unfold Oper.wp
    simp only [execOp, ho, resolve, invoke, builtin, Sem.run_bind, Sem.run_pure, Result.andThen_ok, List.map_toArray, List.map_cons, List.map_nil, hs, hx, hrun]
    refine h _ _ ⟨by simp, .inr ⟨g, cap, _, by simp, hbg, setRow_heap w g cur _ 5 (0, 0) hcur, by simpa using hr, hmx, ?_, ?_⟩⟩ ⟨rfl, rfl, rfl, by rw [setRow_size]; exact Nat.le_refl _, fun k hk hn => setRow_other w g k _ (fun e => hn (by rw [e]; rfl))⟩
    · simp
      omega
    · rw [List.length_append, List.length_replicate, Nat.mul_one, List.map_append, ez, htk, ← List.append_assoc, List.take_append_of_le_length (by simp), List.take_of_length_le (by simp)]
  · have hold : ∀ j v, (L.map (Value.int .u8))[j]? = some v → w.cell? ((⟨g, 0, none⟩ : Addr).add j) = some v := fun j v hj => hown.cells (g := g) rfl j v hj
    have hrun := run_zs_grow w o.type g L.length cap m (L.map (Value.int .u8)) (by simp) hold hLc (by omega) hbig
    have hcm := grownCap_le_maxLen w (L.length + m) cap 5 (by unfold maxLen; omega)
    have hcg := grownCap_ge w (L.length + m) cap 5
    unfold Oper.wp
    simp only [execOp, ho, resolve, invoke, builtin, Sem.run_bind, Sem.run_pure, Result.andThen_ok, List.map_toArray, List.map_cons, List.map_nil, hs, hx, hrun]
    refine h _ _ ⟨by simp, .inr ⟨w.heap.size, _, _, by simp, hB, blk_new w.drew _, by simpa using hcg, hcm, ?_, ?_⟩⟩ ⟨rfl, rfl, rfl, by show w.heap.size ≤ (w.drew.alloc _).heap.size; rw [size_alloc]; exact Nat.le_succ _, fun k hk hn => ((Gr.refl w).drew.alloc _).block k hk⟩
    · simp only [zc_rep, List.append_toArray, List.size_toArray, List.length_append, List.length_map, List.length_replicate]
      omega
    · simp only [zc_rep, List.append_toArray, List.length_append, List.length_replicate, Nat.mul_one, List.map_append, ez]
      rw [List.take_append_of_le_length (by simp), List.take_of_length_le (by simp)]
end Go.Proofs.Ytiejdpodffkdpaa
