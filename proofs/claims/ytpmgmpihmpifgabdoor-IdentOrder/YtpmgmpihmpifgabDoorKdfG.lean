/-
  Labelled secrets.
-/
import Derived.Test.YtpmgmpihmpifgabDoorKdfF
namespace Go.Proofs.YtpmgmpihmpifgabDoor
open Go.RowKit
set_option maxRecDepth 100000
set_option linter.unusedSimpArgs false
set_option linter.unusedVariables false

theorem results_two {P : Program} {fn : Func} {p q : Tmp} {ty : TypeId} (h : fn.results = #[.cell p ty, .cell q ty]) (tmps : Array Value) (w : World) (g g2 : Nat) (t t2 : TypeId) (cs cs2 : Array Value) (fr fr2 : Nat × Nat) (d : TypeDesc)
    (hp : tmps.getD p undef = .pointer (some ⟨g, 0, none⟩)) (hq : tmps.getD q undef = .pointer (some ⟨g2, 0, none⟩)) (hg : w.heap[g]? = some (.cells cs t fr)) (hg2 : w.heap[g2]? = some (.cells cs2 t2 fr2))
    (hu : P.underlying ty = some d) (hd : (match d with | .struct _ | .array _ _ => true | _ => false) = true) (hi : (P.info? ty).map (·.size) = some cs.size) (hi2 : (P.info? ty).map (·.size) = some cs2.size) :
    (results fn tmps).run P w = .ok (.tuple #[.agg cs, .agg cs2]) w := by
  have hp' : tmps[p]?.getD undef = .pointer (some ⟨g, 0, none⟩) := by simpa using hp
  have hq' : tmps[q]?.getD undef = .pointer (some ⟨g2, 0, none⟩) := by simpa using hq
  simp [results, h, hp', hq', asAddr, run_loadVar_row w g t ty cs fr d hg hu hd hi, run_loadVar_row w g2 t2 ty cs2 fr2 d hg2 hu hd hi2]
theorem infoL_isB {l : List Int} {ps : List (List Int)} (hl : IsB l) (hp : ∀ p ∈ ps, IsB p) : IsB (infoL l ps) := by
  unfold infoL infL
  refine isB_append (tpart_isB hl) ?_
  intro x hx
  obtain ⟨q, hq, hx⟩ := List.mem_flatten.1 hx
  obtain ⟨p, hp2, rfl⟩ := List.mem_map.1 hq
  exact tpart_isB (hp p (List.mem_of_mem_take hp2)) x hx
theorem Pr.isB {w : World} {a : Option Addr} {ps : List (List Int)} (h : Pr w a ps) : ∀ p ∈ ps, IsB p := by
  intro p hp
  rcases h with h | ⟨q, o, _, h2⟩
  · rw [h] at hp; cases hp
  · obtain ⟨j, hj⟩ := List.getElem?_of_mem hp
    have hj2 := (List.getElem?_eq_some_iff.1 hj).1
    obtain ⟨_, _, _, _, _, h3, _⟩ := h2 j hj2
    have e : ps.getD j [] = p := by rw [List.getD_eq_getElem?_getD, hj]; rfl
    rw [e] at h3
    exact h3
/-- 32 bytes are copied into a key of one's own -/
theorem Bl.copy {w v : World} {L : List Blk} (h : Bl w L v) (k : Nat) {g : Nat} {Z D : List Int} (hk : L[k]? = some ⟨g, kc Z, 23⟩) (hZ : Z.length = 32) (hD : D.length = 32) : Bl w (L.set k ⟨g, kc D, 23⟩) (v.setCells g 0 (D.map (Value.int .u8))) := by
  have hv := setCells_heap (D.map (Value.int .u8)) v g 0 (Z.map (Value.int .u8)) 23 (h.get k hk)
  rw [sp_kc D Z (by omega), List.drop_eq_nil_of_le (by omega), List.append_nil] at hv
  exact h.but (setCells_bt (D.map (Value.int .u8)) v g 0) k hk rfl hv
theorem add_block (x : Addr) (k : Nat) : (x.add k).block = x.block := by
  unfold Addr.add
  split <;> rfl
/-- what lies in later blocks stays while an earlier one is written -/
theorem Sl.later {v : World} {a : Option Addr} {D : List Int} {g : Nat} (vs : List Value) (h : Sl v a D) (hf : ∀ x, a = some x → g < x.block) : Sl (v.setCells g 0 vs) a D := by
  rcases h with h | ⟨p, o, h1, h2⟩
  · exact .inl h
  · have hp := hf _ h1
    exact .inr ⟨p, o, h1, fun j hj => (setCells_bt vs v g 0).cell (h2 j hj) (by dsimp only at hp; omega)⟩
def Derd (D : List Int) (w : World) (r : Ending) (w' : World) : Prop := r = .returned (.agg (kc D)) ∧ Gr w w'
def Twod (D E : List Int) (w : World) (r : Ending) (w' : World) : Prop := r = .returned (.tuple #[.agg (kc D), .agg (kc E)]) ∧ Gr w w'
end Go.Proofs.YtpmgmpihmpifgabDoor
