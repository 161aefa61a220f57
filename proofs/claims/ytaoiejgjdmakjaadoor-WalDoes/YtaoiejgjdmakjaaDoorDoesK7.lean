/-
  Of layer 12: what the proof leans on.
-/
import Derived.Test.YtaoiejgjdmakjaaDoorDoesK6
namespace Go.Proofs.YtaoiejgjdmakjaaDoor
open Go.RowKit
set_option maxRecDepth 100000
set_option linter.unusedSimpArgs false
set_option linter.unusedVariables false
theorem exec_fromlt {a : Act} {o : Oper} (w : World) (x y : Operand) (ho : o.op = .slice 32 x (some y) none none) (p len cap n : Nat) (hx : a.eval x = .slice (some ⟨p, 0, none⟩) len cap) (hy : a.eval y = .int .i64 n) (hc : len ≤ cap) (hn : n < len) :
    (execOp a.eval o).run Tryd.prog w = .ok (.value (.slice (some ⟨p, n, none⟩) (len - n) (cap - n))) w := by
  have h := exec_from (a := a) (o := o) w x y ho (some ⟨p, 0, none⟩) len cap n hx hy hc (by omega)
  rw [if_neg (by omega), Option.map_some, Addr.add_mid, Nat.zero_add] at h
  exact h
def fch (B : Nat → List Int) (o z j : Nat) : List Int := (rows B o j).take z ++ List.replicate (z - 64 * j) 0
theorem fch_len {B : Nat → List Int} {o z j : Nat} (h : ∀ i, i < j → BB (B (o + i))) : (fch B o z j).length = z := by
  unfold fch
  rw [List.length_append, List.length_take, (rows_len j h).1, List.length_replicate]
  omega
theorem fch_step {B : Nat → List Int} {o z j : Nat} (h : ∀ i, i < j + 1 → BB (B (o + i))) (hj : 64 * j < z) : lay (fch B o z j) (64 * j) ((B (o + j)).take (z - 64 * j)) = fch B o z (j + 1) := by
  have h0 := (rows_len j (fun i hi => h i (by omega))).1
  have h1 := (h j (by omega)).1
  have e1 : (rows B o j).take z = rows B o j := List.take_of_length_le (by omega)
  have e2 : (rows B o (j + 1)).take z = rows B o j ++ (B (o + j)).take (z - 64 * j) := by
    rw [rows, List.take_append, e1, h0]
  have hq := lay_zero (rows B o j) ((B (o + j)).take (z - 64 * j)) (z - 64 * j) (by rw [List.length_take]; omega)
  rw [h0] at hq
  unfold fch
  rw [e1, e2, hq]
  congr 1
  rw [List.length_take, h1]
  congr 1
  omega
def Fet (L : List Int) (w : World) (r : Ending) (w' : World) : Prop := ∃ v, r = .returned (.tuple #[v, .int .i64 0]) ∧ Ob w.heap.size w' v L ∧ Gr w w'
set_option maxHeartbeats 4000000 in
theorem sfetch_ok (F : List Nat) (g gd m h lg sl : Nat) (D : Dk) (hD : D.Ok m) (hm : m ≤ 900000) (hd : D.dead = false) (w : World) (hL : Lies F gd D w) (hS : w.heap[g]? = some (.cells (stv h lg sl gd) 73 (0, 0))) (o z : Nat) (hoz : o + (z + 63) / 64 ≤ D.safe.length) : Calls Tryd.prog 52 #[P0 g, .int .i64 (o : Int), .int .i64 (z : Int)] w (Fet ((rows D.cur o ((z + 63) / 64)).take z) w) := by
  obtain ⟨T, hT⟩ : ∃ T, T = Fet ((rows D.cur o ((z + 63) / 64)).take z) w := ⟨_, rfl⟩
  rw [← hT]
  replace hT := hide hT
  have h512 := hD.hi1
  obtain ⟨K, hK0⟩ : ∃ x, x = (z + 63) / 64 := ⟨_, rfl⟩
  have hz1 : z ≤ 64 * K ∧ 64 * K < z + 64 := by omega
  rw [← hK0] at hoz hT
  have hbb : ∀ i, i < K → BB (D.cur (o + i)) := fun i hi => Dk.cur_bb hD (o + i) (by omega)
  have hrd : ∀ j, j < K → D.readB ((o + j : Nat) : Int) = D.cur (o + j) ∧ D.readE ((o + j : Nat) : Int) = 0 := fun j hj => ⟨read_cur hd (o + j) (by omega), by unfold Dk.readE; rw [hd, if_neg (by decide), if_pos ⟨by omega, by omega⟩]⟩
  have hgw := lt_of_block hS
  replace hD := hide hD; replace hL := hide hL; replace hS := hide hS; replace hK0 := hide hK0; replace hbb := hide hbb; replace hrd := hide hrd
  go_enter Tryd.func52, Tryd.ntmps52
  go_upto_region 1 with fail
  refine wp_region_lit ?_
  refine list_val (.int .i64 (z : Int)) (by kernel_rfl) (by kernel_rfl) ?_
  simp only [nrm]
  refine wpList_make_room _ rfl (.tmp 12) (.tmp 12) rfl (z : Int) (z : Int) z z (by kernel_rfl) (by kernel_rfl) rfl rfl (Nat.le_refl _) (by omega) ?_
  simp only [nrm]
  have hB := (Bl.nil w).new (kc (List.replicate z 0)) 5
  simp only [List.nil_append] at hB
  generalize World.alloc _ _ = u at *
  have e0 : fch D.cur o z 0 = List.replicate z 0 := by unfold fch; simp [rows]
  rw [← e0] at hB
  clear e0
  replace hB := hide hB
  (refine wpList_step fun K hK => ?_; replace hK := hide hK; go_simp; refine unhide hK _ _ ?_; clear hK K)
  refine wpList_nil ?_
  replace hB : Hid (Bl w [⟨w.heap.size, kc (fch D.cur o z 0), 5⟩] u) := hB
  go_wp2_with fail
  go_loopw [1, 9] (fun i t wr => ∃ (j q : Nat), j ≤ K ∧ i = .int .i64 ((o + j : Nat) : Int) ∧ t = .int .i64 (q : Int) ∧ q = min (64 * j) z ∧ Hid (Bl w [⟨w.heap.size, kc (fch D.cur o z j), 5⟩] wr)) (fun _ t _ => z - (intOf t).toNat)
  case atStart => exact ⟨0, 0, by omega, rfl, rfl, by omega, hB⟩
  case round =>
  clear hB
  obtain ⟨j, q, hjK, rfl, rfl, hq, hB⟩ := hrel
  by_cases hqz : q < z
  · skip
    have qI : (q : Int) < (z : Int) := by omega
    have hjlt : j < K := by omega
    have hq2 : q = 64 * j := by omega
    obtain ⟨oj, hoj⟩ : ∃ x, x = o + j := ⟨_, rfl⟩
    have hr1 := unhide hrd j hjlt
    have hb1 := unhide hbb j hjlt
    have hst := fch_step (B := D.cur) (o := o) (z := z) (j := j) (fun i hi => unhide hbb i (by omega)) (by omega)
    have hfl := fch_len (B := D.cur) (o := o) (z := z) (j := j) (fun i hi => unhide hbb i (by omega))
    rw [← hoj] at hr1 hb1 hst
    rw [← hoj]
    have i1 : IntKind.i64.wrap ((oj : Int) + 1) = (oj : Int) + 1 := by rw [IntKind.wrap_i64]; omega
    obtain ⟨C, hC⟩ : ∃ x, x = fch D.cur o z j := ⟨_, rfl⟩
    obtain ⟨C2, hC2⟩ : ∃ x, x = fch D.cur o z (j + 1) := ⟨_, rfl⟩
    obtain ⟨b, hb⟩ : ∃ x, x = D.cur oj := ⟨_, rfl⟩
    rw [← hC, ← hC2, ← hb, ← hq2] at hst
    rw [← hC] at hB hfl
    rw [← hb] at hr1 hb1
    have hbl := hb1.1
    obtain ⟨t, ht⟩ : ∃ x, x = min 64 (z - q) := ⟨_, rfl⟩
    obtain ⟨q2, hq3⟩ : ∃ x, x = q + t := ⟨_, rfl⟩
    have i2 : IntKind.i64.wrap ((q : Int) + (t : Int)) = (q2 : Int) := by rw [IntKind.wrap_i64]; omega
    replace hq := hide hq; replace hq2 := hide hq2; replace hoj := hide hoj; replace hr1 := hide hr1; replace hb1 := hide hb1; replace hst := hide hst; replace hC := hide hC; replace hC2 := hide hC2; replace hb := hide hb; replace ht := hide ht; replace hq3 := hide hq3
    go_upto_region 5 with fail
    replace hB := unhide hB
    refine wp_region_lit ?_
    refine list_val (.pointer (some ⟨g, 0, none⟩)) (by kernel_rfl) (by kernel_rfl) ?_
    simp only [nrm]
    refine list_val (.pointer (some ⟨g, 0, none⟩)) (by kernel_rfl) (by kernel_rfl) ?_
    simp only [nrm]
    refine list_val (.pointer (some ⟨g, 3, none⟩)) (by kernel_rfl) (by kernel_rfl) ?_
    simp only [nrm]
    refine list_val (.pointer (some ⟨gd, 0, none⟩)) (by kernel_rfl) (exec_pd _ (.tmp 22) rfl g 3 (by kernel_rfl) (some ⟨gd, 0, none⟩) (cell_of (hB.gr.blk (unhide hS)) (i := 3) rfl)) ?_
    simp only [nrm]
    refine list_val (.int .i64 (oj : Int)) (by kernel_rfl) (by kernel_rfl) ?_
    simp only [nrm]
    refine list_call 45 #[P0 gd, .int .i64 (oj : Int)] (by kernel_rfl) (by kernel_rfl) ((dread_ok F gd m D (unhide hD) (by omega) (oj : Int) wr ((unhide hL).gr hB.gr)).mono ?_)
    rintro r v1 ⟨rfl, hg⟩
    rw [(unhide hr1).1, (unhide hr1).2]
    replace hB := hB.more hg
    clear hg
    refine ⟨_, rfl, ?_⟩
    simp only [nrm]
    refine list_val (.tuple #[.agg (kc b), .int .i64 0]) (by kernel_rfl) (by kernel_rfl) ?_
    simp only [nrm]
    refine list_val (.agg (kc b)) (by kernel_rfl) (by kernel_rfl) ?_
    simp only [nrm]
    refine list_val (.int .i64 0) (by kernel_rfl) (by kernel_rfl) ?_
    simp only [nrm]
    refine list_valw (.pointer (some ⟨v1.heap.size, 0, none⟩)) (v1.alloc (.cells (kc ZB) 50 (0, 0))) (by kernel_rfl) (by kernel_rfl) ?_
    replace hB := hB.new (kc ZB) 50
    simp only [List.nil_append, List.cons_append] at hB
    generalize World.alloc _ _ = v2 at *
    generalize v1.heap.size = gk at *
    replace hB : Bl w [⟨w.heap.size, kc C, 5⟩, ⟨gk, kc ZB, 50⟩] v2 := hB
    simp only [nrm]
    refine list_store 50 (.tmp 10) (.tmp 26) (gk) (kc b) 50 (kc ZB) (by kernel_rfl) rfl (by kernel_rfl) (by kernel_rfl) (hB.get 1 (x := ⟨gk, kc ZB, 50⟩) rfl) (by rw [Tryd.infoB, kc_size, hbl]) ((show (kc ZB).size = 64 from rfl).trans ((kc_size _).trans hbl).symm) (kc_one _) ?_
    replace hB := hB.set 1 (x := ⟨gk, kc ZB, 50⟩) rfl (kc b)
    simp only [List.set_cons_zero, List.set_cons_succ] at hB
    generalize World.setRow _ _ _ = v3 at *
    replace hB : Bl w [⟨w.heap.size, kc C, 5⟩, ⟨gk, kc b, 50⟩] v3 := hB
    simp only [nrm]
    (refine wpList_step fun K hK => ?_; replace hK := hide hK; go_simp; refine unhide hK _ _ ?_; clear hK K)
    refine wpList_nil ?_
    replace hB := hide hB
    go_upto_region 8 with fail
    replace hB := unhide hB
    refine any_start (S := fun _ => True) (by kernel_rfl) ?_
    replace hB := hB.drew
    generalize World.drew _ = x0 at *
    simp only [List.size_toArray, List.length_cons, List.length_nil, Array.replicate, List.replicate]
    refine any_take (i := 0) (v := (.int .i64 (q : Int))) #[false, false, false, false, false, false, false, false] rfl (by kernel_rfl) (by kernel_rfl) (by kernel_rfl) (by kernel_rfl) (fun _ _ _ h => h) (.inl ⟨by kernel_rfl, fun x_ hu => by kernel_rfl⟩) trivial ?_
    simp only [nrm]
    refine any_take (i := 1) (v := (.slice (some ⟨w.heap.size, 0, none⟩) z z)) #[true, false, false, false, false, false, false, false] rfl (by kernel_rfl) (by kernel_rfl) (by kernel_rfl) (by kernel_rfl) (fun _ _ _ h => h) (.inl ⟨by kernel_rfl, fun x_ hu => by kernel_rfl⟩) trivial ?_
    simp only [nrm]
    refine any_take (i := 2) (v := (.int .i64 (q : Int))) #[true, true, false, false, false, false, false, false] rfl (by kernel_rfl) (by kernel_rfl) (by kernel_rfl) (by kernel_rfl) (fun _ _ _ h => h) (.inl ⟨by kernel_rfl, fun x_ hu => by kernel_rfl⟩) trivial ?_
    simp only [nrm]
    refine any_take (i := 3) (v := (.slice (some ⟨w.heap.size, q, none⟩) (z - q) (z - q))) #[true, true, true, false, false, false, false, false] rfl (by kernel_rfl) (by kernel_rfl) (by kernel_rfl) (by kernel_rfl) (fun _ _ _ h => h) (.inl ⟨by kernel_rfl, fun x_ hu => exec_fromlt _ (.tmp 32) (.tmp 33) rfl (w.heap.size) z z q (by kernel_rfl) (by kernel_rfl) (Nat.le_refl _) hqz⟩) trivial ?_
    simp only [nrm]
    refine any_take (i := 4) (v := (.slice (some ⟨gk, 0, none⟩) 64 64)) #[true, true, true, true, false, false, false, false] rfl (by kernel_rfl) (by kernel_rfl) (by kernel_rfl) (by kernel_rfl) (fun _ _ _ h => h) (.inl ⟨by kernel_rfl, fun x_ hu => by kernel_rfl⟩) trivial ?_
    simp only [nrm]
    refine any_one (i := 5) (by kernel_rfl) rfl (fun K_ hQ => ?_)
    rw [if_pos (by kernel_rfl)]
    have hsl : Lb x0 (some ⟨gk, 0, none⟩) 64 64 b := nw_lb0 (hB.get 1 (x := ⟨gk, kc b, 50⟩) rfl) (unhide hb1).2 hbl (by omega)
    have hbt : b.take (z - q) = b.take t := by
      rw [unhide ht]
      by_cases h2 : z - q ≤ 64
      · rw [Nat.min_eq_right h2]
      · rw [Nat.min_eq_left (by omega), List.take_of_length_le (by omega), List.take_of_length_le (by omega)]
    have htl : (b.take t).length = t := by rw [List.length_take, hbl]; have := unhide ht; omega
    refine copy_wp (.tmp 34) (.tmp 35) rfl (w.heap.size) q (z - q) (z - q) (some ⟨gk, 0, none⟩) 64 64 (by kernel_rfl) (by kernel_rfl) (C.map (Value.int .u8)) 5 (hB.get 0 (x := ⟨w.heap.size, kc C, 5⟩) rfl) (b.take t) (by rw [htl]; exact unhide ht) (hsl.pre t (by have := unhide ht; omega)).sl (by rw [htl, List.length_map, hfl]; have := unhide ht; omega) ?_
    have hcell := laid (S := b.take t) (o := q) (hB.get 0 (x := ⟨w.heap.size, kc C, 5⟩) rfl) (by rw [htl, hfl]; have := unhide ht; omega)
    rw [← hbt, unhide hst, hbt] at hcell
    have hB2 := hB.but (setCells_bt ((b.take t).map (Value.int .u8)) x0 (w.heap.size) q) 0 (x := ⟨w.heap.size, kc C, 5⟩) rfl rfl hcell
    simp only [List.set_cons_zero, List.set_cons_succ] at hB2
    generalize World.setCells _ _ _ _ = v4 at *
    rw [htl]
    clear hcell hB hsl hbt htl
    have hB : Bl w [⟨w.heap.size, kc C2, 5⟩] v4 := Bl.left (L := [⟨w.heap.size, kc C2, 5⟩]) (M := [⟨gk, kc b, 50⟩]) hB2
    clear hB2
    refine hQ.out _ _ trivial (fun _ => ?_)
    clear hQ K_
    simp only [nrm]
    refine any_take (i := 6) (v := (.int .i64 (q2 : Int))) #[true, true, true, true, true, true, false, false] rfl (by kernel_rfl) (by kernel_rfl) (by kernel_rfl) (by kernel_rfl) (fun _ _ _ h => h) (.inl ⟨by kernel_rfl, fun x_ hu => by go_simp⟩) trivial ?_
    simp only [nrm]
    refine any_one (i := 7) (by kernel_rfl) rfl (fun K_ hQ => ?_)
    replace hQ := hide hQ
    go_simp
    refine (unhide hQ).out _ _ trivial (fun _ => ?_)
    clear hQ K_
    refine any_done (by kernel_rfl) ?_
    rw [unhide hC2] at hB
    replace hB := hide hB
    clear i2
    go_wp2_with fail
    go_roundw
    case rel => exact ⟨j + 1, q2, by omega, by have := unhide hoj; go_num, rfl, by have h1 := unhide hq3; have h2 := unhide ht; have h3 := unhide hq2; omega, hB⟩
    case measure => have h1 := unhide hq3; have h2 := unhide ht; simp [intOf]; omega
  have qI : ¬ (q : Int) < (z : Int) := by omega
  have hjK2 : j = K := by omega
  have hfin : Hid (fch D.cur o z j = (rows D.cur o K).take z) := by
    show fch D.cur o z j = _
    unfold fch
    rw [hjK2, show z - 64 * K = 0 from by omega, List.replicate_zero, List.append_nil]
  have hfl := fch_len (B := D.cur) (o := o) (z := z) (j := j) (fun i hi => unhide hbb i (by omega))
  have hZ : Hid (Fet ((rows D.cur o K).take z) w (.returned (.tuple #[.slice (some ⟨w.heap.size, 0, none⟩) z z, .int .i64 0])) wr) := by
    refine ⟨_, rfl, ?_, (unhide hB).gr⟩
    rw [← unhide hfin]
    exact ob_of ((unhide hB).get 0 (x := ⟨w.heap.size, kc (fch D.cur o z j), 5⟩) rfl) hfl (Nat.le_refl _) (by omega)
  clear hB hfl hfin hjK2 hq
  go_wp2_with fail
  rw [unhide hT]
  exact unhide hZ
def Sto (G : List Nat) (g gd n : Nat) (_ : Sup) (v : World) : Prop := G = [g] ∧ v.heap[g]? = some (.cells (stN n gd) 73 (0, 0))
theorem Sto.lt {G : List Nat} {g gd h : Nat} {s : Sup} {v : World} (k : Sto G g gd h s v) : ∀ i ∈ G, i < v.heap.size := by
  intro i hi
  rw [k.1, List.mem_singleton] at hi
  rw [hi]
  exact lt_of_block k.2
theorem Sto.keep {G : List Nat} {g gd h : Nat} {s : Sup} {v u : World} (k : Sto G g gd h s v) (hs : v.heap.size ≤ u.heap.size) (e : ∀ i ∈ G, u.heap[i]? = v.heap[i]?) : Sto G g gd h s u := ⟨k.1, by rw [e g (by rw [k.1]; exact List.mem_singleton.2 rfl)]; exact k.2⟩
theorem Sto.any {G : List Nat} {g gd h : Nat} {s : Sup} {v : World} (k : Sto G g gd h s v) (t : Sup) : Sto G g gd h t v := k
theorem Sto.gr {G : List Nat} {g gd h : Nat} {s : Sup} {v u : World} (k : Sto G g gd h s v) (e : Gr v u) : Sto G g gd h s u := k.keep e.size (fun i hi => e.block i (k.lt i hi))
theorem Sto.chg {G F F' : List Nat} {g gd h : Nat} {s : Sup} {v u : World} (k : Sto G g gd h s v) (e : Chg F F' v u) (hn : ∀ i ∈ F, i ∉ G) : Sto G g gd h s u := k.keep e.size (fun i hi => e.block i (k.lt i hi) (fun hf => hn i hf hi))
theorem stN_is (n gd : Nat) : ∃ h lg sl, h = (n - 2) / 4 ∧ lg = 2 + 2 * h ∧ sl = n - lg ∧ stN n gd = stv h lg sl gd := ⟨_, _, _, rfl, rfl, rfl, rfl⟩
set_option maxHeartbeats 4000000 in
theorem room_ok (G : List Nat) (g gd n : Nat) (s : Sup) (hn : n ≤ 1000000) (w : World) (hs : Sto G g gd n s w) : Calls Tryd.prog 19 #[P0 g] w (Vl (.int .i64 ((64 * ((n - 2) / 4) : Nat) : Int)) w) := by
  obtain ⟨T, hT⟩ : ∃ T, T = Vl (.int .i64 ((64 * ((n - 2) / 4) : Nat) : Int)) w := ⟨_, rfl⟩
  rw [← hT]
  replace hT := hide hT
  obtain ⟨h, lg, sl, hh, hlg, hsl, hq⟩ := stN_is n gd
  obtain ⟨-, hS⟩ := hs
  rw [hq] at hS
  clear hq
  replace hS := hide hS
  obtain ⟨rm, hrm⟩ : ∃ x, x = 64 * ((n - 2) / 4) := ⟨_, rfl⟩
  have e1 : IntKind.i64.wrap ((h : Int) * 64) = (rm : Int) := by rw [IntKind.wrap_i64]; omega
  have hv : Hid (((64 * ((n - 2) / 4) : Nat) : Int) = (rm : Int)) := by show _ = _; rw [hrm]
  replace hrm := hide hrm; replace hh := hide hh; replace hlg := hide hlg; replace hsl := hide hsl
  go_enter Tryd.func19, Tryd.ntmps19
  go_upto_region 1 with fail
  refine wp_region_lit ?_
  refine list_val (.pointer (some ⟨g, 0, none⟩)) (by kernel_rfl) (by kernel_rfl) ?_
  simp only [nrm]
  refine list_val (.bool false) (by kernel_rfl) (by kernel_rfl) ?_
  simp only [nrm]
  refine wpList_nil ?_
  go_upto_region 3 with fail
  refine wp_region_lit ?_
  refine list_val (.pointer (some ⟨g, 0, none⟩)) (by kernel_rfl) (by kernel_rfl) ?_
  simp only [nrm]
  refine list_val (.pointer (some ⟨g, 0, none⟩)) (by kernel_rfl) (by kernel_rfl) ?_
  simp only [nrm]
  refine list_val (.pointer (some ⟨g, 0, none⟩)) (by kernel_rfl) (by kernel_rfl) ?_
  simp only [nrm]
  refine list_val (.pointer (some ⟨g, 0, none⟩)) (by kernel_rfl) (by kernel_rfl) ?_
  simp only [nrm]
  refine list_val (.int .i64 (h : Int)) (by kernel_rfl) (exec_i64 _ (.tmp 8) rfl g 0 (by kernel_rfl) _ (cell_of (unhide hS) (i := 0) rfl)) ?_
  simp only [nrm]
  refine list_val (.int .i64 (rm : Int)) (by kernel_rfl) (by go_simp) ?_
  simp only [nrm]
  (refine wpList_step fun K hK => ?_; replace hK := hide hK; go_simp; refine unhide hK _ _ ?_; clear hK K)
  refine wpList_nil ?_
  have hZ : Hid (Vl (.int .i64 ((64 * ((n - 2) / 4) : Nat) : Int)) w (.returned (.int .i64 (rm : Int))) w) := ⟨by first | rfl | (rw [unhide hv]), Gr.refl w⟩
  go_wp2_with fail
  rw [unhide hT]
  exact unhide hZ
set_option maxHeartbeats 4000000 in
theorem slots_ok (G : List Nat) (g gd n : Nat) (s : Sup) (hn : n ≤ 1000000) (w : World) (hs : Sto G g gd n s w) : Calls Tryd.prog 15 #[P0 g] w (Vl (.int .i64 ((n - 2 - 2 * ((n - 2) / 4) : Nat) : Int)) w) := by
  obtain ⟨T, hT⟩ : ∃ T, T = Vl (.int .i64 ((n - 2 - 2 * ((n - 2) / 4) : Nat) : Int)) w := ⟨_, rfl⟩
  rw [← hT]
  replace hT := hide hT
  obtain ⟨h, lg, sl, hh, hlg, hsl, hq⟩ := stN_is n gd
  obtain ⟨-, hS⟩ := hs
  rw [hq] at hS
  clear hq
  replace hS := hide hS
  have hv : Hid (((n - 2 - 2 * ((n - 2) / 4) : Nat) : Int) = (sl : Int)) := by show _ = _; omega
  replace hh := hide hh; replace hlg := hide hlg; replace hsl := hide hsl
  go_enter Tryd.func15, Tryd.ntmps15
  go_upto_region 1 with fail
  refine wp_region_lit ?_
  refine list_val (.pointer (some ⟨g, 0, none⟩)) (by kernel_rfl) (by kernel_rfl) ?_
  simp only [nrm]
  refine list_val (.bool false) (by kernel_rfl) (by kernel_rfl) ?_
  simp only [nrm]
  refine wpList_nil ?_
  go_upto_region 3 with fail
  refine wp_region_lit ?_
  refine list_val (.pointer (some ⟨g, 0, none⟩)) (by kernel_rfl) (by kernel_rfl) ?_
  simp only [nrm]
  refine list_val (.pointer (some ⟨g, 0, none⟩)) (by kernel_rfl) (by kernel_rfl) ?_
  simp only [nrm]
  refine list_val (.pointer (some ⟨g, 0, none⟩)) (by kernel_rfl) (by kernel_rfl) ?_
  simp only [nrm]
  refine list_val (.pointer (some ⟨g, 2, none⟩)) (by kernel_rfl) (by kernel_rfl) ?_
  simp only [nrm]
  refine list_val (.int .i64 (sl : Int)) (by kernel_rfl) (exec_i64 _ (.tmp 8) rfl g 2 (by kernel_rfl) _ (cell_of (unhide hS) (i := 2) rfl)) ?_
  simp only [nrm]
  (refine wpList_step fun K hK => ?_; replace hK := hide hK; go_simp; refine unhide hK _ _ ?_; clear hK K)
  refine wpList_nil ?_
  have hZ : Hid (Vl (.int .i64 ((n - 2 - 2 * ((n - 2) / 4) : Nat) : Int)) w (.returned (.int .i64 (sl : Int))) w) := ⟨by first | rfl | (rw [unhide hv]), Gr.refl w⟩
  go_wp2_with fail
  rw [unhide hT]
  exact unhide hZ
set_option maxHeartbeats 4000000 in
theorem esync_ok (F G : List Nat) (g gd m : Nat) (D : Dk) (s : Sup) (hD : D.Ok m) (hm : m ≤ 900000) (w : World) (hL : Lies F gd D w) (hs : Sto G g gd D.safe.length s w) : Calls Tryd.prog 60 #[P0 g] w (Ch F gd D.syncD D.syncE w) := by
  obtain ⟨T, hT⟩ : ∃ T, T = Ch F gd D.syncD D.syncE w := ⟨_, rfl⟩
  rw [← hT]
  replace hT := hide hT
  obtain ⟨h, lg, sl, hh, hlg, hsl, hq⟩ := stN_is D.safe.length gd
  obtain ⟨-, hS⟩ := hs
  rw [hq] at hS
  clear hq
  replace hS := hide hS
  clear hh hlg hsl
  replace hL := hide hL; replace hD := hide hD
  go_enter Tryd.func60, Tryd.ntmps60
  go_upto_region 1 with fail
  refine wp_region_lit ?_
  refine list_val (.pointer (some ⟨g, 0, none⟩)) (by kernel_rfl) (by kernel_rfl) ?_
  simp only [nrm]
  refine list_val (.bool false) (by kernel_rfl) (by kernel_rfl) ?_
  simp only [nrm]
  refine wpList_nil ?_
  go_upto_region 3 with fail
  refine wp_region_lit ?_
  refine list_val (.pointer (some ⟨g, 0, none⟩)) (by kernel_rfl) (by kernel_rfl) ?_
  simp only [nrm]
  refine list_val (.pointer (some ⟨g, 0, none⟩)) (by kernel_rfl) (by kernel_rfl) ?_
  simp only [nrm]
  refine list_val (.pointer (some ⟨g, 3, none⟩)) (by kernel_rfl) (by kernel_rfl) ?_
  simp only [nrm]
  refine list_val (.pointer (some ⟨gd, 0, none⟩)) (by kernel_rfl) (exec_pd _ (.tmp 7) rfl g 3 (by kernel_rfl) (some ⟨gd, 0, none⟩) (cell_of (unhide hS) (i := 3) rfl)) ?_
  simp only [nrm]
  refine list_call 78 #[P0 gd] (by kernel_rfl) (by kernel_rfl) ((dsync_ok F gd m D (unhide hD) (by omega) w (unhide hL)).mono ?_)
  rintro r u ⟨F', rfl, h1, h2⟩
  have hZ : Hid (Ch F gd D.syncD D.syncE w (.returned (.int .i64 D.syncE)) u) := ⟨F', rfl, h1, h2⟩
  refine ⟨_, rfl, ?_⟩
  clear h1 h2
  generalize D.syncE = e at *
  simp only [nrm]
  (refine wpList_step fun K hK => ?_; replace hK := hide hK; go_simp; refine unhide hK _ _ ?_; clear hK K)
  refine wpList_nil ?_
  go_wp2_with fail
  rw [unhide hT]
  exact unhide hZ
set_option maxHeartbeats 4000000 in
theorem sreach_ok (G : List Nat) (g gd n : Nat) (s : Sup) (hn : n ≤ 1000000) (i : Int) (hi : 0 ≤ i ∧ i < ((n - 2 - 2 * ((n - 2) / 4) : Nat) : Int)) (w : World) (hs : Sto G g gd n s w) : Calls Tryd.prog 44 #[P0 g, .int .i64 i] w (Vl (.int .i64 0) w) := by
  obtain ⟨T, hT⟩ : ∃ T, T = Vl (.int .i64 0) w := ⟨_, rfl⟩
  rw [← hT]
  replace hT := hide hT
  obtain ⟨h, lg, sl, hh, hlg, hsl, hq⟩ := stN_is n gd
  obtain ⟨-, hS⟩ := hs
  rw [hq] at hS
  clear hq
  replace hS := hide hS
  have hi2 : 0 ≤ i ∧ i < (sl : Int) := by omega
  clear hh hlg hsl hi
  go_enter Tryd.func44, Tryd.ntmps44
  go_upto_region 1 with fail
  refine wp_region_lit ?_
  refine list_val (.pointer (some ⟨g, 0, none⟩)) (by kernel_rfl) (by kernel_rfl) ?_
  simp only [nrm]
  refine list_val (.bool false) (by kernel_rfl) (by kernel_rfl) ?_
  simp only [nrm]
  refine wpList_nil ?_
  obtain ⟨i0, i1⟩ := hi2
  have i2 : ¬ i < 0 := by omega
  have i3 : ¬ (sl : Int) ≤ i := by omega
  clear i0 i1
  go_upto_region 3 with fail
  refine wp_region_lit ?_
  refine list_val (.int .i64 i) (by kernel_rfl) (by kernel_rfl) ?_
  simp only [nrm]
  refine list_val (.bool false) (by kernel_rfl) (by go_simp) ?_
  simp only [nrm]
  refine list_val (.bool false) (by kernel_rfl) (by kernel_rfl) ?_
  simp only [nrm]
  refine list_val (.int .i64 i) (by kernel_rfl) (by kernel_rfl) ?_
  simp only [nrm]
  refine list_val (.pointer (some ⟨g, 0, none⟩)) (by kernel_rfl) (by kernel_rfl) ?_
  simp only [nrm]
  refine list_val (.pointer (some ⟨g, 0, none⟩)) (by kernel_rfl) (by kernel_rfl) ?_
  simp only [nrm]
  refine list_val (.pointer (some ⟨g, 0, none⟩)) (by kernel_rfl) (by kernel_rfl) ?_
  simp only [nrm]
  refine list_val (.pointer (some ⟨g, 2, none⟩)) (by kernel_rfl) (by kernel_rfl) ?_
  simp only [nrm]
  refine list_val (.int .i64 (sl : Int)) (by kernel_rfl) (exec_i64 _ (.tmp 14) rfl g 2 (by kernel_rfl) _ (cell_of (unhide hS) (i := 2) rfl)) ?_
  simp only [nrm]
  refine list_val (.bool false) (by kernel_rfl) (by go_simp) ?_
  simp only [nrm]
  refine list_val (.bool false) (by kernel_rfl) (by kernel_rfl) ?_
  simp only [nrm]
  refine wpList_nil ?_
  have hZ : Hid (Vl (.int .i64 0) w (.returned (.int .i64 0)) w) := ⟨rfl, Gr.refl w⟩
  go_wp2_with fail
  rw [unhide hT]
  exact unhide hZ
set_option maxHeartbeats 4000000 in
theorem eslot_ok (F G : List Nat) (g gd m : Nat) (D : Dk) (s : Sup) (hD : D.Ok m) (hm : m ≤ 900000) (i : Int) (hi : 0 ≤ i ∧ i < ((D.safe.length - 2 - 2 * ((D.safe.length - 2) / 4) : Nat) : Int)) (w : World) (hL : Lies F gd D w) (hs : Sto G g gd D.safe.length s w) : Calls Tryd.prog 23 #[P0 g, .int .i64 i] w (Rrd (D.readB (((2 + 2 * ((D.safe.length - 2) / 4) : Nat) : Int) + i)) (D.readE (((2 + 2 * ((D.safe.length - 2) / 4) : Nat) : Int) + i)) w) := by
  obtain ⟨T, hT⟩ : ∃ T, T = Rrd (D.readB (((2 + 2 * ((D.safe.length - 2) / 4) : Nat) : Int) + i)) (D.readE (((2 + 2 * ((D.safe.length - 2) / 4) : Nat) : Int) + i)) w := ⟨_, rfl⟩
  rw [← hT]
  replace hT := hide hT
  have hst := hide hs
  obtain ⟨h, lg, sl, hh, hlg, hsl, hq⟩ := stN_is D.safe.length gd
  obtain ⟨-, hS⟩ := hs
  rw [hq] at hS
  clear hq
  replace hS := hide hS
  have h512 := hD.hi1
  obtain ⟨k, hk⟩ : ∃ k : Int, k = (lg : Int) + i := ⟨_, rfl⟩
  have e1 : IntKind.i64.wrap ((lg : Int) + i) = k := by rw [IntKind.wrap_i64]; omega
  have hkk : ((2 + 2 * ((D.safe.length - 2) / 4) : Nat) : Int) + i = k := by rw [hk, hlg, hh]
  rw [hkk] at hT
  have hbb := Dk.readB_bb hD k
  clear hkk hk hlg hh hsl
  replace hi := hide hi; replace hD := hide hD; replace hL := hide hL
  go_enter Tryd.func23, Tryd.ntmps23
  go_upto_region 1 with fail
  have hB := ((Bl.nil w).new #[.int .u8 0, .int .u8 0, .int .u8 0, .int .u8 0, .int .u8 0, .int .u8 0, .int .u8 0, .int .u8 0, .int .u8 0, .int .u8 0, .int .u8 0, .int .u8 0, .int .u8 0, .int .u8 0, .int .u8 0, .int .u8 0, .int .u8 0, .int .u8 0, .int .u8 0, .int .u8 0, .int .u8 0, .int .u8 0, .int .u8 0, .int .u8 0, .int .u8 0, .int .u8 0, .int .u8 0, .int .u8 0, .int .u8 0, .int .u8 0, .int .u8 0, .int .u8 0, .int .u8 0, .int .u8 0, .int .u8 0, .int .u8 0, .int .u8 0, .int .u8 0, .int .u8 0, .int .u8 0, .int .u8 0, .int .u8 0, .int .u8 0, .int .u8 0, .int .u8 0, .int .u8 0, .int .u8 0, .int .u8 0, .int .u8 0, .int .u8 0, .int .u8 0, .int .u8 0, .int .u8 0, .int .u8 0, .int .u8 0, .int .u8 0, .int .u8 0, .int .u8 0, .int .u8 0, .int .u8 0, .int .u8 0, .int .u8 0, .int .u8 0, .int .u8 0] 50)
  simp only [size_alloc, List.nil_append, List.cons_append] at hB
  generalize World.alloc _ _ = u at *
  replace hB : Bl w [⟨w.heap.size, kc ZB, 50⟩] u := hB
  refine wp_region_lit ?_
  refine list_val (.pointer (some ⟨g, 0, none⟩)) (by kernel_rfl) (by kernel_rfl) ?_
  simp only [nrm]
  refine list_val (.int .i64 i) (by kernel_rfl) (by kernel_rfl) ?_
  simp only [nrm]
  refine list_call 44 #[.pointer (some ⟨g, 0, none⟩), .int .i64 i] (by kernel_rfl) (by kernel_rfl) ((sreach_ok G g gd D.safe.length s (by omega) i (unhide hi) _ ((unhide hst).gr hB.gr)).mono ?_)
  rintro r u1 ⟨rfl, hg⟩
  refine ⟨_, rfl, ?_⟩
  replace hB := hB.more hg
  clear hg
  simp only [nrm]
  (refine wpList_step fun K hK => ?_; replace hK := hide hK; go_simp; refine unhide hK _ _ ?_; clear hK K)
  refine wpList_nil ?_
  replace hB := hide hB
  go_upto_region 4 with fail
  replace hB := unhide hB
  refine any_start (S := fun (v : World) => v.heap[g]? = some (.cells (stv h lg sl gd) 73 (0, 0))) (by kernel_rfl) ?_
  replace hB := hB.drew
  generalize World.drew _ = x0 at *
  have hS1 : (fun (v : World) => v.heap[g]? = some (.cells (stv h lg sl gd) 73 (0, 0))) x0 := hB.gr.blk (unhide hS)
  simp only [List.size_toArray, List.length_cons, List.length_nil, Array.replicate, List.replicate]
  refine any_take (i := 0) (v := (.pointer (some ⟨g, 0, none⟩))) #[false, false, false, false, false, false, false, false, false, false, false, false, false, false, false, false] rfl (by kernel_rfl) (by kernel_rfl) (by kernel_rfl) (by kernel_rfl) (fun _ _ _ h => h) (.inl ⟨by kernel_rfl, fun x_ hu => by kernel_rfl⟩) hS1 ?_
  simp only [nrm]
  refine any_take (i := 1) (v := (.pointer (some ⟨g, 0, none⟩))) #[true, false, false, false, false, false, false, false, false, false, false, false, false, false, false, false] rfl (by kernel_rfl) (by kernel_rfl) (by kernel_rfl) (by kernel_rfl) (fun _ _ _ h => h) (.inl ⟨by kernel_rfl, fun x_ hu => by kernel_rfl⟩) hS1 ?_
  simp only [nrm]
  refine any_take (i := 2) (v := (.pointer (some ⟨g, 3, none⟩))) #[true, true, false, false, false, false, false, false, false, false, false, false, false, false, false, false] rfl (by kernel_rfl) (by kernel_rfl) (by kernel_rfl) (by kernel_rfl) (fun _ _ _ h => h) (.inl ⟨by kernel_rfl, fun x_ hu => by kernel_rfl⟩) hS1 ?_
  simp only [nrm]
  refine any_take (i := 3) (v := (.pointer (some ⟨gd, 0, none⟩))) #[true, true, true, false, false, false, false, false, false, false, false, false, false, false, false, false] rfl (by kernel_rfl) (by kernel_rfl) (by kernel_rfl) (by kernel_rfl) (fun _ _ _ h => h) (.inl ⟨by kernel_rfl, fun x_ hu => exec_pd _ (.tmp 16) rfl g 3 (by kernel_rfl) (some ⟨gd, 0, none⟩) (cell_of hu (i := 3) rfl)⟩) hS1 ?_
  simp only [nrm]
  refine any_take (i := 4) (v := (.pointer (some ⟨g, 0, none⟩))) #[true, true, true, true, false, false, false, false, false, false, false, false, false, false, false, false] rfl (by kernel_rfl) (by kernel_rfl) (by kernel_rfl) (by kernel_rfl) (fun _ _ _ h => h) (.inl ⟨by kernel_rfl, fun x_ hu => by kernel_rfl⟩) hS1 ?_
  simp only [nrm]
  refine any_take (i := 5) (v := (.pointer (some ⟨g, 0, none⟩))) #[true, true, true, true, true, false, false, false, false, false, false, false, false, false, false, false] rfl (by kernel_rfl) (by kernel_rfl) (by kernel_rfl) (by kernel_rfl) (fun _ _ _ h => h) (.inl ⟨by kernel_rfl, fun x_ hu => by kernel_rfl⟩) hS1 ?_
  simp only [nrm]
  refine any_take (i := 6) (v := (.pointer (some ⟨g, 0, none⟩))) #[true, true, true, true, true, true, false, false, false, false, false, false, false, false, false, false] rfl (by kernel_rfl) (by kernel_rfl) (by kernel_rfl) (by kernel_rfl) (fun _ _ _ h => h) (.inl ⟨by kernel_rfl, fun x_ hu => by kernel_rfl⟩) hS1 ?_
  simp only [nrm]
  refine any_take (i := 7) (v := (.pointer (some ⟨g, 1, none⟩))) #[true, true, true, true, true, true, true, false, false, false, false, false, false, false, false, false] rfl (by kernel_rfl) (by kernel_rfl) (by kernel_rfl) (by kernel_rfl) (fun _ _ _ h => h) (.inl ⟨by kernel_rfl, fun x_ hu => by kernel_rfl⟩) hS1 ?_
  simp only [nrm]
  refine any_take (i := 8) (v := (.int .i64 (lg : Int))) #[true, true, true, true, true, true, true, true, false, false, false, false, false, false, false, false] rfl (by kernel_rfl) (by kernel_rfl) (by kernel_rfl) (by kernel_rfl) (fun _ _ _ h => h) (.inl ⟨by kernel_rfl, fun x_ hu => exec_i64 _ (.tmp 21) rfl g 1 (by kernel_rfl) _ (cell_of hu (i := 1) rfl)⟩) hS1 ?_
  simp only [nrm]
  refine any_take (i := 9) (v := (.int .i64 i)) #[true, true, true, true, true, true, true, true, true, false, false, false, false, false, false, false] rfl (by kernel_rfl) (by kernel_rfl) (by kernel_rfl) (by kernel_rfl) (fun _ _ _ h => h) (.inl ⟨by kernel_rfl, fun x_ hu => by kernel_rfl⟩) hS1 ?_
  simp only [nrm]
  refine any_take (i := 10) (v := (.int .i64 k)) #[true, true, true, true, true, true, true, true, true, true, false, false, false, false, false, false] rfl (by kernel_rfl) (by kernel_rfl) (by kernel_rfl) (by kernel_rfl) (fun _ _ _ h => h) (.inl ⟨by kernel_rfl, fun x_ hu => by go_simp⟩) hS1 ?_
  simp only [nrm]
  refine any_one (i := 11) (by kernel_rfl) rfl (fun K_ hQ => ?_)
  refine step_callw (by kernel_rfl) 45 #[P0 gd, .int .i64 k] (by kernel_rfl) ((dread_ok F gd m D (unhide hD) (by omega) k x0 ((unhide hL).gr hB.gr)).mono ?_)
  rintro r u2 ⟨rfl, hg⟩
  refine ⟨_, rfl, ?_⟩
  obtain ⟨rb, hrb⟩ : ∃ x, x = D.readB k := ⟨_, rfl⟩
  obtain ⟨re, hre⟩ : ∃ x, x = D.readE k := ⟨_, rfl⟩
  have hrl := hbb.1
  rw [← hrb] at hrl
  rw [← hrb, ← hre]
  replace hrb := hide hrb; replace hre := hide hre
  replace hB := hB.more hg
  replace hS1 : (fun (v : World) => v.heap[g]? = some (.cells (stv h lg sl gd) 73 (0, 0))) u2 := hg.blk hS1
  clear hg
  refine hQ.out _ _ hS1 (fun _ => ?_)
  clear hQ K_
  simp only [nrm]
  refine any_take (i := 12) (v := (.agg (kc rb))) #[true, true, true, true, true, true, true, true, true, true, true, true, false, false, false, false] rfl (by kernel_rfl) (by kernel_rfl) (by kernel_rfl) (by kernel_rfl) (fun _ _ _ h => h) (.inl ⟨by kernel_rfl, fun x_ hu => by kernel_rfl⟩) hS1 ?_
  simp only [nrm]
  refine any_take (i := 13) (v := (.int .i64 re)) #[true, true, true, true, true, true, true, true, true, true, true, true, true, false, false, false] rfl (by kernel_rfl) (by kernel_rfl) (by kernel_rfl) (by kernel_rfl) (fun _ _ _ h => h) (.inl ⟨by kernel_rfl, fun x_ hu => by kernel_rfl⟩) hS1 ?_
  simp only [nrm]
  refine any_one (i := 14) (by kernel_rfl) rfl (fun K_ hQ => ?_)
  rw [if_pos (by kernel_rfl)]
  refine wp_store_row 50 (.tmp 4) (.tmp 26) rfl (w.heap.size) (kc rb) (by kernel_rfl) (by kernel_rfl) 50 (kc ZB) (hB.get 0 (x := ⟨w.heap.size, kc ZB, 50⟩) rfl) (by rw [Tryd.infoB, kc_size, hrl]) ((show (kc ZB).size = 64 from rfl).trans ((kc_size _).trans hrl).symm) (kc_one _) ?_
  have hB2 := hB.set 0 (x := ⟨w.heap.size, kc ZB, 50⟩) rfl (kc rb)
  simp only [List.set_cons_zero, List.set_cons_succ] at hB2
  have hS2 : (fun (v : World) => v.heap[g]? = some (.cells (stv h lg sl gd) 73 (0, 0))) (u2.setRow (w.heap.size) (kc rb)) := (setRow_other _ _ _ _ (by have h1 := lt_of_block (unhide hst).2; omega)).trans hS1
  generalize World.setRow _ _ _ = u3 at *
  clear hB hS1
  have hB : Bl w [⟨w.heap.size, kc rb, 50⟩] u3 := hB2
  have hS1 := hS2
  clear hB2 hS2
  refine hQ.out _ _ hS1 (fun _ => ?_)
  clear hQ K_
  simp only [nrm]
  refine any_one (i := 15) (by kernel_rfl) rfl (fun K_ hQ => ?_)
  replace hQ := hide hQ
  go_simp
  refine (unhide hQ).out _ _ hS1 (fun _ => ?_)
  clear hQ K_
  refine any_done (by kernel_rfl) ?_
  clear hS1
  replace hB := hide hB
  go_wp2_with fail
  replace hB := unhide hB
  rw [unhide hT]
  exact bodyPost_ret (v := .tuple #[.agg (kc rb), .int .i64 re]) (results_cell_tmp Tryd.results23 _ _ (w.heap.size) 50 (kc rb) (0, 0) _ rfl (.int .i64 re) rfl (hB.get 0 (x := ⟨w.heap.size, kc rb, 50⟩) rfl) Tryd.underlying50 rfl ((by rw [Tryd.infoB, kc_size, hrl]))) rfl (⟨by rw [unhide hrb, unhide hre], hB.gr⟩)
set_option maxHeartbeats 4000000 in
theorem eput_ok (F G : List Nat) (g gd m : Nat) (D : Dk) (s : Sup) (hD : D.Ok m) (hm : m ≤ 900000) (i : Int) (hi : 0 ≤ i ∧ i < ((D.safe.length - 2 - 2 * ((D.safe.length - 2) / 4) : Nat) : Int)) (b : List Int) (hb : BB b) (hap : ∀ i ∈ F, i ∉ G) (w : World) (hL : Lies F gd D w) (hs : Sto G g gd D.safe.length s w) : Calls Tryd.prog 59 #[P0 g, .int .i64 i, .agg (kc b)] w (Ch F gd (D.writeD (((2 + 2 * ((D.safe.length - 2) / 4) : Nat) : Int) + i) b) (D.writeE (((2 + 2 * ((D.safe.length - 2) / 4) : Nat) : Int) + i)) w) := by
  obtain ⟨T, hT⟩ : ∃ T, T = Ch F gd (D.writeD (((2 + 2 * ((D.safe.length - 2) / 4) : Nat) : Int) + i) b) (D.writeE (((2 + 2 * ((D.safe.length - 2) / 4) : Nat) : Int) + i)) w := ⟨_, rfl⟩
  rw [← hT]
  replace hT := hide hT
  have hst := hide hs
  obtain ⟨h, lg, sl, hh, hlg, hsl, hq⟩ := stN_is D.safe.length gd
  obtain ⟨-, hS⟩ := hs
  rw [hq] at hS
  clear hq
  replace hS := hide hS
  have h512 := hD.hi1
  obtain ⟨k, hk⟩ : ∃ k : Int, k = (lg : Int) + i := ⟨_, rfl⟩
  have e1 : IntKind.i64.wrap ((lg : Int) + i) = k := by rw [IntKind.wrap_i64]; omega
  have hkk : ((2 + 2 * ((D.safe.length - 2) / 4) : Nat) : Int) + i = k := by rw [hk, hlg, hh]
  rw [hkk] at hT
  clear hkk hk hlg hh hsl
  replace hi := hide hi; replace hD := hide hD; replace hL := hide hL
  have hbl := hb.1
  obtain ⟨SK, hSK⟩ : ∃ X, X = kc b := ⟨_, rfl⟩
  rw [← hSK]
  replace hSK := hide hSK; replace hb := hide hb
  go_enter Tryd.func59, Tryd.ntmps59
  go_upto_region 1 with fail
  have hB := ((Bl.nil w).new SK 50)
  simp only [size_alloc, List.nil_append, List.cons_append] at hB
  generalize World.alloc _ _ = u at *
  rw [unhide hSK] at hB
  replace hB : Bl w [⟨w.heap.size, kc b, 50⟩] u := hB
  refine wp_region_lit ?_
  refine list_val (.pointer (some ⟨g, 0, none⟩)) (by kernel_rfl) (by kernel_rfl) ?_
  simp only [nrm]
  refine list_val (.int .i64 i) (by kernel_rfl) (by kernel_rfl) ?_
  simp only [nrm]
  refine list_call 44 #[.pointer (some ⟨g, 0, none⟩), .int .i64 i] (by kernel_rfl) (by kernel_rfl) ((sreach_ok G g gd D.safe.length s (by omega) i (unhide hi) _ ((unhide hst).gr hB.gr)).mono ?_)
  rintro r u1 ⟨rfl, hg⟩
  refine ⟨_, rfl, ?_⟩
  replace hB := hB.more hg
  clear hg
  simp only [nrm]
  (refine wpList_step fun K hK => ?_; replace hK := hide hK; go_simp; refine unhide hK _ _ ?_; clear hK K)
  refine wpList_nil ?_
  replace hB := hide hB
  go_upto_region 4 with fail
  replace hB := unhide hB
  refine any_start (S := fun (v : World) => v.heap[g]? = some (.cells (stv h lg sl gd) 73 (0, 0)) ∧ v.heap[w.heap.size]? = some (.cells (kc b) 50 (0, 0))) (by kernel_rfl) ?_
  replace hB := hB.drew
  generalize World.drew _ = x0 at *
  have hS1 : (fun (v : World) => v.heap[g]? = some (.cells (stv h lg sl gd) 73 (0, 0)) ∧ v.heap[w.heap.size]? = some (.cells (kc b) 50 (0, 0))) x0 := ⟨hB.gr.blk (unhide hS), (hB.get 0 (x := ⟨w.heap.size, kc b, 50⟩) rfl)⟩
  simp only [List.size_toArray, List.length_cons, List.length_nil, Array.replicate, List.replicate]
  refine any_take (i := 0) (v := (.pointer (some ⟨g, 0, none⟩))) #[false, false, false, false, false, false, false, false, false, false, false, false, false, false] rfl (by kernel_rfl) (by kernel_rfl) (by kernel_rfl) (by kernel_rfl) (fun _ _ _ h => h) (.inl ⟨by kernel_rfl, fun x_ hu => by kernel_rfl⟩) hS1 ?_
  simp only [nrm]
  refine any_take (i := 1) (v := (.pointer (some ⟨g, 0, none⟩))) #[true, false, false, false, false, false, false, false, false, false, false, false, false, false] rfl (by kernel_rfl) (by kernel_rfl) (by kernel_rfl) (by kernel_rfl) (fun _ _ _ h => h) (.inl ⟨by kernel_rfl, fun x_ hu => by kernel_rfl⟩) hS1 ?_
  simp only [nrm]
  refine any_take (i := 2) (v := (.pointer (some ⟨g, 3, none⟩))) #[true, true, false, false, false, false, false, false, false, false, false, false, false, false] rfl (by kernel_rfl) (by kernel_rfl) (by kernel_rfl) (by kernel_rfl) (fun _ _ _ h => h) (.inl ⟨by kernel_rfl, fun x_ hu => by kernel_rfl⟩) hS1 ?_
  simp only [nrm]
  refine any_take (i := 3) (v := (.pointer (some ⟨gd, 0, none⟩))) #[true, true, true, false, false, false, false, false, false, false, false, false, false, false] rfl (by kernel_rfl) (by kernel_rfl) (by kernel_rfl) (by kernel_rfl) (fun _ _ _ h => h) (.inl ⟨by kernel_rfl, fun x_ hu => exec_pd _ (.tmp 16) rfl g 3 (by kernel_rfl) (some ⟨gd, 0, none⟩) (cell_of hu.1 (i := 3) rfl)⟩) hS1 ?_
  simp only [nrm]
  refine any_take (i := 4) (v := (.pointer (some ⟨g, 0, none⟩))) #[true, true, true, true, false, false, false, false, false, false, false, false, false, false] rfl (by kernel_rfl) (by kernel_rfl) (by kernel_rfl) (by kernel_rfl) (fun _ _ _ h => h) (.inl ⟨by kernel_rfl, fun x_ hu => by kernel_rfl⟩) hS1 ?_
  simp only [nrm]
  refine any_take (i := 5) (v := (.pointer (some ⟨g, 0, none⟩))) #[true, true, true, true, true, false, false, false, false, false, false, false, false, false] rfl (by kernel_rfl) (by kernel_rfl) (by kernel_rfl) (by kernel_rfl) (fun _ _ _ h => h) (.inl ⟨by kernel_rfl, fun x_ hu => by kernel_rfl⟩) hS1 ?_
  simp only [nrm]
  refine any_take (i := 6) (v := (.pointer (some ⟨g, 0, none⟩))) #[true, true, true, true, true, true, false, false, false, false, false, false, false, false] rfl (by kernel_rfl) (by kernel_rfl) (by kernel_rfl) (by kernel_rfl) (fun _ _ _ h => h) (.inl ⟨by kernel_rfl, fun x_ hu => by kernel_rfl⟩) hS1 ?_
  simp only [nrm]
  refine any_take (i := 7) (v := (.pointer (some ⟨g, 1, none⟩))) #[true, true, true, true, true, true, true, false, false, false, false, false, false, false] rfl (by kernel_rfl) (by kernel_rfl) (by kernel_rfl) (by kernel_rfl) (fun _ _ _ h => h) (.inl ⟨by kernel_rfl, fun x_ hu => by kernel_rfl⟩) hS1 ?_
  simp only [nrm]
  refine any_take (i := 8) (v := (.int .i64 (lg : Int))) #[true, true, true, true, true, true, true, true, false, false, false, false, false, false] rfl (by kernel_rfl) (by kernel_rfl) (by kernel_rfl) (by kernel_rfl) (fun _ _ _ h => h) (.inl ⟨by kernel_rfl, fun x_ hu => exec_i64 _ (.tmp 21) rfl g 1 (by kernel_rfl) _ (cell_of hu.1 (i := 1) rfl)⟩) hS1 ?_
  simp only [nrm]
  refine any_take (i := 9) (v := (.int .i64 i)) #[true, true, true, true, true, true, true, true, true, false, false, false, false, false] rfl (by kernel_rfl) (by kernel_rfl) (by kernel_rfl) (by kernel_rfl) (fun _ _ _ h => h) (.inl ⟨by kernel_rfl, fun x_ hu => by kernel_rfl⟩) hS1 ?_
  simp only [nrm]
  refine any_take (i := 10) (v := (.int .i64 k)) #[true, true, true, true, true, true, true, true, true, true, false, false, false, false] rfl (by kernel_rfl) (by kernel_rfl) (by kernel_rfl) (by kernel_rfl) (fun _ _ _ h => h) (.inl ⟨by kernel_rfl, fun x_ hu => by go_simp⟩) hS1 ?_
  simp only [nrm]
  refine any_take (i := 11) (v := (.agg (kc b))) #[true, true, true, true, true, true, true, true, true, true, true, false, false, false] rfl (by kernel_rfl) (by kernel_rfl) (by kernel_rfl) (by kernel_rfl) (fun _ _ _ h => h) (.inl ⟨by kernel_rfl, fun x_ hu => exec_arr _ 50 (.tmp 5) rfl (w.heap.size) (by kernel_rfl) (kc b) 50 _ hu.2 Tryd.underlying50 rfl (by rw [Tryd.infoB, kc_size, hbl])⟩) hS1 ?_
  simp only [nrm]
  refine any_one (i := 12) (by kernel_rfl) rfl (fun K_ hQ => ?_)
  refine step_callw (by kernel_rfl) 77 #[P0 gd, .int .i64 k, .agg (kc b)] (by kernel_rfl) ((dwrite_ok F gd m D (unhide hD) (by omega) k b (unhide hb) x0 ((unhide hL).gr hB.gr)).mono ?_)
  rintro r u2 ⟨F', rfl, h1, h2⟩
  refine ⟨_, rfl, ?_⟩
  have hZ : Hid (Ch F gd (D.writeD k b) (D.writeE k) w (.returned (.int .i64 (D.writeE k))) u2) := ⟨F', rfl, h1, hB.gr.chg h2⟩
  obtain ⟨we, hwe⟩ : ∃ x, x = D.writeE k := ⟨_, rfl⟩
  rw [← hwe] at hZ ⊢
  rw [← hwe] at hT
  clear hwe
  have hgF : g ∉ F := fun e => hap g e (by rw [(unhide hst).1]; exact List.mem_singleton.2 rfl)
  have h0F : w.heap.size ∉ F := fun e => by have := (unhide hL).lt _ e; omega
  replace hS1 : (fun (v : World) => v.heap[g]? = some (.cells (stv h lg sl gd) 73 (0, 0)) ∧ v.heap[w.heap.size]? = some (.cells (kc b) 50 (0, 0))) u2 := ⟨h2.blk hS1.1 hgF, h2.blk hS1.2 h0F⟩
  clear h1 h2 hB
  refine hQ.out _ _ hS1 (fun _ => ?_)
  clear hQ K_
  simp only [nrm]
  refine any_one (i := 13) (by kernel_rfl) rfl (fun K_ hQ => ?_)
  replace hQ := hide hQ
  go_simp
  refine (unhide hQ).out _ _ hS1 (fun _ => ?_)
  clear hQ K_
  refine any_done (by kernel_rfl) ?_
  clear hS1
  go_wp2_with fail
  rw [unhide hT]
  exact unhide hZ
theorem eq_M (k m : List Int) (hk : k.length = 16) (hm : m.length = 16) (w : World) : Sem.run Tryd.prog (Op.equalIn 10000 83 (.agg (kc k)) (.agg (kc m))) w = .ok (decide (k = m)) w := by
  obtain ⟨i0, hi0, _⟩ := info_parts Tryd.info_b
  rw [run_equalIn_array (P := Tryd.prog) w 9999 (kc k) (kc m) Tryd.underlying83 hi0, Tryd.cells_b]
  refine (eqs_b k m (by omega) 9998 _ (by intro i hi; simp at hi; omega) w).trans ?_
  congr 1
  rw [decide_eq_decide]
  constructor
  · intro h
    exact list_ext (by omega) fun i hi => h i (by simp; omega)
  · rintro rfl i _
    rfl
theorem exec_neM {a : Act} {o : Oper} (w : World) (x y : Operand) (ho : o.op = .binOp .neq 83 x y 83) (b d : List Int) (hb : b.length = 16) (hd : d.length = 16) (hx : a.eval x = .agg (kc b)) (hy : a.eval y = .agg (kc d)) (q : Bool) (hq : decide (b = d) = !q) : (execOp a.eval o).run Tryd.prog w = .ok (.value (.bool q)) w := by
  have h := eq_M b d hb hd w
  rw [hq] at h
  unfold execOp
  simp only [ho, hx, hy]
  cases q <;> go_simp
theorem cnt_right {b0 b1 : List Int} (h0 : BB b0) (h1 : BB b1) {s : Sup} (h : cntS b0 b1 = (s, true)) : s.Ok := by
  unfold cntS at h
  split at h
  · have e1 := congrArg Prod.fst h
    have e2 := congrArg Prod.snd h
    dsimp only at e1 e2
    rw [← e1]
    exact (right_eq h1 e2).1
  · have e1 := congrArg Prod.fst h
    have e2 := congrArg Prod.snd h
    dsimp only at e1 e2
    rw [← e1]
    exact (right_eq h0 e2).1
def Snp (L : List Int) (w : World) (r : Ending) (w' : World) : Prop := ∃ v, r = .returned (.tuple #[v, .int .i64 0]) ∧ Ob w.heap.size w' v L ∧ Gr w w'
theorem ly_range {v : World} {g h lg sl gd : Nat} {t : TypeId} (hc : v.heap[g]? = some (.cells (stv h lg sl gd) t (0, 0))) : v.rangeAt g 0 [.int .i64 (h : Int), .int .i64 (lg : Int), .int .i64 (sl : Int)] := fun j x hj => by
  refine cell_of hc ?_
  have hlt := (List.getElem?_eq_some_iff.1 hj).1
  simp only [List.length_cons, List.length_nil] at hlt
  have : j = 0 ∨ j = 1 ∨ j = 2 := by omega
  rcases this with rfl | rfl | rfl <;> exact hj
set_option maxHeartbeats 4000000 in
theorem esnap_ok (F G : List Nat) (g gd m : Nat) (D : Dk) (s : Sup) (L : List Int) (hD : D.Ok m) (hm : m ≤ 900000) (hd : D.dead = false) (hn : 64 ≤ D.safe.length) (w : World) (hL : Lies F gd D w) (hs : Sto G g gd D.safe.length s w) (ho : Os D ((D.safe.length - 2) / 4) s L) (hf : Fst w) : Calls Tryd.prog 31 #[P0 g] w (Snp L w) := by
  obtain ⟨T, hT⟩ : ∃ T, T = Snp L w := ⟨_, rfl⟩
  rw [← hT]
  replace hT := hide hT
  have h512 := hD.hi1
  have c0 := Dk.cur_bb hD 0 (by omega)
  have c1 := Dk.cur_bb hD 1 (by omega)
  have hst := hide hs
  obtain ⟨h, lg, sl, hh, hlg, hsl, hq⟩ := stN_is D.safe.length gd
  obtain ⟨-, hS⟩ := hs
  rw [hq] at hS
  clear hq
  have hcn := ho.cnt
  have hfit := ho.fit
  have hsn := ho.snap
  have hha := ho.hash
  rw [← hh] at hfit hsn
  have hok := cnt_right c0 c1 hcn
  have hpl := hok.p
  have hzz := hok.z
  have hhl := hok.hl
  have hhb : h ≤ 1000 := by omega
  obtain ⟨rm, hrm⟩ : ∃ x, x = 64 * h := ⟨_, rfl⟩
  have hrm2 : rm ≤ 10000 := by omega
  have w1 : IntKind.u64.wrap (s.size : Int) = (s.size : Int) := by rw [IntKind.wrap_u64]; omega
  have w2 : IntKind.u64.wrap (rm : Int) = (rm : Int) := by rw [IntKind.wrap_u64]; omega
  have w3 : IntKind.i64.wrap (s.size : Int) = (s.size : Int) := by rw [IntKind.wrap_i64]; omega
  have hgt : ¬ (rm : Int) < (s.size : Int) := by omega
  obtain ⟨o, hoo⟩ : ∃ x, x = 2 + s.place * h := ⟨_, rfl⟩
  have hoz : o + (s.size + 63) / 64 ≤ D.safe.length := by
    have hp2 : s.place = 0 ∨ s.place = 1 := by omega
    rcases hp2 with e | e <;> rw [e] at hoo <;> simp only [Nat.zero_mul, Nat.one_mul, Nat.add_zero] at hoo <;> omega
  have hrow : (rows D.cur o ((s.size + 63) / 64)).take s.size = L := by rw [← hsn, hoo]; rfl
  have hLb : IsB L := by
    rw [← hrow]
    exact fun x hx => (rows_len _ (fun i hi => Dk.cur_bb hD (o + i) (by omega))).2 x (List.mem_of_mem_take hx)
  have hLl : L.length = s.size := by
    rw [← hrow, List.length_take, (rows_len _ (fun i hi => Dk.cur_bb hD (o + i) (by omega))).1]
    omega
  replace hL := hide hL; replace hD := hide hD; replace hf := hide hf; replace hS := hide hS; replace ho := hide ho
  replace hcn := hide hcn; replace hsn := hide hsn; replace hha := hide hha; replace hok := hide hok
  replace hoo := hide hoo; replace hrow := hide hrow; replace hLb := hide hLb; replace hLl := hide hLl
  replace hh := hide hh; replace hlg := hide hlg; replace hsl := hide hsl; replace c0 := hide c0; replace c1 := hide c1
  replace hrm := hide hrm
  go_enter Tryd.func31, Tryd.ntmps31
  go_upto_region 1 with fail
  refine wp_region_lit ?_
  refine list_val (.pointer (some ⟨g, 0, none⟩)) (by kernel_rfl) (by kernel_rfl) ?_
  simp only [nrm]
  refine list_val (.bool false) (by kernel_rfl) (by kernel_rfl) ?_
  simp only [nrm]
  refine wpList_nil ?_
  have hB := Bl.nil w
  replace hB := hide hB
  go_upto_region 3 with fail
  replace hB := unhide hB
  refine wp_region_lit ?_
  refine list_val (.pointer (some ⟨g, 0, none⟩)) (by kernel_rfl) (by kernel_rfl) ?_
  simp only [nrm]
  refine list_val (.pointer (some ⟨g, 0, none⟩)) (by kernel_rfl) (by kernel_rfl) ?_
  simp only [nrm]
  refine list_val (.pointer (some ⟨g, 3, none⟩)) (by kernel_rfl) (by kernel_rfl) ?_
  simp only [nrm]
  refine list_val (.pointer (some ⟨gd, 0, none⟩)) (by kernel_rfl) (exec_pd _ (.tmp 12) rfl g 3 (by kernel_rfl) (some ⟨gd, 0, none⟩) (cell_of (hB.gr.blk (unhide hS)) (i := 3) rfl)) ?_
  simp only [nrm]
  refine list_call 43 #[P0 gd] (by kernel_rfl) (by kernel_rfl) ((current_ok F gd m D (unhide hD) hm hd (by omega) _ ((unhide hL).gr hB.gr) ((unhide hf).gr hB.gr)).mono ?_)
  rintro r u1 ⟨rfl, hg⟩
  rw [unhide hcn]
  dsimp only
  rw [if_pos rfl, if_pos rfl]
  replace hB := hB.more hg
  clear hg
  refine ⟨_, rfl, ?_⟩
  simp only [nrm]
  refine list_val (.tuple #[.agg (spv s), .int .i64 0]) (by kernel_rfl) (by kernel_rfl) ?_
  simp only [nrm]
  refine list_val (.agg (spv s)) (by kernel_rfl) (by kernel_rfl) ?_
  simp only [nrm]
  refine list_val (.int .i64 0) (by kernel_rfl) (by kernel_rfl) ?_
  simp only [nrm]
  refine list_valw (.pointer (some ⟨u1.heap.size, 0, none⟩)) (u1.alloc (.cells (spv ZSp) 85 (0, 0))) (by kernel_rfl) (by kernel_rfl) ?_
  replace hB := hB.new (spv ZSp) 85
  simp only [List.nil_append, List.cons_append] at hB
  generalize World.alloc _ _ = u2 at *
  generalize u1.heap.size = gn at *
  replace hB : Bl w [⟨gn, spv ZSp, 85⟩] u2 := hB
  simp only [nrm]
  refine list_store 85 (.tmp 4) (.tmp 15) (gn) (spv s) 85 (spv ZSp) (by kernel_rfl) rfl (by kernel_rfl) (by kernel_rfl) (hB.get 0 (x := ⟨gn, spv ZSp, 85⟩) rfl) (by rw [Tryd.infoSp, spv_size (s := s) hhl]) (by rw [spv_size (s := s) hhl, spv_size (s := ZSp) ZSp_hl]) (spv_one _) ?_
  replace hB := hB.set 0 (x := ⟨gn, spv ZSp, 85⟩) rfl (spv s)
  simp only [List.set_cons_zero, List.set_cons_succ] at hB
  generalize World.setRow _ _ _ = u3 at *
  replace hB : Bl w [⟨gn, spv s, 85⟩] u3 := hB
  simp only [nrm]
  (refine wpList_step fun K hK => ?_; replace hK := hide hK; go_simp; refine unhide hK _ _ ?_; clear hK K)
  refine wpList_nil ?_
  replace hB := hide hB
  go_upto_region 6 with fail
  replace hB := unhide hB
  refine any_start (S := fun (v : World) => v.heap[gn]? = some (.cells (spv s) 85 (0, 0))) (by kernel_rfl) ?_
  replace hB := hB.drew
  generalize World.drew _ = x0 at *
  have hS1 : (fun (v : World) => v.heap[gn]? = some (.cells (spv s) 85 (0, 0))) x0 := (hB.get 0 (x := ⟨gn, spv s, 85⟩) rfl)
  simp only [List.size_toArray, List.length_cons, List.length_nil, Array.replicate, List.replicate]
  refine any_take (i := 0) (v := (.pointer (some ⟨gn, 2, none⟩))) #[false, false, false, false, false, false, false] rfl (by kernel_rfl) (by kernel_rfl) (by kernel_rfl) (by kernel_rfl) (fun _ _ _ h => h) (.inl ⟨by kernel_rfl, fun x_ hu => by kernel_rfl⟩) hS1 ?_
  simp only [nrm]
  refine any_take (i := 1) (v := (.int .u32 (s.size : Int))) #[true, false, false, false, false, false, false] rfl (by kernel_rfl) (by kernel_rfl) (by kernel_rfl) (by kernel_rfl) (fun _ _ _ h => h) (.inl ⟨by kernel_rfl, fun x_ hu => exec_w32 _ (.tmp 20) rfl gn 2 (by kernel_rfl) _ (spv_cells hu).2.2⟩) hS1 ?_
  simp only [nrm]
  refine any_take (i := 2) (v := (.int .u64 (s.size : Int))) #[true, true, false, false, false, false, false] rfl (by kernel_rfl) (by kernel_rfl) (by kernel_rfl) (by kernel_rfl) (fun _ _ _ h => h) (.inl ⟨by kernel_rfl, fun x_ hu => by go_simp⟩) hS1 ?_
  simp only [nrm]
  refine any_take (i := 3) (v := (.pointer (some ⟨g, 0, none⟩))) #[true, true, true, false, false, false, false] rfl (by kernel_rfl) (by kernel_rfl) (by kernel_rfl) (by kernel_rfl) (fun _ _ _ h => h) (.inl ⟨by kernel_rfl, fun x_ hu => by kernel_rfl⟩) hS1 ?_
  simp only [nrm]
  refine any_one (i := 4) (by kernel_rfl) rfl (fun K_ hQ => ?_)
  refine step_callw (by kernel_rfl) 19 #[P0 g] (by kernel_rfl) ((room_ok G g gd D.safe.length s (by omega) x0 ((unhide hst).gr hB.gr)).mono ?_)
  rintro r u4 ⟨rfl, hg⟩
  refine ⟨_, rfl, ?_⟩
  rw [← unhide hh, ← unhide hrm]
  replace hB := hB.more hg
  replace hS1 : (fun (v : World) => v.heap[gn]? = some (.cells (spv s) 85 (0, 0))) u4 := hg.blk hS1
  clear hg
  refine hQ.out _ _ hS1 (fun _ => ?_)
  clear hQ K_
  simp only [nrm]
  refine any_take (i := 5) (v := (.int .u64 (rm : Int))) #[true, true, true, true, true, false, false] rfl (by kernel_rfl) (by kernel_rfl) (by kernel_rfl) (by kernel_rfl) (fun _ _ _ h => h) (.inl ⟨by kernel_rfl, fun x_ hu => by go_simp⟩) hS1 ?_
  simp only [nrm]
  refine any_take (i := 6) (v := (.bool false)) #[true, true, true, true, true, true, false] rfl (by kernel_rfl) (by kernel_rfl) (by kernel_rfl) (by kernel_rfl) (fun _ _ _ h => h) (.inl ⟨by kernel_rfl, fun x_ hu => by go_simp⟩) hS1 ?_
  simp only [nrm]
  refine any_done (by kernel_rfl) ?_
  clear hS1 w1 w2
  clear hgt
  replace hB := hide hB
  go_upto_region 8 with fail
  replace hB := unhide hB
  refine any_start (S := fun (v : World) => v.heap[gn]? = some (.cells (spv s) 85 (0, 0)) ∧ v.heap[g]? = some (.cells (stv h lg sl gd) 73 (0, 0))) (by kernel_rfl) ?_
  replace hB := hB.drew
  generalize World.drew _ = x1 at *
  have hS1 : (fun (v : World) => v.heap[gn]? = some (.cells (spv s) 85 (0, 0)) ∧ v.heap[g]? = some (.cells (stv h lg sl gd) 73 (0, 0))) x1 := ⟨(hB.get 0 (x := ⟨gn, spv s, 85⟩) rfl), hB.gr.blk (unhide hS)⟩
  simp only [List.size_toArray, List.length_cons, List.length_nil, Array.replicate, List.replicate]
  refine any_take (i := 0) (v := (.pointer (some ⟨g, 0, none⟩))) #[false, false, false, false, false, false, false, false, false, false, false, false, false, false, false, false, false] rfl (by kernel_rfl) (by kernel_rfl) (by kernel_rfl) (by kernel_rfl) (fun _ _ _ h => h) (.inl ⟨by kernel_rfl, fun x_ hu => by kernel_rfl⟩) hS1 ?_
  simp only [nrm]
  refine any_take (i := 1) (v := (.pointer (some ⟨g, 0, none⟩))) #[true, false, false, false, false, false, false, false, false, false, false, false, false, false, false, false, false] rfl (by kernel_rfl) (by kernel_rfl) (by kernel_rfl) (by kernel_rfl) (fun _ _ _ h => h) (.inl ⟨by kernel_rfl, fun x_ hu => by kernel_rfl⟩) hS1 ?_
  simp only [nrm]
  refine any_take (i := 2) (v := (.pointer (some ⟨g, 0, none⟩))) #[true, true, false, false, false, false, false, false, false, false, false, false, false, false, false, false, false] rfl (by kernel_rfl) (by kernel_rfl) (by kernel_rfl) (by kernel_rfl) (fun _ _ _ h => h) (.inl ⟨by kernel_rfl, fun x_ hu => by kernel_rfl⟩) hS1 ?_
  simp only [nrm]
  refine any_take (i := 3) (v := (.pointer (some ⟨g, 0, none⟩))) #[true, true, true, false, false, false, false, false, false, false, false, false, false, false, false, false, false] rfl (by kernel_rfl) (by kernel_rfl) (by kernel_rfl) (by kernel_rfl) (fun _ _ _ h => h) (.inl ⟨by kernel_rfl, fun x_ hu => by kernel_rfl⟩) hS1 ?_
  simp only [nrm]
  refine any_take (i := 4) (v := (.agg (lyv h lg sl))) #[true, true, true, true, false, false, false, false, false, false, false, false, false, false, false, false, false] rfl (by kernel_rfl) (by kernel_rfl) (by kernel_rfl) (by kernel_rfl) (fun _ _ _ h => h) (.inl ⟨by kernel_rfl, fun x_ hu => exec_row _ 71 (.tmp 31) rfl g 0 (by kernel_rfl) [.int .i64 (h : Int), .int .i64 (lg : Int), .int .i64 (sl : Int)] _ (ly_range hu.2) Tryd.underlying71 rfl (by rw [Tryd.infoLy]; rfl)⟩) hS1 ?_
  simp only [nrm]
  refine any_take (i := 5) (v := (.pointer (some ⟨gn, 0, none⟩))) #[true, true, true, true, true, false, false, false, false, false, false, false, false, false, false, false, false] rfl (by kernel_rfl) (by kernel_rfl) (by kernel_rfl) (by kernel_rfl) (fun _ _ _ h => h) (.inl ⟨by kernel_rfl, fun x_ hu => by kernel_rfl⟩) hS1 ?_
  simp only [nrm]
  refine any_take (i := 6) (v := (.int .u8 (s.place : Int))) #[true, true, true, true, true, true, false, false, false, false, false, false, false, false, false, false, false] rfl (by kernel_rfl) (by kernel_rfl) (by kernel_rfl) (by kernel_rfl) (fun _ _ _ h => h) (.inl ⟨by kernel_rfl, fun x_ hu => exec_b _ (.tmp 33) rfl gn 0 (by kernel_rfl) _ (spv_cells hu.1).1⟩) hS1 ?_
  simp only [nrm]
  refine any_take (i := 8) (v := (.pointer (some ⟨gn, 2, none⟩))) #[true, true, true, true, true, true, true, false, false, false, false, false, false, false, false, false, false] rfl (by kernel_rfl) (by kernel_rfl) (by kernel_rfl) (by kernel_rfl) (fun _ _ _ h => h) (.inl ⟨by kernel_rfl, fun x_ hu => by kernel_rfl⟩) hS1 ?_
  simp only [nrm]
  refine any_take (i := 9) (v := (.int .u32 (s.size : Int))) #[true, true, true, true, true, true, true, false, true, false, false, false, false, false, false, false, false] rfl (by kernel_rfl) (by kernel_rfl) (by kernel_rfl) (by kernel_rfl) (fun _ _ _ h => h) (.inl ⟨by kernel_rfl, fun x_ hu => exec_w32 _ (.tmp 36) rfl gn 2 (by kernel_rfl) _ (spv_cells hu.1).2.2⟩) hS1 ?_
  simp only [nrm]
  refine any_take (i := 10) (v := (.int .i64 (s.size : Int))) #[true, true, true, true, true, true, true, false, true, true, false, false, false, false, false, false, false] rfl (by kernel_rfl) (by kernel_rfl) (by kernel_rfl) (by kernel_rfl) (fun _ _ _ h => h) (.inl ⟨by kernel_rfl, fun x_ hu => by go_simp⟩) hS1 ?_
  simp only [nrm]
  refine any_one (i := 7) (by kernel_rfl) rfl (fun K_ hQ => ?_)
  refine step_callw (by kernel_rfl) 53 #[.agg (lyv h lg sl), .int .u8 (s.place : Int)] (by kernel_rfl) ((start_ok h lg sl s.place (by omega) (by omega) x1).mono ?_)
  rintro r u5 ⟨rfl, hg⟩
  refine ⟨_, rfl, ?_⟩
  rw [← unhide hoo]
  replace hB := hB.more hg
  replace hS1 : (fun (v : World) => v.heap[gn]? = some (.cells (spv s) 85 (0, 0)) ∧ v.heap[g]? = some (.cells (stv h lg sl gd) 73 (0, 0))) u5 := ⟨hg.blk hS1.1, hg.blk hS1.2⟩
  clear hg
  refine hQ.out _ _ hS1 (fun _ => ?_)
  clear hQ K_
  simp only [nrm]
  refine any_one (i := 11) (by kernel_rfl) rfl (fun K_ hQ => ?_)
  refine step_callw (by kernel_rfl) 52 #[P0 g, .int .i64 (o : Int), .int .i64 (s.size : Int)] (by kernel_rfl) ((sfetch_ok F g gd m h lg sl D (unhide hD) (by omega) hd u5 ((unhide hL).gr hB.gr) hS1.2 o s.size hoz).mono ?_)
  rintro r u6 ⟨vb, rfl, hO, hg⟩
  refine ⟨_, rfl, ?_⟩
  rw [unhide hrow] at hO
  have hO2 := hide (ob_base hO hB.gr.size)
  clear hO
  replace hB := hB.more hg
  replace hS1 : (fun (v : World) => v.heap[gn]? = some (.cells (spv s) 85 (0, 0)) ∧ v.heap[g]? = some (.cells (stv h lg sl gd) 73 (0, 0))) u6 := ⟨hg.blk hS1.1, hg.blk hS1.2⟩
  clear hg
  refine hQ.out _ _ hS1 (fun _ => ?_)
  clear hQ K_
  simp only [nrm]
  refine any_take (i := 12) (v := (.tuple #[vb, .int .i64 0])) #[true, true, true, true, true, true, true, true, true, true, true, true, false, false, false, false, false] rfl (by kernel_rfl) (by kernel_rfl) (by kernel_rfl) (by kernel_rfl) (fun _ _ _ h => h) (.inl ⟨by kernel_rfl, fun x_ hu => by kernel_rfl⟩) hS1 ?_
  simp only [nrm]
  refine any_take (i := 13) (v := vb) #[true, true, true, true, true, true, true, true, true, true, true, true, true, false, false, false, false] rfl (by kernel_rfl) (by kernel_rfl) (by kernel_rfl) (by kernel_rfl) (fun _ _ _ h => h) (.inl ⟨by kernel_rfl, fun x_ hu => by kernel_rfl⟩) hS1 ?_
  simp only [nrm]
  refine any_take (i := 14) (v := (.int .i64 0)) #[true, true, true, true, true, true, true, true, true, true, true, true, true, true, false, false, false] rfl (by kernel_rfl) (by kernel_rfl) (by kernel_rfl) (by kernel_rfl) (fun _ _ _ h => h) (.inl ⟨by kernel_rfl, fun x_ hu => by kernel_rfl⟩) hS1 ?_
  simp only [nrm]
  refine any_one (i := 15) (by kernel_rfl) rfl (fun K_ hQ => ?_)
  replace hQ := hide hQ
  go_simp
  refine (unhide hQ).out _ _ hS1 (fun _ => ?_)
  clear hQ K_
  refine any_one (i := 16) (by kernel_rfl) rfl (fun K_ hQ => ?_)
  replace hQ := hide hQ
  go_simp
  refine (unhide hQ).out _ _ hS1 (fun _ => ?_)
  clear hQ K_
  refine any_done (by kernel_rfl) ?_
  clear hS1 w3
  obtain ⟨ab, cb, rfl, hlb⟩ := ob_lb (unhide hO2) (unhide hLb) (n := s.size) (unhide hLl)
  replace hlb := hide hlb
  replace hB := hide hB
  go_upto_region 11 with fail
  replace hB := unhide hB
  refine any_start (S := fun (v : World) => v.heap[gn]? = some (.cells (spv s) 85 (0, 0))) (by kernel_rfl) ?_
  have hgx := (Gr.refl u6).drew
  replace hB := hB.drew
  generalize World.drew _ = x2 at *
  have hS1 : (fun (v : World) => v.heap[gn]? = some (.cells (spv s) 85 (0, 0))) x2 := (hB.get 0 (x := ⟨gn, spv s, 85⟩) rfl)
  simp only [List.size_toArray, List.length_cons, List.length_nil, Array.replicate, List.replicate]
  refine any_take (i := 0) (v := (.slice ab s.size cb)) #[false, false, false, false, false] rfl (by kernel_rfl) (by kernel_rfl) (by kernel_rfl) (by kernel_rfl) (fun _ _ _ h => h) (.inl ⟨by kernel_rfl, fun x_ hu => by kernel_rfl⟩) hS1 ?_
  simp only [nrm]
  refine any_take (i := 2) (v := (.pointer (some ⟨gn, 3, none⟩))) #[true, false, false, false, false] rfl (by kernel_rfl) (by kernel_rfl) (by kernel_rfl) (by kernel_rfl) (fun _ _ _ h => h) (.inl ⟨by kernel_rfl, fun x_ hu => by kernel_rfl⟩) hS1 ?_
  simp only [nrm]
  refine any_take (i := 3) (v := (.agg (kc s.hash))) #[true, false, true, false, false] rfl (by kernel_rfl) (by kernel_rfl) (by kernel_rfl) (by kernel_rfl) (fun _ _ _ h => h) (.inl ⟨by kernel_rfl, fun x_ hu => exec_row _ 83 (.tmp 47) rfl gn 3 (by kernel_rfl) (bv s.hash) _ (spv_range hu) Tryd.underlying83 rfl (by rw [Tryd.infoMk, bv_len, hhl])⟩) hS1 ?_
  simp only [nrm]
  refine any_one (i := 1) (by kernel_rfl) rfl (fun K_ hQ => ?_)
  refine step_callw (by kernel_rfl) 54 #[.slice ab s.size cb] (by kernel_rfl) ((digest_ok L ab s.size cb x2 ((unhide hlb).gr hgx) (by omega) ((unhide hf).gr hB.gr)).mono ?_)
  rintro r u7 ⟨rfl, hg⟩
  refine ⟨_, rfl, ?_⟩
  have hHl := sh16_len L
  have hHq : Hid (decide (sh16 L = s.hash) = true) := decide_eq_true (unhide hha).symm
  generalize sh16 L = HH at *
  replace hB := hB.more hg
  replace hS1 : (fun (v : World) => v.heap[gn]? = some (.cells (spv s) 85 (0, 0))) u7 := hg.blk hS1
  replace hgx := hgx.trans hg
  clear hg
  refine hQ.out _ _ hS1 (fun _ => ?_)
  clear hQ K_
  simp only [nrm]
  refine any_take (i := 4) (v := (.bool false)) #[true, true, true, true, false] rfl (by kernel_rfl) (by kernel_rfl) (by kernel_rfl) (by kernel_rfl) (fun _ _ _ h => h) (.inl ⟨by kernel_rfl, fun x_ hu => exec_neM _ (.tmp 46) (.tmp 48) rfl HH s.hash hHl hhl (by kernel_rfl) (by kernel_rfl) false (by rw [unhide hHq]; rfl)⟩) hS1 ?_
  simp only [nrm]
  refine any_done (by kernel_rfl) ?_
  have hZ : Hid (Snp L w (.returned (.tuple #[.slice ab s.size cb, .int .i64 0])) u7) := ⟨_, rfl, (unhide hO2).gr hgx, hB.gr⟩
  replace hB := hide hB
  clear hS1 hgx
  go_wp2_with fail
  rw [unhide hT]
  exact unhide hZ
set_option maxHeartbeats 4000000 in
theorem turn_ok (F G : List Nat) (g gd m : Nat) (D : Dk) (s : Sup) (hD : D.Ok m) (hm : m ≤ 900000) (hd : D.dead = false) (hn : 2 ≤ D.safe.length) (w : World) (hL : Lies F gd D w) (hs : Sto G g gd D.safe.length s w) (hcn : cntS (D.cur 0) (D.cur 1) = (s, true)) (hf : Fst w) : Calls Tryd.prog 22 #[P0 g] w (Vl (.int .u64 (s.turn : Int)) w) := by
  obtain ⟨T, hT⟩ : ∃ T, T = Vl (.int .u64 (s.turn : Int)) w := ⟨_, rfl⟩
  rw [← hT]
  replace hT := hide hT
  have c0 := Dk.cur_bb hD 0 (by omega)
  have c1 := Dk.cur_bb hD 1 (by omega)
  have hhl := (cnt_right c0 c1 hcn).hl
  obtain ⟨h, lg, sl, hh, hlg, hsl, hq⟩ := stN_is D.safe.length gd
  obtain ⟨-, hS⟩ := hs
  rw [hq] at hS
  clear hq hh hlg hsl c0 c1
  replace hL := hide hL; replace hD := hide hD; replace hf := hide hf; replace hS := hide hS; replace hcn := hide hcn
  go_enter Tryd.func22, Tryd.ntmps22
  go_upto_region 1 with fail
  refine wp_region_lit ?_
  refine list_val (.pointer (some ⟨g, 0, none⟩)) (by kernel_rfl) (by kernel_rfl) ?_
  simp only [nrm]
  refine list_val (.bool false) (by kernel_rfl) (by kernel_rfl) ?_
  simp only [nrm]
  refine wpList_nil ?_
  go_upto_region 3 with fail
  refine wp_region_lit ?_
  refine list_val (.pointer (some ⟨g, 0, none⟩)) (by kernel_rfl) (by kernel_rfl) ?_
  simp only [nrm]
  refine list_val (.pointer (some ⟨g, 0, none⟩)) (by kernel_rfl) (by kernel_rfl) ?_
  simp only [nrm]
  refine list_val (.pointer (some ⟨g, 3, none⟩)) (by kernel_rfl) (by kernel_rfl) ?_
  simp only [nrm]
  refine list_val (.pointer (some ⟨gd, 0, none⟩)) (by kernel_rfl) (exec_pd _ (.tmp 10) rfl g 3 (by kernel_rfl) (some ⟨gd, 0, none⟩) (cell_of (unhide hS) (i := 3) rfl)) ?_
  simp only [nrm]
  (refine wpList_step fun K hK => ?_; replace hK := hide hK; go_simp; refine unhide hK _ _ ?_; clear hK K)
  refine wpList_nil ?_
  have hB := Bl.nil w
  replace hB := hide hB
  go_upto_region 4 with fail
  replace hB := unhide hB
  refine wp_region_lit ?_
  refine list_val (.pointer (some ⟨gd, 0, none⟩)) (by kernel_rfl) (by kernel_rfl) ?_
  simp only [nrm]
  refine list_call 40 #[.pointer (some ⟨gd, 0, none⟩)] (by kernel_rfl) (by kernel_rfl) ((ddead_ok F gd m D (unhide hD) (by omega) _ ((unhide hL).gr hB.gr)).mono ?_)
  rintro r u0 ⟨rfl, hg⟩
  refine ⟨_, rfl, ?_⟩
  rw [hd]
  replace hB := hB.more hg
  clear hg
  simp only [nrm]
  refine wpList_nil ?_
  replace hB := hide hB
  go_upto_region 7 with fail
  replace hB := unhide hB
  refine wp_region_lit ?_
  refine list_val (.pointer (some ⟨gd, 0, none⟩)) (by kernel_rfl) (by kernel_rfl) ?_
  simp only [nrm]
  refine list_call 43 #[P0 gd] (by kernel_rfl) (by kernel_rfl) ((current_ok F gd m D (unhide hD) hm hd (by omega) _ ((unhide hL).gr hB.gr) ((unhide hf).gr hB.gr)).mono ?_)
  rintro r u1 ⟨rfl, hg⟩
  rw [unhide hcn]
  dsimp only
  rw [if_pos rfl, if_pos rfl]
  replace hB := hB.more hg
  clear hg
  refine ⟨_, rfl, ?_⟩
  simp only [nrm]
  refine list_val (.tuple #[.agg (spv s), .int .i64 0]) (by kernel_rfl) (by kernel_rfl) ?_
  simp only [nrm]
  refine list_val (.agg (spv s)) (by kernel_rfl) (by kernel_rfl) ?_
  simp only [nrm]
  refine list_val (.int .i64 0) (by kernel_rfl) (by kernel_rfl) ?_
  simp only [nrm]
  refine list_valw (.pointer (some ⟨u1.heap.size, 0, none⟩)) (u1.alloc (.cells (spv ZSp) 85 (0, 0))) (by kernel_rfl) (by kernel_rfl) ?_
  replace hB := hB.new (spv ZSp) 85
  simp only [List.nil_append, List.cons_append] at hB
  generalize World.alloc _ _ = u2 at *
  generalize u1.heap.size = gn at *
  replace hB : Bl w [⟨gn, spv ZSp, 85⟩] u2 := hB
  simp only [nrm]
  refine list_store 85 (.tmp 4) (.tmp 21) (gn) (spv s) 85 (spv ZSp) (by kernel_rfl) rfl (by kernel_rfl) (by kernel_rfl) (hB.get 0 (x := ⟨gn, spv ZSp, 85⟩) rfl) (by rw [Tryd.infoSp, spv_size (s := s) hhl]) (by rw [spv_size (s := s) hhl, spv_size (s := ZSp) ZSp_hl]) (spv_one _) ?_
  replace hB := hB.set 0 (x := ⟨gn, spv ZSp, 85⟩) rfl (spv s)
  simp only [List.set_cons_zero, List.set_cons_succ] at hB
  generalize World.setRow _ _ _ = u3 at *
  replace hB : Bl w [⟨gn, spv s, 85⟩] u3 := hB
  simp only [nrm]
  (refine wpList_step fun K hK => ?_; replace hK := hide hK; go_simp; refine unhide hK _ _ ?_; clear hK K)
  refine wpList_nil ?_
  replace hB := hide hB
  go_upto_region 8 with fail
  replace hB := unhide hB
  refine wp_region_lit ?_
  refine list_val (.pointer (some ⟨gn, 1, none⟩)) (by kernel_rfl) (by kernel_rfl) ?_
  simp only [nrm]
  refine list_val (.int .u64 (s.turn : Int)) (by kernel_rfl) (exec_u64 _ (.tmp 23) rfl gn 1 (by kernel_rfl) _ (spv_cells (hB.get 0 (x := ⟨gn, spv s, 85⟩) rfl)).2.1) ?_
  simp only [nrm]
  (refine wpList_step fun K hK => ?_; replace hK := hide hK; go_simp; refine unhide hK _ _ ?_; clear hK K)
  refine wpList_nil ?_
  have hZ : Hid (Vl (.int .u64 (s.turn : Int)) w (.returned (.int .u64 (s.turn : Int))) u3) := ⟨rfl, hB.gr⟩
  replace hB := hide hB
  go_wp2_with fail
  rw [unhide hT]
  exact unhide hZ
theorem chg_app {F F' : List Nat} {w u : World} (h : Chg F F' w u) (G : List Nat) : Chg (F ++ G) (F' ++ G) w u :=
  ⟨h.os, h.tape, h.output, h.size, fun i hi hn => h.block i hi (fun e => hn (List.mem_append_left _ e)), fun i hi => by
    rcases List.mem_append.1 hi with hi | hi
    · exact (h.new i hi).imp (List.mem_append_left _) id
    · exact .inl (List.mem_append_right _ hi)⟩
theorem Fst.chg {F F' : List Nat} {w v : World} (h : Fst w) (k : Chg F F' w v) (h0 : 0 ∉ F) : Fst v := fun j x hj => k.cell (h j x hj) h0
theorem chk_self {b : List Int} (hb : b.length = 64) : chk b 0 = b := by
  unfold chk
  rw [Nat.mul_zero, List.drop_zero, List.take_of_length_le (by omega), hb, Nat.sub_self, List.replicate_zero, List.append_nil]
theorem lay_one {q : Nat} {b : List Int} (hb : b.length = 64) : layOps q b = [some (q, b), none] := by
  have e : wrs q b 1 = [(q, chk b 0)] := rfl
  unfold layOps
  rw [hb, show (64 + 63) / 64 = 1 from rfl, e, chk_self hb]
  rfl
theorem take_lay {s : Sup} {h : Nat} {M : List Int} (hok : (s.next M).Ok) : takeOps s h M = layOps (2 + (1 - s.place) * h) M ++ layOps ((s.turn + 1) % 2) (s.next M).blk := by
  have hb := (blk_bb hok).1
  unfold takeOps
  generalize (s.next M).blk = bk at *
  rw [lay_one hb]
  unfold layOps
  rw [List.append_assoc]
  rfl
theorem lay_bb {o : Nat} {M : List Int} (hM : IsB M) : ∀ x, some x ∈ layOps o M → BB x.2 := by
  intro x hx
  unfold layOps at hx
  rcases List.mem_append.1 hx with hx | hx
  · obtain ⟨y, hy, e⟩ := List.mem_map.1 hx
    have e2 := Option.some.inj e
    subst e2
    unfold wrs at hy
    obtain ⟨i, _, rfl⟩ := List.mem_map.1 hy
    exact chk_bb hM i
  · rw [List.mem_singleton] at hx
    cases hx
theorem lay_ops_len (o : Nat) (M : List Int) : (layOps o M).length = (M.length + 63) / 64 + 1 := by
  unfold layOps
  rw [List.length_append, List.length_map, wrs_len]
  rfl
def NX (b : Nat) (u : World) (q : Value) : Prop := ∃ g, q = .pointer (some ⟨g, 0, none⟩) ∧ b ≤ g ∧ u.heap[g]? = some (.cells (spv ZSp) 85 (0, 0))
theorem NX.gr {b : Nat} {u v : World} {q : Value} (h : NX b u q) (k : Gr u v) : NX b v q := by
  obtain ⟨g, h1, h2, h3⟩ := h
  exact ⟨g, h1, h2, k.blk h3⟩
def Tk (F G : List Nat) (g gd n : Nat) (D : Dk) (s : Sup) (M : List Int) (w : World) (r : Ending) (w' : World) : Prop := ∃ F' G', r = .returned (.int .i64 (Dk.runD (takeOps s ((n - 2) / 4) M) D).2) ∧ Lies F' gd (Dk.runD (takeOps s ((n - 2) / 4) M) D).1 w' ∧ Sto G' g gd n (if (Dk.runD (takeOps s ((n - 2) / 4) M) D).2 = 0 then s.next M else s) w' ∧ (∀ i ∈ F', i ∉ G') ∧ Chg (F ++ G) (F' ++ G') w w'
set_option maxHeartbeats 4000000 in
theorem etake_long (F G : List Nat) (g gd m : Nat) (D : Dk) (s : Sup) (hD : D.Ok m) (hm : m ≤ 900000) (w : World) (hL : Lies F gd D w) (hs : Sto G g gd D.safe.length s w) (a : Option Addr) (n c : Nat) (hbig : 64 * ((D.safe.length - 2) / 4) < n) (hn : n < 9223372036854775808) : Calls Tryd.prog 36 #[P0 g, .slice a n c] w (Vl (.int .i64 3) w) := by
  obtain ⟨T, hT⟩ : ∃ T, T = Vl (.int .i64 3) w := ⟨_, rfl⟩
  rw [← hT]
  replace hT := hide hT
  have h512 := hD.hi1
  obtain ⟨rm, hrm⟩ : ∃ x, x = 64 * ((D.safe.length - 2) / 4) := ⟨_, rfl⟩
  have hgt : (rm : Int) < (n : Int) := by omega
  clear hbig
  replace hs := hide hs; replace hrm := hide hrm
  go_enter Tryd.func36, Tryd.ntmps36
  go_upto_region 1 with fail
  refine wp_region_lit ?_
  refine list_val (.pointer (some ⟨g, 0, none⟩)) (by kernel_rfl) (by kernel_rfl) ?_
  simp only [nrm]
  refine list_val (.bool false) (by kernel_rfl) (by kernel_rfl) ?_
  simp only [nrm]
  refine wpList_nil ?_
  go_upto_region 3 with fail
  refine wp_region_lit ?_
  refine list_val (.slice a n c) (by kernel_rfl) (by kernel_rfl) ?_
  simp only [nrm]
  refine list_val (.int .i64 n) (by kernel_rfl) (by kernel_rfl) ?_
  simp only [nrm]
  refine list_val (.pointer (some ⟨g, 0, none⟩)) (by kernel_rfl) (by kernel_rfl) ?_
  simp only [nrm]
  refine list_call 19 #[.pointer (some ⟨g, 0, none⟩)] (by kernel_rfl) (by kernel_rfl) ((room_ok G g gd D.safe.length s (by omega) w (unhide hs)).mono ?_)
  rintro r u1 ⟨rfl, hg⟩
  refine ⟨_, rfl, ?_⟩
  rw [← unhide hrm]
  simp only [nrm]
  refine list_val (.bool true) (by kernel_rfl) (by go_simp) ?_
  simp only [nrm]
  refine wpList_nil ?_
  have hZ : Hid (Vl (.int .i64 3) w (.returned (.int .i64 3)) u1) := ⟨rfl, hg⟩
  replace hg := hide hg
  go_wp2_with fail
  rw [unhide hT]
  exact unhide hZ
set_option maxHeartbeats 4000000 in
theorem etake_ok (F G : List Nat) (g gd m : Nat) (D : Dk) (s : Sup) (L : List Int) (hD : D.Ok m) (hm : m ≤ 900000) (hd : D.dead = false) (w : World) (hL : Lies F gd D w) (hs : Sto G g gd D.safe.length s w) (hn : 64 ≤ D.safe.length) (ho : Os D ((D.safe.length - 2) / 4) s L) (hap : ∀ i ∈ F, i ∉ G) (hf : Fst w) (h0 : 0 ∉ F ∧ 0 ∉ G) (M : List Int) (a : Option Addr) (n c : Nat) (hM : Lb w a n c M) (hMa : M = [] ∨ ∀ i, i ∈ F ∨ i ∈ G → blkOf a ≠ some i) (hfit : n ≤ 64 * ((D.safe.length - 2) / 4)) (ht : s.turn + 1 < 18446744073709551616) : Calls Tryd.prog 36 #[P0 g, .slice a n c] w (Tk F G g gd D.safe.length D s M w) := by
  obtain ⟨T, hT⟩ : ∃ T, T = Tk F G g gd D.safe.length D s M w := ⟨_, rfl⟩
  rw [← hT]
  replace hT := hide hT
  have h512 := hD.hi1
  have c0 := Dk.cur_bb hD 0 (by omega)
  have c1 := Dk.cur_bb hD 1 (by omega)
  have hcn := ho.cnt
  have hok := cnt_right c0 c1 hcn
  have hpl := hok.p
  have hhl := hok.hl
  have hMl := hM.len
  have hMc := hM.cap
  have hMx := hM.max
  have hnxk := Sup.next_ok hok M (by omega) ht (sumL_isB M)
  have htl := take_lay (h := (D.safe.length - 2) / 4) hnxk
  have hMa2 : M = [] ∨ ∀ i ∈ F, blkOf a ≠ some i := hMa.imp id (fun h i hi => h i (.inl hi))
  have hGg := hs.1
  have hgF : g ∉ F := fun e => hap g e (by rw [hGg]; exact List.mem_singleton.2 rfl)
  have hgw := lt_of_block hs.2
  have hFl := hL.lt
  have hst := hide hs
  obtain ⟨h, lg, sl, hh, hlg, hsl, hq⟩ := stN_is D.safe.length gd
  obtain ⟨-, hS⟩ := hs
  rw [hq] at hS
  clear hq
  have hhb : h ≤ 1000 := by omega
  obtain ⟨rm, hrm⟩ : ∃ x, x = 64 * ((D.safe.length - 2) / 4) := ⟨_, rfl⟩
  have hgt : ¬ (rm : Int) < (n : Int) := by omega
  obtain ⟨p2, hp2⟩ : ∃ x, x = 1 - s.place := ⟨_, rfl⟩
  obtain ⟨t2, ht2⟩ : ∃ x, x = s.turn + 1 := ⟨_, rfl⟩
  have w1 : IntKind.u64.wrap ((s.turn : Int) + 1) = (t2 : Int) := by rw [IntKind.wrap_u64]; omega
  have hmx : ¬ (s.turn : Int) = 18446744073709551615 := by omega
  obtain ⟨o2, ho2⟩ : ∃ x, x = 2 + p2 * h := ⟨_, rfl⟩
  have ho2b : o2 ≤ 3000 := by
    have hq2 : p2 = 0 ∨ p2 = 1 := by omega
    rcases hq2 with e | e <;> rw [e] at ho2 <;> omega
  obtain ⟨q2, hq2⟩ : ∃ x, x = t2 % 2 := ⟨_, rfl⟩
  obtain ⟨nx, hnx⟩ : ∃ x, x = s.next M := ⟨_, rfl⟩
  have hnxe : (⟨p2, t2, n, sh16 M⟩ : Sup) = nx := by rw [hnx, hp2, ht2, ← hMl]; simp only [Sup.next]
  have hnt : nx.turn = t2 := by rw [← hnxe]
  have hnp : nx.place = p2 := by rw [← hnxe]
  rw [← hnx] at hnxk htl
  rw [← hh, ← hp2, ← ht2, ← ho2, ← hq2] at htl
  have hnhl := hnxk.hl
  replace hL := hide hL; replace hD := hide hD; replace hf := hide hf; replace hS := hide hS; replace hM := hide hM; replace hMa := hide hMa; replace hMa2 := hide hMa2; replace hcn := hide hcn; replace hok := hide hok; replace hnxk := hide hnxk; replace htl := hide htl; replace hap := hide hap; replace hFl := hide hFl
  replace hh := hide hh; replace hlg := hide hlg; replace hsl := hide hsl; replace hrm := hide hrm; replace hp2 := hide hp2; replace ht2 := hide ht2; replace ho2 := hide ho2; replace hq2 := hide hq2; replace hnx := hide hnx; replace hnxe := hide hnxe; replace hnt := hide hnt; replace hnp := hide hnp; replace hMl := hide hMl; replace hGg := hide hGg
  clear ho c0 c1 hMa
  go_enter Tryd.func36, Tryd.ntmps36
  go_upto_region 1 with fail
  refine wp_region_lit ?_
  refine list_val (.pointer (some ⟨g, 0, none⟩)) (by kernel_rfl) (by kernel_rfl) ?_
  simp only [nrm]
  refine list_val (.bool false) (by kernel_rfl) (by kernel_rfl) ?_
  simp only [nrm]
  refine wpList_nil ?_
  have hB := Bl.nil w
  replace hB := hide hB
  go_upto_region 3 with fail
  replace hB := unhide hB
  refine wp_region_lit ?_
  refine list_val (.slice a n c) (by kernel_rfl) (by kernel_rfl) ?_
  simp only [nrm]
  refine list_val (.int .i64 n) (by kernel_rfl) (by kernel_rfl) ?_
  simp only [nrm]
  refine list_val (.pointer (some ⟨g, 0, none⟩)) (by kernel_rfl) (by kernel_rfl) ?_
  simp only [nrm]
  refine list_call 19 #[.pointer (some ⟨g, 0, none⟩)] (by kernel_rfl) (by kernel_rfl) ((room_ok G g gd D.safe.length s (by omega) w (unhide hst)).mono ?_)
  rintro r u0 ⟨rfl, hg⟩
  refine ⟨_, rfl, ?_⟩
  rw [← unhide hrm]
  replace hB := hB.more hg
  clear hg
  simp only [nrm]
  refine list_val (.bool false) (by kernel_rfl) (by go_simp) ?_
  simp only [nrm]
  refine wpList_nil ?_
  clear hgt
  replace hB := hide hB
  go_upto_region 5 with fail
  replace hB := unhide hB
  refine wp_region_lit ?_
  refine list_val (.pointer (some ⟨g, 0, none⟩)) (by kernel_rfl) (by kernel_rfl) ?_
  simp only [nrm]
  refine list_val (.pointer (some ⟨g, 0, none⟩)) (by kernel_rfl) (by kernel_rfl) ?_
  simp only [nrm]
  refine list_val (.pointer (some ⟨g, 3, none⟩)) (by kernel_rfl) (by kernel_rfl) ?_
  simp only [nrm]
  refine list_val (.pointer (some ⟨gd, 0, none⟩)) (by kernel_rfl) (exec_pd _ (.tmp 20) rfl g 3 (by kernel_rfl) (some ⟨gd, 0, none⟩) (cell_of (hB.gr.blk (unhide hS)) (i := 3) rfl)) ?_
  simp only [nrm]
  refine list_call 43 #[P0 gd] (by kernel_rfl) (by kernel_rfl) ((current_ok F gd m D (unhide hD) hm hd (by omega) _ ((unhide hL).gr hB.gr) ((unhide hf).gr hB.gr)).mono ?_)
  rintro r u1 ⟨rfl, hg⟩
  rw [unhide hcn]
  dsimp only
  rw [if_pos rfl, if_pos rfl]
  replace hB := hB.more hg
  clear hg
  refine ⟨_, rfl, ?_⟩
  simp only [nrm]
  refine list_val (.tuple #[.agg (spv s), .int .i64 0]) (by kernel_rfl) (by kernel_rfl) ?_
  simp only [nrm]
  refine list_val (.agg (spv s)) (by kernel_rfl) (by kernel_rfl) ?_
  simp only [nrm]
  refine list_val (.int .i64 0) (by kernel_rfl) (by kernel_rfl) ?_
  simp only [nrm]
  refine list_valw (.pointer (some ⟨u1.heap.size, 0, none⟩)) (u1.alloc (.cells (spv ZSp) 85 (0, 0))) (by kernel_rfl) (by kernel_rfl) ?_
  replace hB := hB.new (spv ZSp) 85
  simp only [List.nil_append, List.cons_append] at hB
  generalize World.alloc _ _ = u2 at *
  generalize u1.heap.size = gn at *
  replace hB : Bl w [⟨gn, spv ZSp, 85⟩] u2 := hB
  simp only [nrm]
  refine list_store 85 (.tmp 5) (.tmp 23) (gn) (spv s) 85 (spv ZSp) (by kernel_rfl) rfl (by kernel_rfl) (by kernel_rfl) (hB.get 0 (x := ⟨gn, spv ZSp, 85⟩) rfl) (by rw [Tryd.infoSp, spv_size (s := s) hhl]) (by rw [spv_size (s := s) hhl, spv_size (s := ZSp) ZSp_hl]) (spv_one _) ?_
  replace hB := hB.set 0 (x := ⟨gn, spv ZSp, 85⟩) rfl (spv s)
  simp only [List.set_cons_zero, List.set_cons_succ] at hB
  generalize World.setRow _ _ _ = u3 at *
  replace hB : Bl w [⟨gn, spv s, 85⟩] u3 := hB
  simp only [nrm]
  (refine wpList_step fun K hK => ?_; replace hK := hide hK; go_simp; refine unhide hK _ _ ?_; clear hK K)
  refine wpList_nil ?_
  replace hB := hide hB
  go_upto_region 8 with fail
  replace hB := unhide hB
  refine wp_region_lit ?_
  refine list_val (.pointer (some ⟨gn, 1, none⟩)) (by kernel_rfl) (by kernel_rfl) ?_
  simp only [nrm]
  refine list_val (.int .u64 (s.turn : Int)) (by kernel_rfl) (exec_u64 _ (.tmp 28) rfl gn 1 (by kernel_rfl) _ (spv_cells (hB.get 0 (x := ⟨gn, spv s, 85⟩) rfl)).2.1) ?_
  simp only [nrm]
  refine list_val (.bool false) (by kernel_rfl) (by go_simp) ?_
  simp only [nrm]
  refine wpList_nil ?_
  clear hmx
  replace hB := hide hB
  go_upto_region 10 with fail
  replace hB := unhide hB
  refine any_start (S := fun (v : World) => Bl w [⟨gn, spv s, 85⟩] v) (by kernel_rfl) ?_
  replace hB := hB.drew
  generalize World.drew _ = x0 at *
  simp only [List.size_toArray, List.length_cons, List.length_nil, Array.replicate, List.replicate]
  refine any_take (i := 0) (v := (.pointer (some ⟨gn, 0, none⟩))) #[false, false, false, false, false, false, false, false, false, false] rfl (by kernel_rfl) (by kernel_rfl) (by kernel_rfl) (by kernel_rfl) (fun _ _ _ h => h) (.inl ⟨by kernel_rfl, fun x_ hu => by kernel_rfl⟩) hB ?_
  simp only [nrm]
  refine any_take (i := 1) (v := (.int .u8 (s.place : Int))) #[true, false, false, false, false, false, false, false, false, false] rfl (by kernel_rfl) (by kernel_rfl) (by kernel_rfl) (by kernel_rfl) (fun _ _ _ h => h) (.inl ⟨by kernel_rfl, fun x_ hu => exec_b _ (.tmp 31) rfl gn 0 (by kernel_rfl) _ (spv_cells (hu.get 0 (x := ⟨gn, spv s, 85⟩) rfl)).1⟩) hB ?_
  simp only [nrm]
  refine any_take (i := 3) (v := (.pointer (some ⟨gn, 1, none⟩))) #[true, true, false, false, false, false, false, false, false, false] rfl (by kernel_rfl) (by kernel_rfl) (by kernel_rfl) (by kernel_rfl) (fun _ _ _ h => h) (.inl ⟨by kernel_rfl, fun x_ hu => by kernel_rfl⟩) hB ?_
  simp only [nrm]
  refine any_take (i := 4) (v := (.int .u64 (s.turn : Int))) #[true, true, false, true, false, false, false, false, false, false] rfl (by kernel_rfl) (by kernel_rfl) (by kernel_rfl) (by kernel_rfl) (fun _ _ _ h => h) (.inl ⟨by kernel_rfl, fun x_ hu => exec_u64 _ (.tmp 34) rfl gn 1 (by kernel_rfl) _ (spv_cells (hu.get 0 (x := ⟨gn, spv s, 85⟩) rfl)).2.1⟩) hB ?_
  simp only [nrm]
  refine any_take (i := 5) (v := (.int .u64 (t2 : Int))) #[true, true, false, true, true, false, false, false, false, false] rfl (by kernel_rfl) (by kernel_rfl) (by kernel_rfl) (by kernel_rfl) (fun _ _ _ h => h) (.inl ⟨by kernel_rfl, fun x_ hu => by go_simp⟩) hB ?_
  simp only [nrm]
  refine any_take (i := 6) (v := (.slice a n c)) #[true, true, false, true, true, true, false, false, false, false] rfl (by kernel_rfl) (by kernel_rfl) (by kernel_rfl) (by kernel_rfl) (fun _ _ _ h => h) (.inl ⟨by kernel_rfl, fun x_ hu => by kernel_rfl⟩) hB ?_
  simp only [nrm]
  refine float_first (fun q u => NX (gn + 1) u q) 7 (fun b_ => #[true, true, false, true, true, true, true, false, b_, false]) 8 2 false rfl rfl (fun _ g_ => hB.more g_) (by kernel_rfl) (fun b_ => by cases b_ <;> rfl) ?_ ?_
  all_goals simp only [fw1, Act.put, List.setIfInBounds_toArray, List.set_cons_zero, List.set_cons_succ, List.getElem_toArray, List.getElem_cons_zero, List.getElem_cons_succ]
  · intro q_ x_ hgx K hK
    refine wpOp_step (o := _) rfl (fun K' hK' => ?_)
    replace hK' := hide hK'
    replace hK := hide hK
    refine step_val (.pointer (some ⟨x_.heap.size, 0, none⟩)) (x_.alloc (.cells (spv ZSp) 85 (0, 0))) (by kernel_rfl) (by kernel_rfl) ?_
    exact unhide hK' _ _ (unhide hK _ _ ((Gr.refl _).alloc _) (⟨_, rfl, Nat.le_trans (Nat.succ_le_of_lt (lt_of_block (hB.get 0 (x := ⟨gn, spv s, 85⟩) rfl))) hgx.size, blk_new _ _⟩))
  intro b1_2 q1_2 x1_2 hg hTq hall
  replace hB := hB.more hg
  clear hall
  refine wpOp_step (o := _) rfl (fun K hK => ?_)
  replace hK := hide hK
  refine step_callw (by kernel_rfl) 63 #[.int .u8 (s.place : Int)] (by kernel_rfl) ((other_ok s.place hpl _).mono ?_)
  rintro r y1 ⟨rfl, hg⟩
  refine ⟨_, rfl, ?_⟩
  replace hTq := fun e => NX.gr (hTq e) hg
  rw [← unhide hp2]
  replace hB := hB.more hg
  clear hg
  refine unhide hK _ _ ⟨hB, ?_⟩
  clear hK K
  simp only [nrm]
  refine float_again (fun q u => NX (gn + 1) u q) 7 (fun b_ => #[true, true, true, true, true, true, true, false, b_, false]) 8 7 false (b := b1_2) (q := q1_2) rfl rfl hTq (fun _ g_ => hB.more g_) (by kernel_rfl) (fun b_ => by cases b_ <;> rfl) ?_ ?_
  all_goals simp only [fw1, Act.put, List.setIfInBounds_toArray, List.set_cons_zero, List.set_cons_succ, List.getElem_toArray, List.getElem_cons_zero, List.getElem_cons_succ]
  · intro q_ x_ hgx K hK
    refine wpOp_step (o := _) rfl (fun K' hK' => ?_)
    replace hK' := hide hK'
    replace hK := hide hK
    refine step_val (.pointer (some ⟨x_.heap.size, 0, none⟩)) (x_.alloc (.cells (spv ZSp) 85 (0, 0))) (by kernel_rfl) (by kernel_rfl) ?_
    exact unhide hK' _ _ (unhide hK _ _ ((Gr.refl _).alloc _) (⟨_, rfl, Nat.le_trans (Nat.succ_le_of_lt (lt_of_block (hB.get 0 (x := ⟨gn, spv s, 85⟩) rfl))) hgx.size, blk_new _ _⟩))
  clear hTq
  intro b1_7 q1_7 x1_7 hg hTq hall
  replace hB := hB.more hg
  clear hall
  refine wpOp_step (o := _) rfl (fun K hK => ?_)
  replace hK := hide hK
  refine step_callw (by kernel_rfl) 49 #[.int .u8 (p2 : Int), .int .u64 (t2 : Int), .slice a n c] (by kernel_rfl) ((describe_ok p2 t2 (by have := unhide hp2; omega) (by have := unhide ht2; omega) M a n c _ ((unhide hM).gr hB.gr) (by omega) ((unhide hf).gr hB.gr)).mono ?_)
  rintro r y2 ⟨rfl, hg⟩
  refine ⟨_, rfl, ?_⟩
  replace hTq := fun e => NX.gr (hTq e) hg
  rw [unhide hnxe]
  replace hB := hB.more hg
  clear hg
  refine unhide hK _ _ ⟨hB, ?_⟩
  clear hK K
  simp only [nrm]
  refine float_again (fun q u => NX (gn + 1) u q) 7 (fun b_ => #[true, true, true, true, true, true, true, true, b_, false]) 8 9 true (b := b1_7) (q := q1_7) rfl rfl hTq (fun _ g_ => hB.more g_) (by kernel_rfl) (fun b_ => by cases b_ <;> rfl) ?_ ?_
  all_goals simp only [fw1, Act.put, List.setIfInBounds_toArray, List.set_cons_zero, List.set_cons_succ, List.getElem_toArray, List.getElem_cons_zero, List.getElem_cons_succ]
  · intro q_ x_ hgx K hK
    refine wpOp_step (o := _) rfl (fun K' hK' => ?_)
    replace hK' := hide hK'
    replace hK := hide hK
    refine step_val (.pointer (some ⟨x_.heap.size, 0, none⟩)) (x_.alloc (.cells (spv ZSp) 85 (0, 0))) (by kernel_rfl) (by kernel_rfl) ?_
    exact unhide hK' _ _ (unhide hK _ _ ((Gr.refl _).alloc _) (⟨_, rfl, Nat.le_trans (Nat.succ_le_of_lt (lt_of_block (hB.get 0 (x := ⟨gn, spv s, 85⟩) rfl))) hgx.size, blk_new _ _⟩))
  clear hTq
  intro b1_9 q1_9 x1_9 hg hTq hall
  replace hB := hB.more hg
  obtain rfl : b1_9 = true := hall (by trivial)
  replace hTq := hTq rfl
  clear hall
  obtain ⟨gx, rfl, hgx1, hgb⟩ := hTq
  refine wpOp_step (o := _) rfl (fun K hK => ?_)
  replace hK := hide hK
  rw [if_pos (by kernel_rfl)]
  refine wp_store_row 85 (.tmp 7) (.tmp 38) rfl gx (spv nx) (by kernel_rfl) (by kernel_rfl) 85 (spv ZSp) hgb (by rw [Tryd.infoSp, spv_size (s := nx) hnhl]) (by rw [spv_size (s := nx) hnhl]; rfl) (spv_one _) ?_
  have hB2 := hB.add ⟨gx, spv ZSp, 85⟩ hgb (show w.heap.size ≤ gx by have := hB.own 0 (x := ⟨gn, spv s, 85⟩) rfl; dsimp only at this; omega) (by intro y hy; simp only [List.mem_cons, List.not_mem_nil, or_false] at hy; subst hy; show gn ≠ gx; omega)
  replace hB2 := hB2.set 1 (x := ⟨gx, spv ZSp, 85⟩) rfl (spv nx)
  simp only [List.cons_append, List.nil_append, List.set_cons_zero, List.set_cons_succ] at hB2
  replace hB2 : Bl w [⟨gn, spv s, 85⟩, ⟨gx, spv nx, 85⟩] _ := hB2
  have hBl : Bl w [⟨gn, spv s, 85⟩] _ := Bl.left (M := [⟨gx, spv nx, 85⟩]) hB2
  clear hB hgb
  generalize World.setRow _ _ _ = x9 at *
  have hB := hB2
  clear hB2
  refine unhide hK _ _ ⟨hBl, ?_⟩
  clear hK K hBl
  simp only [nrm]
  refine any_done (by kernel_rfl) ?_
  clear w1
  replace hB := hide hB
  go_upto_region 11 with fail
  replace hB := unhide hB
  refine any_start (S := fun (v : World) => v.heap[gx]? = some (.cells (spv nx) 85 (0, 0)) ∧ v.heap[g]? = some (.cells (stv h lg sl gd) 73 (0, 0))) (by kernel_rfl) ?_
  replace hB := hB.drew
  generalize World.drew _ = x1 at *
  have hS1 : (fun (v : World) => v.heap[gx]? = some (.cells (spv nx) 85 (0, 0)) ∧ v.heap[g]? = some (.cells (stv h lg sl gd) 73 (0, 0))) x1 := ⟨(hB.get 1 (x := ⟨gx, spv nx, 85⟩) rfl), hB.gr.blk (unhide hS)⟩
  simp only [List.size_toArray, List.length_cons, List.length_nil, Array.replicate, List.replicate]
  refine any_take (i := 0) (v := (.pointer (some ⟨g, 0, none⟩))) #[false, false, false, false, false, false, false, false, false, false, false] rfl (by kernel_rfl) (by kernel_rfl) (by kernel_rfl) (by kernel_rfl) (fun _ _ _ h => h) (.inl ⟨by kernel_rfl, fun x_ hu => by kernel_rfl⟩) hS1 ?_
  simp only [nrm]
  refine any_take (i := 1) (v := (.pointer (some ⟨g, 0, none⟩))) #[true, false, false, false, false, false, false, false, false, false, false] rfl (by kernel_rfl) (by kernel_rfl) (by kernel_rfl) (by kernel_rfl) (fun _ _ _ h => h) (.inl ⟨by kernel_rfl, fun x_ hu => by kernel_rfl⟩) hS1 ?_
  simp only [nrm]
  refine any_take (i := 2) (v := (.pointer (some ⟨g, 0, none⟩))) #[true, true, false, false, false, false, false, false, false, false, false] rfl (by kernel_rfl) (by kernel_rfl) (by kernel_rfl) (by kernel_rfl) (fun _ _ _ h => h) (.inl ⟨by kernel_rfl, fun x_ hu => by kernel_rfl⟩) hS1 ?_
  simp only [nrm]
  refine any_take (i := 3) (v := (.pointer (some ⟨g, 0, none⟩))) #[true, true, true, false, false, false, false, false, false, false, false] rfl (by kernel_rfl) (by kernel_rfl) (by kernel_rfl) (by kernel_rfl) (fun _ _ _ h => h) (.inl ⟨by kernel_rfl, fun x_ hu => by kernel_rfl⟩) hS1 ?_
  simp only [nrm]
  refine any_take (i := 4) (v := (.agg (lyv h lg sl))) #[true, true, true, true, false, false, false, false, false, false, false] rfl (by kernel_rfl) (by kernel_rfl) (by kernel_rfl) (by kernel_rfl) (fun _ _ _ h => h) (.inl ⟨by kernel_rfl, fun x_ hu => exec_row _ 71 (.tmp 42) rfl g 0 (by kernel_rfl) [.int .i64 (h : Int), .int .i64 (lg : Int), .int .i64 (sl : Int)] _ (ly_range hu.2) Tryd.underlying71 rfl (by rw [Tryd.infoLy]; rfl)⟩) hS1 ?_
  simp only [nrm]
  refine any_take (i := 5) (v := (.pointer (some ⟨gx, 0, none⟩))) #[true, true, true, true, true, false, false, false, false, false, false] rfl (by kernel_rfl) (by kernel_rfl) (by kernel_rfl) (by kernel_rfl) (fun _ _ _ h => h) (.inl ⟨by kernel_rfl, fun x_ hu => by kernel_rfl⟩) hS1 ?_
  simp only [nrm]
  refine any_take (i := 6) (v := (.int .u8 (p2 : Int))) #[true, true, true, true, true, true, false, false, false, false, false] rfl (by kernel_rfl) (by kernel_rfl) (by kernel_rfl) (by kernel_rfl) (fun _ _ _ h => h) (.inl ⟨by kernel_rfl, fun x_ hu => exec_b _ (.tmp 44) rfl gx 0 (by kernel_rfl) _ (by have h9 := (spv_cells hu.1).1; rw [unhide hnp] at h9; exact h9)⟩) hS1 ?_
  simp only [nrm]
  refine any_take (i := 8) (v := (.slice a n c)) #[true, true, true, true, true, true, true, false, false, false, false] rfl (by kernel_rfl) (by kernel_rfl) (by kernel_rfl) (by kernel_rfl) (fun _ _ _ h => h) (.inl ⟨by kernel_rfl, fun x_ hu => by kernel_rfl⟩) hS1 ?_
  simp only [nrm]
  refine any_one (i := 7) (by kernel_rfl) rfl (fun K_ hQ => ?_)
  refine step_callw (by kernel_rfl) 53 #[.agg (lyv h lg sl), .int .u8 (p2 : Int)] (by kernel_rfl) ((start_ok h lg sl p2 (by omega) (by have := unhide hp2; omega) x1).mono ?_)
  rintro r y3 ⟨rfl, hg⟩
  refine ⟨_, rfl, ?_⟩
  rw [← unhide ho2]
  replace hB := hB.more hg
  replace hS1 : (fun (v : World) => v.heap[gx]? = some (.cells (spv nx) 85 (0, 0)) ∧ v.heap[g]? = some (.cells (stv h lg sl gd) 73 (0, 0))) y3 := ⟨hg.blk hS1.1, hg.blk hS1.2⟩
  clear hg
  refine hQ.out _ _ hS1 (fun _ => ?_)
  clear hQ K_
  simp only [nrm]
  refine any_one (i := 9) (by kernel_rfl) rfl (fun K_ hQ => ?_)
  refine step_callw (by kernel_rfl) 51 #[P0 g, .int .i64 (o2 : Int), .slice a n c] (by kernel_rfl) ((slay_ok F g gd m h lg sl D (unhide hD) y3 ((unhide hL).gr hB.gr) hS1.2 hgF o2 (by omega) M a n c ((unhide hM).gr hB.gr) (unhide hMa2) (by omega) (by omega)).mono ?_)
  rintro r v1 ⟨F1, rfl, hL1, hc1⟩
  refine ⟨_, rfl, ?_⟩
  have hgxF : gx ∉ F := fun e => by have h1 := unhide hFl gx e; have h2 := hB.own 1 (x := ⟨gx, spv nx, 85⟩) rfl; dsimp only at h2; omega
  have hgy : gx < y3.heap.size := lt_of_block hS1.1
  have hgxF1 : Hid (gx ∉ F1) := fun e => by rcases hc1.new gx e with e | e; exact hgxF e; omega
  clear hgy
  replace hS1 : (fun (v : World) => v.heap[gx]? = some (.cells (spv nx) 85 (0, 0)) ∧ v.heap[g]? = some (.cells (stv h lg sl gd) 73 (0, 0))) v1 := ⟨hc1.blk hS1.1 hgxF, hc1.blk hS1.2 hgF⟩
  have hch1 := hide (hB.gr.chg hc1)
  have okD := hide (run_ok (layOps o2 M) (unhide hD) (lay_bb (unhide hM).isB))
  obtain ⟨D1, hD1⟩ : ∃ x, x = (Dk.runD (layOps o2 M) D).1 := ⟨_, rfl⟩
  obtain ⟨e1, he1⟩ : ∃ x, x = (Dk.runD (layOps o2 M) D).2 := ⟨_, rfl⟩
  rw [← hD1] at hL1 okD
  rw [← he1]
  replace hD1 := hide hD1; replace he1 := hide he1; replace hL1 := hide hL1
  clear hB hc1 hgxF
  refine hQ.out _ _ hS1 (fun _ => ?_)
  clear hQ K_
  simp only [nrm]
  refine any_one (i := 10) (by kernel_rfl) rfl (fun K_ hQ => ?_)
  replace hQ := hide hQ
  go_simp
  refine (unhide hQ).out _ _ hS1 (fun _ => ?_)
  clear hQ K_
  refine any_done (by kernel_rfl) ?_
  have hst1 : Hid (Sto G g gd D.safe.length s v1) := (unhide hst).chg (unhide hch1) (fun i hi hg => by
    rw [unhide hGg, List.mem_singleton] at hg
    rw [hg] at hi
    exact hgF hi)
  have hap1 : Hid (∀ i ∈ F1, i ∉ G) := by
    intro i hi hg
    rcases (unhide hch1).new i hi with e | e
    · exact unhide hap i e hg
    · rw [unhide hGg, List.mem_singleton] at hg
      omega
  have hX1 : Hid (v1.heap[gx]? = some (.cells (spv nx) 85 (0, 0))) := hS1.1
  have hS2 : Hid (v1.heap[g]? = some (.cells (stv h lg sl gd) 73 (0, 0))) := hS1.2
  have hrun : Hid (Dk.runD (takeOps s ((D.safe.length - 2) / 4) M) D = if e1 = 0 then Dk.runD (layOps q2 nx.blk) D1 else (D1, e1)) := by
    show Dk.runD (takeOps s ((D.safe.length - 2) / 4) M) D = _
    rw [← unhide hh, unhide htl, run_app, ← unhide he1, ← unhide hD1]
    by_cases hq9 : e1 = 0
    · rw [if_pos hq9, if_pos hq9]
    · rw [if_neg hq9, if_neg hq9, unhide he1, unhide hD1]
  clear hS1
  by_cases hz : e1 = 0
  · skip
    subst hz
    have hkb := blk_bb (unhide hnxk)
    obtain ⟨bk, hbk⟩ : ∃ x, x = nx.blk := ⟨_, rfl⟩
    rw [← hbk] at hkb hrun
    have hkl := hkb.1
    replace hkb := hide hkb; replace hbk := hide hbk
    have hf1 := hide ((unhide hf).chg (unhide hch1) h0.1)
    have hB := Bl.nil v1
    replace hB := hide hB
    go_upto_region 14 with fail
    replace hB := unhide hB
    refine wp_region_lit ?_
    refine list_val (.agg (spv nx)) (by kernel_rfl) (exec_arr _ 85 (.tmp 7) rfl gx (by kernel_rfl) (spv nx) 85 _ (hB.gr.blk (unhide hX1)) Tryd.underlying85 rfl (by rw [Tryd.infoSp, spv_size (s := nx) hnhl])) ?_
    simp only [nrm]
    refine list_call 50 #[.agg (spv nx)] (by kernel_rfl) (by kernel_rfl) ((sblock_ok nx (unhide hnxk) _ ((unhide hf1).gr hB.gr)).mono ?_)
    rintro r v2 ⟨rfl, hg⟩
    rw [← unhide hbk]
    replace hB := hB.more hg
    clear hg
    refine ⟨_, rfl, ?_⟩
    simp only [nrm]
    refine list_valw (.pointer (some ⟨v2.heap.size, 0, none⟩)) (v2.alloc (.cells (kc ZB) 50 (0, 0))) (by kernel_rfl) (by kernel_rfl) ?_
    replace hB := hB.new (kc ZB) 50
    simp only [List.nil_append, List.cons_append] at hB
    generalize World.alloc _ _ = v3 at *
    generalize v2.heap.size = gb at *
    replace hB : Bl v1 [⟨gb, kc ZB, 50⟩] v3 := hB
    simp only [nrm]
    refine list_store 50 (.tmp 9) (.tmp 53) (gb) (kc bk) 50 (kc ZB) (by kernel_rfl) rfl (by kernel_rfl) (by kernel_rfl) (hB.get 0 (x := ⟨gb, kc ZB, 50⟩) rfl) (by rw [Tryd.infoB, kc_size, hkl]) ((show (kc ZB).size = 64 from rfl).trans ((kc_size _).trans hkl).symm) (kc_one _) ?_
    replace hB := hB.set 0 (x := ⟨gb, kc ZB, 50⟩) rfl (kc bk)
    simp only [List.set_cons_zero, List.set_cons_succ] at hB
    generalize World.setRow _ _ _ = v4 at *
    replace hB : Bl v1 [⟨gb, kc bk, 50⟩] v4 := hB
    simp only [nrm]
    refine wpList_nil ?_
    have i1 : (t2 : Int).tmod 2 = (q2 : Int) := by rw [Int.tmod_eq_emod_of_nonneg (by omega)]; have := unhide hq2; omega
    have i2 : IntKind.u64.wrap (q2 : Int) = (q2 : Int) := by rw [IntKind.wrap_u64]; have := unhide hq2; omega
    have i3 : IntKind.i64.wrap (q2 : Int) = (q2 : Int) := by rw [IntKind.wrap_i64]; have := unhide hq2; omega
    replace hB := hide hB
    go_upto_region 15 with fail
    replace hB := unhide hB
    refine any_start (S := fun (v : World) => v.heap[gx]? = some (.cells (spv nx) 85 (0, 0))) (by kernel_rfl) ?_
    replace hB := hB.drew
    generalize World.drew _ = x2 at *
    have hS1 : (fun (v : World) => v.heap[gx]? = some (.cells (spv nx) 85 (0, 0))) x2 := hB.gr.blk (unhide hX1)
    have hok1 := unhide okD
    rw [lay_ops_len, unhide hMl] at hok1
    have hgF1 : g ∉ F1 := fun e => by
      rcases (unhide hch1).new g e with e | e
      · exact hgF e
      · omega
    have hgbF : ∀ i ∈ F1, blkOf (some (⟨gb, 0, none⟩ : Addr)) ≠ some i := by
      intro i hi e
      have e2 : gb = i := Option.some.inj e
      have h1 := (unhide hL1).lt i hi
      have h2 := hB.own 0 (x := ⟨gb, kc bk, 50⟩) rfl
      dsimp only at h2
      omega
    simp only [List.size_toArray, List.length_cons, List.length_nil, Array.replicate, List.replicate]
    refine any_take (i := 0) (v := (.pointer (some ⟨g, 0, none⟩))) #[false, false, false, false, false, false, false, false] rfl (by kernel_rfl) (by kernel_rfl) (by kernel_rfl) (by kernel_rfl) (fun _ _ _ h => h) (.inl ⟨by kernel_rfl, fun x_ hu => by kernel_rfl⟩) hS1 ?_
    simp only [nrm]
    refine any_take (i := 1) (v := (.pointer (some ⟨gx, 1, none⟩))) #[true, false, false, false, false, false, false, false] rfl (by kernel_rfl) (by kernel_rfl) (by kernel_rfl) (by kernel_rfl) (fun _ _ _ h => h) (.inl ⟨by kernel_rfl, fun x_ hu => by kernel_rfl⟩) hS1 ?_
    simp only [nrm]
    refine any_take (i := 2) (v := (.int .u64 (t2 : Int))) #[true, true, false, false, false, false, false, false] rfl (by kernel_rfl) (by kernel_rfl) (by kernel_rfl) (by kernel_rfl) (fun _ _ _ h => h) (.inl ⟨by kernel_rfl, fun x_ hu => exec_u64 _ (.tmp 55) rfl gx 1 (by kernel_rfl) _ (by have h9 := (spv_cells hu).2.1; rw [unhide hnt] at h9; exact h9)⟩) hS1 ?_
    simp only [nrm]
    refine any_take (i := 3) (v := (.int .u64 (q2 : Int))) #[true, true, true, false, false, false, false, false] rfl (by kernel_rfl) (by kernel_rfl) (by kernel_rfl) (by kernel_rfl) (fun _ _ _ h => h) (.inl ⟨by kernel_rfl, fun x_ hu => by go_simp⟩) hS1 ?_
    simp only [nrm]
    refine any_take (i := 4) (v := (.int .i64 (q2 : Int))) #[true, true, true, true, false, false, false, false] rfl (by kernel_rfl) (by kernel_rfl) (by kernel_rfl) (by kernel_rfl) (fun _ _ _ h => h) (.inl ⟨by kernel_rfl, fun x_ hu => by go_simp⟩) hS1 ?_
    simp only [nrm]
    refine any_take (i := 5) (v := (.slice (some ⟨gb, 0, none⟩) 64 64)) #[true, true, true, true, true, false, false, false] rfl (by kernel_rfl) (by kernel_rfl) (by kernel_rfl) (by kernel_rfl) (fun _ _ _ h => h) (.inl ⟨by kernel_rfl, fun x_ hu => by kernel_rfl⟩) hS1 ?_
    simp only [nrm]
    refine any_one (i := 6) (by kernel_rfl) rfl (fun K_ hQ => ?_)
    refine step_callw (by kernel_rfl) 51 #[P0 g, .int .i64 (q2 : Int), .slice (some ⟨gb, 0, none⟩) 64 64] (by kernel_rfl) ((slay_ok F1 g gd (m + ((n + 63) / 64 + 1)) h lg sl D1 hok1 x2 ((unhide hL1).gr hB.gr) (hB.gr.blk (unhide hS2)) hgF1 q2 (by have := unhide hq2; omega) bk (some ⟨gb, 0, none⟩) 64 64 (nw_lb0 (hB.get 0 (x := ⟨gb, kc bk, 50⟩) rfl) (unhide hkb).2 hkl (by omega)) (.inr hgbF) (by omega) (by omega)).mono ?_)
    rintro r v5 ⟨F2, rfl, hL2, hc2⟩
    refine ⟨_, rfl, ?_⟩
    have hZ : Hid (Tk F G g gd D.safe.length D s M w (.returned (.int .i64 (Dk.runD (layOps q2 bk) D1).2)) v5) := by
      have hr := unhide hrun
      rw [if_pos rfl] at hr
      have hcc := (unhide hch1).trans2 (hB.gr.chg hc2)
      refine ⟨F2, G, ?_, ?_, ?_, ?_, chg_app hcc G⟩
      · rw [hr]
      · rw [hr]; exact hL2
      · exact (((unhide hst1).gr hB.gr).chg hc2 (fun i hi => unhide hap1 i hi)).any _
      · intro i hi hg
        rcases hcc.new i hi with e | e
        · exact unhide hap i e hg
        · rw [unhide hGg, List.mem_singleton] at hg
          omega
    
    obtain ⟨e2, he2⟩ : ∃ x, x = (Dk.runD (layOps q2 bk) D1).2 := ⟨_, rfl⟩
    rw [← he2] at hZ ⊢
    clear he2
    replace hS1 : (fun (v : World) => v.heap[gx]? = some (.cells (spv nx) 85 (0, 0))) v5 := hc2.blk hS1 (unhide hgxF1)
    clear hB hL2 hc2
    refine hQ.out _ _ hS1 (fun _ => ?_)
    clear hQ K_
    simp only [nrm]
    refine any_one (i := 7) (by kernel_rfl) rfl (fun K_ hQ => ?_)
    replace hQ := hide hQ
    go_simp
    refine (unhide hQ).out _ _ hS1 (fun _ => ?_)
    clear hQ K_
    refine any_done (by kernel_rfl) ?_
    clear hS1
    go_wp2_with fail
    rw [unhide hT]
    exact unhide hZ
  have hZ : Hid (Tk F G g gd D.safe.length D s M w (.returned (.int .i64 e1)) v1) := by
    have hr := unhide hrun
    rw [if_neg hz] at hr
    refine ⟨F1, G, ?_, ?_, (unhide hst1).any _, unhide hap1, chg_app (unhide hch1) G⟩
    · rw [hr]
    · rw [hr]; exact unhide hL1
  go_wp2_with fail
  rw [unhide hT]
  exact unhide hZ
end Go.Proofs.YtaoiejgjdmakjaaDoor
