/-
  What cut, room, short and wakes of the laws answer.
-/
import Derived.Test.YtdekjbdkpchbjaaAeC
namespace Go.Proofs.Ytdekjbdkpchbjaa
open Go.RowKit
set_option maxRecDepth 100000
set_option linter.unusedSimpArgs false
set_option linter.unusedVariables false
theorem Ob.some {b : Nat} {w : World} {v : Value} {L : List Int} (h : Ob b w v L) (hL : L ≠ []) : ∃ g c cur, v = .slice (some ⟨g, 0, none⟩) L.length c ∧ b ≤ g ∧ w.heap[g]? = some (.cells cur 5 (0, 0)) ∧ L.length ≤ c ∧ c ≤ maxLen ∧ cur.size = c ∧ cur.toList.take L.length = L.map (Value.int .u8) := by
  rcases h.2 with ⟨h1, h2⟩ | ⟨g, cap, cur, h1, h2, h3, h4, h5, h6, h7⟩
  · exact absurd (List.eq_nil_of_length_eq_zero h2) hL
  · exact ⟨g, cap, cur, h1, h2, h3, h4, h5, by rw [h6, Nat.mul_one], by rw [Nat.mul_one] at h7; exact h7⟩
/-- the first cells of a block are these bytes -/
theorem at_take {w : World} {g : Nat} {cur : Array Value} {L : List Int} {t : TypeId} (h : w.heap[g]? = some (.cells cur t (0, 0))) (hc : cur.toList.take L.length = L.map (Value.int .u8)) : At w g 0 L := fun j hj => by
  rw [Nat.zero_add]
  refine cell_of h ?_
  rw [← Array.getElem?_toList]
  have e : (L.map (Value.int .u8))[j]? = some (.int .u8 (L.getD j 0)) := by simp [hj]
  rw [← hc, List.getElem?_take, if_pos hj] at e
  exact e
theorem ob_room {w : World} {b g m : Nat} (h : w.heap[g]? = some (.cells (kc (List.replicate m 0)) 5 (0, 0))) (hg : b ≤ g) (hb : m ≤ 140737488351232) : Ob b w (.slice (some ⟨g, 0, none⟩) 0 m) [] :=
  ⟨rfl, .inr ⟨g, m, _, rfl, hg, h, Nat.zero_le _, by unfold maxLen; omega, by rw [kc_size, List.length_replicate, Nat.mul_one], by simp⟩⟩
theorem isB_snoc {B : List Int} (h : IsB B) : IsB (B ++ [7]) := fun x hx => by
  rcases List.mem_append.1 hx with h1 | h1
  · exact h x h1
  · simp at h1
    omega
theorem take_snoc (B : List Int) (n : Nat) (h : B.length = n) : (B ++ [7]).take n = B := by rw [← h]; simp
theorem get_snoc (B : List Int) (n : Nat) (h : B.length = n) : (B ++ [7]).getD n 0 = 7 := by rw [← h]; simp
/-- what cut answers -/
def Cutd (B : List Int) (s : Option Addr) (len cap : Nat) (w : World) (r : Ending) (w' : World) : Prop := ∃ s1, r = .returned (.slice s1 (min len 3000) cap) ∧ (∀ v, Lb v s len cap B → Lb v s1 (min len 3000) cap (B.take (min len 3000))) ∧ w' = w
set_option maxHeartbeats 4000000 in
theorem cut_ok (B : List Int) (s : Option Addr) (len cap : Nat) (w : World) (lb : Lb w s len cap B) : Calls Try.prog 11 #[.slice s len cap] w (Cutd B s len cap w) := by
  obtain ⟨T, hT⟩ : ∃ T, T = Cutd B s len cap w := ⟨_, rfl⟩
  rw [← hT]
  replace hT := hide hT
  replace lb := hide lb
  obtain ⟨n, hn⟩ : ∃ n, n = min len 3000 := ⟨_, rfl⟩
  have i3 : (if (3000 : Int) < (len : Int) then (3000 : Int) else (len : Int)) = (n : Int) := by split <;> omega
  have i4 : (if 3000 < len then (3000 : Int) else (len : Int)) = (n : Int) := by split <;> omega
  have hnl : n ≤ len := by omega
  replace hn := hide hn
  go_enter Try.func11, Try.ntmps11
  go_upto_region 1 with fail
  refine wp_region_lit ?_
  refine list_val (.slice s len cap) (by kernel_rfl) (by kernel_rfl) ?_
  simp only [Act.put, List.setIfInBounds_toArray, List.set_cons_zero, List.set_cons_succ, List.getElem_toArray, List.getElem_cons_zero, List.getElem_cons_succ]
  refine list_val (.slice s len cap) (by kernel_rfl) (by kernel_rfl) ?_
  simp only [Act.put, List.setIfInBounds_toArray, List.set_cons_zero, List.set_cons_succ, List.getElem_toArray, List.getElem_cons_zero, List.getElem_cons_succ]
  refine list_val (.int .i64 len) (by kernel_rfl) (by kernel_rfl) ?_
  simp only [Act.put, List.setIfInBounds_toArray, List.set_cons_zero, List.set_cons_succ, List.getElem_toArray, List.getElem_cons_zero, List.getElem_cons_succ]
  refine list_val (.int .i64 n) (by kernel_rfl) (by go_simp) ?_
  simp only [Act.put, List.setIfInBounds_toArray, List.set_cons_zero, List.set_cons_succ, List.getElem_toArray, List.getElem_cons_zero, List.getElem_cons_succ]
  refine list_upto (.tmp 3) (.tmp 6) (by kernel_rfl) rfl s len cap n rfl rfl B (unhide lb) hnl ?_
  intro s1 hs1
  simp only [Act.put, List.setIfInBounds_toArray, List.set_cons_zero, List.set_cons_succ, List.getElem_toArray, List.getElem_cons_zero, List.getElem_cons_succ]
  (refine wpList_step fun K hK => ?_; replace hK := hide hK; go_simp; refine unhide hK _ _ ?_; clear hK K)
  refine wpList_nil ?_
  have hP : Hid (Cutd B s len cap w (.returned (.slice s1 n cap)) w) := ⟨s1, by rw [← unhide hn], by rw [← unhide hn]; exact hs1, rfl⟩
  clear hs1
  go_wp2_with fail
  rw [unhide hT]
  exact unhide hP
/-- what room answers -/
def Rm (B : List Int) (w : World) (r : Ending) (w' : World) : Prop := ∃ g c, r = .returned (.slice (some ⟨g, 0, none⟩) B.length c) ∧ B.length + 1 ≤ c ∧ c < 9223372036854775808 ∧ w.heap.size ≤ g ∧ At w' g 0 (B ++ [7]) ∧ Gr w w'
set_option maxHeartbeats 4000000 in
theorem room_ok (B : List Int) (s : Option Addr) (n cap : Nat) (hbig : n ≤ 3000) (w : World) (lb : Lb w s n cap B) : Calls Try.prog 12 #[.slice s n cap] w (Rm B w) := by
  obtain ⟨T, hT⟩ : ∃ T, T = Rm B w := ⟨_, rfl⟩
  rw [← hT]
  replace hT := hide hT
  have hBl := hide lb.len
  have hBb := hide lb.isB
  replace lb := hide lb
  obtain ⟨n3, hn3⟩ : ∃ x, x = n + 40 := ⟨_, rfl⟩
  have j1 : (n : Int) + 40 = (n3 : Int) := by omega
  have j2 : IntKind.i64.wrap (n3 : Int) = (n3 : Int) := by rw [IntKind.wrap_i64]; omega
  have hn4 : n3 ≤ 5000 := by omega
  replace hn3 := hide hn3
  go_enter Try.func12, Try.ntmps12
  go_upto_region 1 with fail
  refine wp_region_lit ?_
  refine list_val (.slice s n cap) (by kernel_rfl) (by kernel_rfl) ?_
  simp only [Act.put, List.setIfInBounds_toArray, List.set_cons_zero, List.set_cons_succ, List.getElem_toArray, List.getElem_cons_zero, List.getElem_cons_succ]
  refine list_val (.int .i64 n) (by kernel_rfl) (by kernel_rfl) ?_
  simp only [Act.put, List.setIfInBounds_toArray, List.set_cons_zero, List.set_cons_succ, List.getElem_toArray, List.getElem_cons_zero, List.getElem_cons_succ]
  refine list_val (.int .i64 n3) (by kernel_rfl) (by go_simp) ?_
  simp only [Act.put, List.setIfInBounds_toArray, List.set_cons_zero, List.set_cons_succ, List.getElem_toArray, List.getElem_cons_zero, List.getElem_cons_succ]
  refine wpList_make_room w rfl (.const (.int .i64 0)) (.tmp 5) rfl 0 n3 0 n3 rfl rfl rfl rfl (Nat.zero_le _) (by omega) ?_
  simp only [Act.put, List.setIfInBounds_toArray, List.set_cons_zero, List.set_cons_succ, List.getElem_toArray, List.getElem_cons_zero, List.getElem_cons_succ]
  have hG := (Gr.refl w).alloc (.cells (kc (List.replicate n3 0)) 5 (0, 0))
  have ob := ob_room (b := w.heap.size) (blk_new w (.cells (kc (List.replicate n3 0)) 5 (0, 0))) (Nat.le_refl _) (by omega)
  generalize World.alloc _ _ = v1 at *
  refine list_val (.slice s n cap) (by kernel_rfl) (by kernel_rfl) ?_
  simp only [Act.put, List.setIfInBounds_toArray, List.set_cons_zero, List.set_cons_succ, List.getElem_toArray, List.getElem_cons_zero, List.getElem_cons_succ]
  refine app_bs (by kernel_rfl) (.tmp 6) (.tmp 7) rfl w.heap.size _ [] rfl ob _ n cap B rfl (unhide hBl) ((unhide lb).gr hG).sl (by simp; omega) hG.size ?_
  intro x1 v2 ob2 hgr
  simp only [Act.put, List.setIfInBounds_toArray, List.set_cons_zero, List.set_cons_succ, List.getElem_toArray, List.getElem_cons_zero, List.getElem_cons_succ]
  replace hG := Ob.grown ob (Nat.le_refl _) hG hgr
  clear hgr ob
  rw [List.nil_append] at ob2
  refine list_valw (.slice (some ⟨v2.heap.size, 0, none⟩) 1 1) (v2.alloc (.cells (kc [7]) 5 (0, 0))) (by kernel_rfl) (by kernel_rfl) ?_
  simp only [Act.put, List.setIfInBounds_toArray, List.set_cons_zero, List.set_cons_succ, List.getElem_toArray, List.getElem_cons_zero, List.getElem_cons_succ]
  have hg := (Gr.refl v2).alloc (.cells (kc [7]) 5 (0, 0))
  have hnew := blk_new v2 (.cells (kc [7]) 5 (0, 0))
  replace hG := hG.trans hg
  replace ob2 := ob2.gr hg
  clear hg
  generalize World.alloc _ _ = v3 at *
  generalize v2.heap.size = g3 at *
  refine app_bs (by kernel_rfl) (.tmp 8) (.tmp 9) rfl w.heap.size _ B rfl ob2 _ 1 1 [7] rfl rfl (.inr ⟨g3, 0, rfl, kc_at hnew⟩) (by rw [unhide hBl]; omega) hG.size ?_
  intro x2 v4 ob4 hgr
  simp only [Act.put, List.setIfInBounds_toArray, List.set_cons_zero, List.set_cons_succ, List.getElem_toArray, List.getElem_cons_zero, List.getElem_cons_succ]
  replace hG := Ob.grown ob2 (Nat.le_refl _) hG hgr
  clear hgr ob2 hnew
  obtain ⟨gq, c5, cur, rfl, hgq, hcur, hc5, hmx, _, htk⟩ := ob4.some (by simp)
  have hat := at_take hcur htk
  rw [List.length_append, unhide hBl, List.length_cons, List.length_nil, Nat.zero_add] at hc5 ⊢
  clear ob4 hcur htk
  have hc0 : ¬ c5 = 0 := by omega
  have hmx2 : c5 < 9223372036854775808 := by unfold maxLen at hmx; omega
  clear hmx
  refine list_val (.slice s n cap) (by kernel_rfl) (by kernel_rfl) ?_
  simp only [Act.put, List.setIfInBounds_toArray, List.set_cons_zero, List.set_cons_succ, List.getElem_toArray, List.getElem_cons_zero, List.getElem_cons_succ]
  refine list_val (.int .i64 n) (by kernel_rfl) (by kernel_rfl) ?_
  simp only [Act.put, List.setIfInBounds_toArray, List.set_cons_zero, List.set_cons_succ, List.getElem_toArray, List.getElem_cons_zero, List.getElem_cons_succ]
  refine list_val (.slice (if c5 = 0 then (some ⟨gq, 0, none⟩ : Option Addr) else (some ⟨gq, 0, none⟩ : Option Addr).map (·.add 0)) n c5) (by kernel_rfl) (exec_upto v4 (.tmp 10) (.tmp 12) rfl (some ⟨gq, 0, none⟩) (n + 1) c5 n rfl rfl hc5 (by omega)) ?_
  rw [if_neg hc0, Option.map_some, add_zero]
  simp only [Act.put, List.setIfInBounds_toArray, List.set_cons_zero, List.set_cons_succ, List.getElem_toArray, List.getElem_cons_zero, List.getElem_cons_succ]
  (refine wpList_step fun K hK => ?_; replace hK := hide hK; go_simp; refine unhide hK _ _ ?_; clear hK K)
  refine wpList_nil ?_
  have hP : Hid (Rm B w (.returned (.slice (some ⟨gq, 0, none⟩) n c5)) v4) := ⟨gq, c5, by rw [unhide hBl], by rw [unhide hBl]; exact hc5, hmx2, hgq, hat, hG⟩
  clear hat hG
  go_wp2_with fail
  rw [unhide hT]
  exact unhide hP
/-- the cells of what is used -/
def usd (K N : List Int) (a : Option Addr) (n c : Nat) : Array Value := (K.map (Value.int .u8) ++ (N.map (Value.int .u8) ++ [Value.slice a n c])).toArray
structure Us (K N : List Int) : Prop where
  kl : K.length = 32
  nl : N.length = 12
  kb : IsB K
  nb : IsB N
theorem usd_size {K N : List Int} (u : Us K N) (a : Option Addr) (n c : Nat) : (usd K N a n c).size = 45 := by unfold usd; simp [u.kl, u.nl]
theorem usd_one {K N : List Int} (a : Option Addr) (n c : Nat) : (usd K N a n c).all (·.oneCell') = true := by unfold usd; simp [Value.oneCell']
theorem usd_key {w : World} {g : Nat} {K N : List Int} {a : Option Addr} {n c : Nat} (h : w.heap[g]? = some (.cells (usd K N a n c) 28 (0, 0))) : w.rangeAt g 0 (K.map (Value.int .u8)) := fun j v hj => by
  rw [Nat.zero_add]
  refine cell_of h ?_
  have hl := (List.getElem?_eq_some_iff.1 hj).1
  unfold usd
  rw [List.getElem?_toArray, List.getElem?_append_left hl]
  exact hj
theorem usd_nonce {w : World} {g : Nat} {K N : List Int} {a : Option Addr} {n c : Nat} (u : Us K N) (h : w.heap[g]? = some (.cells (usd K N a n c) 28 (0, 0))) : w.rangeAt g 32 (N.map (Value.int .u8)) := fun j v hj => by
  refine cell_of h ?_
  have hl := (List.getElem?_eq_some_iff.1 hj).1
  have hk := u.kl
  unfold usd
  rw [List.getElem?_toArray, List.getElem?_append_right (by rw [List.length_map]; omega), List.length_map, show 32 + j - K.length = j from by omega, List.getElem?_append_left hl]
  exact hj
theorem usd_get {K N : List Int} {a : Option Addr} {n c : Nat} (u : Us K N) : (usd K N a n c)[44]? = some (.slice a n c) := by
  have hk := u.kl
  have hn := u.nl
  unfold usd
  rw [List.getElem?_toArray, List.getElem?_append_right (by rw [List.length_map]; omega), List.length_map, List.getElem?_append_right (by rw [List.length_map]; omega), List.length_map, show 44 - K.length - N.length = 0 from by omega]
  rfl
theorem usd_ad {w : World} {g : Nat} {K N : List Int} {a : Option Addr} {n c : Nat} (u : Us K N) (h : w.heap[g]? = some (.cells (usd K N a n c) 28 (0, 0))) : w.cell? ⟨g, 44, none⟩ = some (.slice a n c) := cell_of h (usd_get u)
theorem usd_set {K N : List Int} {a b : Option Addr} {n c m d : Nat} (u : Us K N) : (usd K N a n c).setIfInBounds 44 (.slice b m d) = usd K N b m d := by
  have hk := u.kl
  have hn := u.nl
  unfold usd
  rw [List.setIfInBounds_toArray, List.set_append_right _ _ (by rw [List.length_map]; omega), List.length_map, List.set_append_right _ _ (by rw [List.length_map]; omega), List.length_map, show 44 - K.length - N.length = 0 from by omega]
  rfl
theorem Try.infoU8 : (Try.prog.info? 28).map (·.size) = some 45 := by kernel_rfl
/-- the key, the nonce and what is looked at are loaded out of it -/
theorem exec_key {op : Oper} {a : Act} (w : World) (x : Operand) (ho : op.op = .load 23 x) (g : Nat) (hx : a.eval x = .pointer (some ⟨g, 0, none⟩)) (K N : List Int) (s : Option Addr) (n c : Nat) (u : Us K N) (h : w.heap[g]? = some (.cells (usd K N s n c) 28 (0, 0))) :
    (execOp a.eval op).run Try.prog w = .ok (.value (.agg (kc K))) w :=
  exec_row (P := Try.prog) (op := op) (a := a) w 23 x ho g 0 hx (K.map (Value.int .u8)) _ (usd_key h) Try.underlying23 rfl (by rw [Try.infoKey, List.length_map, u.kl])
theorem exec_nonce {op : Oper} {a : Act} (w : World) (x : Operand) (ho : op.op = .load 25 x) (g : Nat) (hx : a.eval x = .pointer (some ⟨g, 32, none⟩)) (K N : List Int) (s : Option Addr) (n c : Nat) (u : Us K N) (h : w.heap[g]? = some (.cells (usd K N s n c) 28 (0, 0))) :
    (execOp a.eval op).run Try.prog w = .ok (.value (.agg (kc N))) w :=
  exec_row (P := Try.prog) (op := op) (a := a) w 25 x ho g 32 hx (N.map (Value.int .u8)) _ (usd_nonce u h) Try.underlying25 rfl (by rw [Try.infoN, List.length_map, u.nl])
theorem exec_bs {op : Oper} {a : Act} (w : World) (x : Operand) (ho : op.op = .load 26 x) (g i : Nat) (hx : a.eval x = .pointer (some ⟨g, i, none⟩)) (s : Option Addr) (n c : Nat) (hc : w.cell? ⟨g, i, none⟩ = some (.slice s n c)) : (execOp a.eval op).run Try.prog w = .ok (.value (.slice s n c)) w := by
  unfold execOp
  simp only [ho, hx, Instr.loadAt, Instr.sureAddr, Sem.run_bind, Sem.run_pure, Result.andThen_ok]
  go_simp
theorem exec_ad {op : Oper} {a : Act} (w : World) (x : Operand) (ho : op.op = .load 26 x) (g : Nat) (hx : a.eval x = .pointer (some ⟨g, 44, none⟩)) (K N : List Int) (s : Option Addr) (n c : Nat) (u : Us K N) (h : w.heap[g]? = some (.cells (usd K N s n c) 28 (0, 0))) :
    (execOp a.eval op).run Try.prog w = .ok (.value (.slice s n c)) w := exec_bs w x ho g 44 hx s n c (usd_ad u h)
/-- what short answers -/
def Shd (K N A : List Int) (w : World) (r : Ending) (w' : World) : Prop := ∃ g c, r = .returned (.agg (usd K N (some ⟨g, 0, none⟩) A.length c)) ∧ A.length + 1 ≤ c ∧ c < 9223372036854775808 ∧ w.heap.size ≤ g ∧ At w' g 0 (A ++ [7]) ∧ Gr w w'
set_option maxHeartbeats 4000000 in
theorem short_ok (K N : List Int) (hu : Us K N) (B : List Int) (s : Option Addr) (len cap : Nat) (w : World) (lb : Lb w s len cap B) : Calls Try.prog 10 #[.agg (usd K N s len cap)] w (Shd K N (B.take (min len 3000)) w) := by
  obtain ⟨T, hT⟩ : ∃ T, T = Shd K N (B.take (min len 3000)) w := ⟨_, rfl⟩
  rw [← hT]
  replace hT := hide hT
  obtain ⟨SU, hSU⟩ : ∃ S, S = usd K N s len cap := ⟨_, rfl⟩
  rw [← hSU]
  replace hSU := hide hSU
  have hn3 : min len 3000 ≤ 3000 := Nat.min_le_right _ _
  obtain ⟨n, hn⟩ : ∃ n, n = min len 3000 := ⟨_, rfl⟩
  have hPl : (B.take (min len 3000)).length = n := by rw [List.length_take, lb.len, hn]; omega
  obtain ⟨A, hA⟩ : ∃ A, A = B.take (min len 3000) := ⟨_, rfl⟩
  rw [← hA] at hT hPl
  replace hA := hide hA
  replace hu := hide hu
  replace lb := hide lb
  replace hn := hide hn
  go_enter Try.func10, Try.ntmps10
  go_upto_region 1 with fail
  have hB := ((Bl.nil w).new SU 28).new #[.int .u8 0, .int .u8 0, .int .u8 0, .int .u8 0, .int .u8 0, .int .u8 0, .int .u8 0, .int .u8 0, .int .u8 0, .int .u8 0, .int .u8 0, .int .u8 0, .int .u8 0, .int .u8 0, .int .u8 0, .int .u8 0, .int .u8 0, .int .u8 0, .int .u8 0, .int .u8 0, .int .u8 0, .int .u8 0, .int .u8 0, .int .u8 0, .int .u8 0, .int .u8 0, .int .u8 0, .int .u8 0, .int .u8 0, .int .u8 0, .int .u8 0, .int .u8 0, .int .u8 0, .int .u8 0, .int .u8 0, .int .u8 0, .int .u8 0, .int .u8 0, .int .u8 0, .int .u8 0, .int .u8 0, .int .u8 0, .int .u8 0, .int .u8 0, .slice none 0 0] 28
  simp only [size_alloc, List.nil_append, List.cons_append] at hB
  generalize World.alloc _ _ = u at *
  rw [unhide hSU] at hB
  replace hB : Bl w [⟨w.heap.size, usd K N s len cap, 28⟩, ⟨w.heap.size + 1, usd ZK ZN none 0 0, 28⟩] u := hB
  refine wp_region_lit ?_
  refine list_val (.pointer (some ⟨w.heap.size, 44, none⟩)) (by kernel_rfl) (by kernel_rfl) ?_
  simp only [Act.put, List.setIfInBounds_toArray, List.set_cons_zero, List.set_cons_succ, List.getElem_toArray, List.getElem_cons_zero, List.getElem_cons_succ]
  refine list_val (.slice s len cap) (by kernel_rfl) (exec_ad _ (.tmp 3) rfl (w.heap.size) (by kernel_rfl) K N s len cap (unhide hu) (hB.get 0 (x := ⟨w.heap.size, usd K N s len cap, 28⟩) rfl)) ?_
  simp only [Act.put, List.setIfInBounds_toArray, List.set_cons_zero, List.set_cons_succ, List.getElem_toArray, List.getElem_cons_zero, List.getElem_cons_succ]
  refine list_call 11 #[.slice s len cap] (by kernel_rfl) (by kernel_rfl) ((cut_ok B s len cap _ ((unhide lb).gr hB.gr)).mono ?_)
  rintro r u1 ⟨s1, rfl, hs1, rfl⟩
  refine ⟨_, rfl, ?_⟩
  rw [← unhide hA] at hs1
  rw [← unhide hn] at hs1 hn3 ⊢
  have l1 : Lb _ s1 n cap A := hs1 _ ((unhide lb).gr hB.gr)
  clear hs1
  simp only [Act.put, List.setIfInBounds_toArray, List.set_cons_zero, List.set_cons_succ, List.getElem_toArray, List.getElem_cons_zero, List.getElem_cons_succ]
  have hgw := hB.gr.size
  have hlt0 := lt_of_block (hB.get 1 (x := ⟨w.heap.size + 1, usd ZK ZN none 0 0, 28⟩) rfl)
  dsimp only at hlt0
  refine list_call 12 #[.slice s1 n cap] (by kernel_rfl) (by kernel_rfl) ((room_ok A s1 n cap hn3 _ l1).mono ?_)
  rintro r u2 ⟨gq, c5, rfl, hc5, hmx, hgq, hat, hg⟩
  refine ⟨_, rfl, ?_⟩
  have hne_ : w.heap.size ≠ gq := by omega
  have hne1 : w.heap.size + 1 ≠ gq := by omega
  replace hB := hB.more hg
  replace hgq := Nat.le_trans hgw hgq
  rw [hPl] at hc5 ⊢
  clear hg l1 hgw hlt0
  simp only [Act.put, List.setIfInBounds_toArray, List.set_cons_zero, List.set_cons_succ, List.getElem_toArray, List.getElem_cons_zero, List.getElem_cons_succ]
  refine list_val (.pointer (some ⟨w.heap.size, 44, none⟩)) (by kernel_rfl) (by kernel_rfl) ?_
  simp only [Act.put, List.setIfInBounds_toArray, List.set_cons_zero, List.set_cons_succ, List.getElem_toArray, List.getElem_cons_zero, List.getElem_cons_succ]
  have c4 := usd_ad (unhide hu) (hB.get 0 (x := ⟨w.heap.size, usd K N s len cap, 28⟩) rfl)
  have fz := froz_of (i := 44) (hB.get 0 (x := ⟨w.heap.size, usd K N s len cap, 28⟩) rfl)
  have hB2 := hB.cell 0 (x := ⟨w.heap.size, usd K N s len cap, 28⟩) rfl 44 (.slice (some ⟨gq, 0, none⟩) n c5)
  simp only [List.set_cons_zero, List.set_cons_succ, usd_set (unhide hu)] at hB2
  have hne : w.heap.size ≠ gq := hne_
  have hat2 : At (World.setCell u2 ⟨w.heap.size, 44, none⟩ (.slice (some ⟨gq, 0, none⟩) n c5)) gq 0 (A ++ [7]) := fun j hj => by
    rw [cell_heap (Below.heap_setCell u2 ⟨w.heap.size, 44, none⟩ _ gq hne.symm)]
    exact hat j hj
  clear hB hat
  dsimp only at c4 fz
  replace hB2 := hide hB2
  replace hat2 := hide hat2
  (refine wpList_step fun K hK => ?_; replace hK := hide hK; go_simp; refine unhide hK _ _ ?_; clear hK K)
  clear c4 fz
  generalize World.setCell _ _ _ = u3 at *
  have hB := unhide hB2
  have hat := unhide hat2
  clear hB2 hat2
  refine wpList_nil ?_
  replace hB := hide hB
  replace hat := hide hat
  go_upto_region 2 with fail
  replace hB := unhide hB
  replace hat := unhide hat
  refine wp_region_lit ?_
  refine list_val (.agg (usd K N (some ⟨gq, 0, none⟩) n c5)) (by kernel_rfl) (exec_arr _ 28 (.tmp 1) rfl (w.heap.size) (by kernel_rfl) (usd K N (some ⟨gq, 0, none⟩) n c5) 28 _ (hB.get 0 (x := ⟨w.heap.size, usd K N (some ⟨gq, 0, none⟩) n c5, 28⟩) rfl) Try.underlying28 rfl (by rw [Try.infoU8, usd_size (unhide hu)])) ?_
  simp only [Act.put, List.setIfInBounds_toArray, List.set_cons_zero, List.set_cons_succ, List.getElem_toArray, List.getElem_cons_zero, List.getElem_cons_succ]
  have hat3 : At (World.setRow u3 (w.heap.size + 1) (usd K N (some ⟨gq, 0, none⟩) n c5)) gq 0 (A ++ [7]) := fun j hj => by
    rw [cell_heap (setRow_other u3 (w.heap.size + 1) gq _ hne1.symm)]
    exact hat j hj
  refine list_store 28 (.tmp 2) (.tmp 8) (w.heap.size + 1) (usd K N (some ⟨gq, 0, none⟩) n c5) 28 (usd ZK ZN none 0 0) (by kernel_rfl) rfl (by kernel_rfl) (by kernel_rfl) (hB.get 1 (x := ⟨w.heap.size + 1, usd ZK ZN none 0 0, 28⟩) rfl) (by rw [Try.infoU8, usd_size (unhide hu)]) ((show (usd ZK ZN none 0 0).size = 45 from rfl).trans (usd_size (unhide hu) _ _ _).symm) (usd_one _ _ _) ?_
  replace hB := hB.set 1 (x := ⟨w.heap.size + 1, usd ZK ZN none 0 0, 28⟩) rfl (usd K N (some ⟨gq, 0, none⟩) n c5)
  simp only [List.set_cons_zero, List.set_cons_succ] at hB
  clear hat
  generalize World.setRow _ _ _ = u4 at *
  simp only [Act.put, List.setIfInBounds_toArray, List.set_cons_zero, List.set_cons_succ, List.getElem_toArray, List.getElem_cons_zero, List.getElem_cons_succ]
  refine wpList_nil ?_
  replace hB := hide hB
  replace hat3 := hide hat3
  go_wp2_with fail
  replace hB := unhide hB
  rw [unhide hT]
  exact bodyPost_ret (v := .agg (usd K N (some ⟨gq, 0, none⟩) n c5)) (results_cell_row Try.results10 _ _ (w.heap.size + 1) 28 (usd K N (some ⟨gq, 0, none⟩) n c5) (0, 0) _ rfl (hB.get 1 (x := ⟨w.heap.size + 1, usd K N (some ⟨gq, 0, none⟩) n c5, 28⟩) rfl) Try.underlying28 rfl (by rw [Try.infoU8, usd_size (unhide hu)])) rfl ⟨gq, c5, by rw [hPl], by rw [hPl]; exact hc5, hmx, hgq, unhide hat3, hB.gr⟩
end Go.Proofs.Ytdekjbdkpchbjaa
