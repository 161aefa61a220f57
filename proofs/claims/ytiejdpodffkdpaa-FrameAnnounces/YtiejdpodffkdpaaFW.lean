/-
  Layer 14: bytes there and back; wakes, cut, room.
-/
import Derived.Test.YtiejdpodffkdpaaFO
namespace Go.Proofs.Ytiejdpodffkdpaa
open Go.RowKit
set_option maxRecDepth 100000
set_option linter.unusedSimpArgs false
set_option linter.unusedVariables false
theorem dt_mid (A M D : List Int) (n m : Nat) (hA : A.length = n) (hM : M.length = m) : ((A ++ (M ++ D)).drop n).take m = M := by
  subst hA hM
  rw [List.drop_left, List.take_left]
theorem u4_back {x : Int} (h : U4 x) : lowN (lowL x 4) = x := lowN_lowL 4 x h.1 (by have := h.2; simpa using this)
theorem hdO_hdB {K : List Int} (hK : K.length = 32) {p q : Int} (hp : U4 p) (hq : U4 q) (D : List Int) : hdO (hdB K p q ++ D) 0 = hdl K p q := by
  unfold hdO
  have e1 : hdB K p q ++ D = [] ++ (K ++ (lowL p 4 ++ (lowL q 4 ++ D))) := by unfold hdB; simp
  have e2 : hdB K p q ++ D = K ++ (lowL p 4 ++ (lowL q 4 ++ D)) := by unfold hdB; simp
  have e3 : hdB K p q ++ D = (K ++ lowL p 4) ++ (lowL q 4 ++ D) := by unfold hdB; simp
  have h1 := dt_mid [] K (lowL p 4 ++ (lowL q 4 ++ D)) 0 32 rfl hK
  have h2 := dt_mid K (lowL p 4) (lowL q 4 ++ D) 32 4 hK (lowL_len _ _)
  have h3 := dt_mid (K ++ lowL p 4) (lowL q 4) D 36 4 (by simp [hK, lowL_len]) (lowL_len _ _)
  rw [← e1] at h1
  rw [← e2] at h2
  rw [← e3] at h3
  rw [h1, Nat.zero_add, h2, Nat.zero_add, h3, u4_back hp, u4_back hq]
theorem msO_msB {K : List Int} (hK : K.length = 32) {p q : Int} (hp : U4 p) (hq : U4 q) {B : List Int} (hB : B.length = 65) : msO (hdB K p q ++ B) = msl K p q B := by
  have h := hdO_hdB hK hp hq B
  unfold hdO at h
  have h4 := dt_mid (hdB K p q) B [] 40 65 (hdB_len hK p q) hB
  rw [List.append_nil] at h4
  unfold msO
  rw [h4]
  have e1 := congrArg (fun l => l ++ bv B) h
  have f : ∀ (a : List Int) (b c : Int) (d : List Int), hdl a b c ++ bv d = msl a b c d := fun a b c d => by rw [msl_hdl]; simp
  simpa [f] using e1
theorem xcO_xcB {D B : List Int} (hD : D.length = 16) (hB : B.length = 130) : xcO (D ++ B) = xcl D B := by
  have h1 := dt_mid [] D B 0 16 rfl hD
  have h2 := dt_mid D B [] 16 130 hD hB
  rw [List.nil_append] at h1
  rw [List.append_nil] at h2
  unfold xcO
  rw [h1, h2]
theorem evO_evB {k a s : Int} {B : List Int} (ha : U4 a) (hs : U4 s) (hB : B.length = 105) : evO (evB k a s B) = evl k a s B ∧ evRO (evB k a s B) = evR k s B := by
  have e1 : evB k a s B = [k] ++ (lowL a 4 ++ (lowL s 4 ++ B)) := by unfold evB; simp
  have e2 : evB k a s B = ([k] ++ lowL a 4) ++ (lowL s 4 ++ B) := by unfold evB; simp
  have e3 : evB k a s B = (([k] ++ lowL a 4) ++ lowL s 4) ++ (B ++ []) := by unfold evB; simp
  have h1 := dt_mid [k] (lowL a 4) (lowL s 4 ++ B) 1 4 rfl (lowL_len _ _)
  have h2 := dt_mid ([k] ++ lowL a 4) (lowL s 4) B 5 4 (by simp [lowL_len]) (lowL_len _ _)
  have h3 := dt_mid (([k] ++ lowL a 4) ++ lowL s 4) B [] 9 105 (by simp [lowL_len]) hB
  rw [← e1] at h1
  rw [← e2] at h2
  rw [← e3] at h3
  have h0 : (evB k a s B).getD 0 0 = k := by rw [e1]; rfl
  unfold evO evRO
  rw [h0, h1, h2, h3, u4_back ha, u4_back hs]
  exact ⟨rfl, rfl⟩
theorem evB_len (k a s : Int) {B : List Int} (hB : B.length = 105) : (evB k a s B).length = 114 := by unfold evB; simp [lowL_len, hB]
theorem evB_isB {k a s : Int} {B : List Int} (hb : IsB B) (hk : k = 0 ∨ k = 1) : IsB (evB k a s B) := isB_append (isB_append (isB_append (fun y hy => by rw [List.mem_singleton.1 hy]; omega) (lowL_isB _ _)) (lowL_isB _ _)) hb
/-- what cut answers -/
def Cutd (B : List Int) (s : Option Addr) (len cap : Nat) (w : World) (r : Ending) (w' : World) : Prop := ∃ s1, r = .returned (.slice s1 (min len 1000) cap) ∧ (∀ v, Lb v s len cap B → Lb v s1 (min len 1000) cap (B.take (min len 1000))) ∧ w' = w
set_option maxHeartbeats 4000000 in
theorem jcut_ok (B : List Int) (s : Option Addr) (len cap : Nat) (w : World) (lb : Lb w s len cap B) : Calls Try.prog 5 #[.slice s len cap] w (Cutd B s len cap w) := by
  obtain ⟨T, hT⟩ : ∃ T, T = Cutd B s len cap w := ⟨_, rfl⟩
  rw [← hT]
  replace hT := hide hT
  replace lb := hide lb
  obtain ⟨n, hn⟩ : ∃ n, n = min len 1000 := ⟨_, rfl⟩
  have i3 : (if (1000 : Int) < (len : Int) then (1000 : Int) else (len : Int)) = (n : Int) := by split <;> omega
  have i4 : (if 1000 < len then (1000 : Int) else (len : Int)) = (n : Int) := by split <;> omega
  have hnl : n ≤ len := by omega
  replace hn := hide hn
  go_enter Try.func5, Try.ntmps5
  go_upto_region 1 with fail
  refine wp_region_lit ?_
  refine list_val (.slice s len cap) (by kernel_rfl) (by kernel_rfl) ?_
  simp only [Act.put, List.setIfInBounds_toArray, List.set_cons_zero, List.set_cons_succ, List.getElem_toArray, List.getElem_cons_zero, List.getElem_cons_succ]
  refine list_val (.slice s len cap) (by kernel_rfl) (by kernel_rfl) ?_
  simp only [Act.put, List.setIfInBounds_toArray, List.set_cons_zero, List.set_cons_succ, List.getElem_toArray, List.getElem_cons_zero, List.getElem_cons_succ]
  refine list_val (.int .i64 len) (by kernel_rfl) (by kernel_rfl) ?_
  simp only [Act.put, List.setIfInBounds_toArray, List.set_cons_zero, List.set_cons_succ, List.getElem_toArray, List.getElem_cons_zero, List.getElem_cons_succ]
  refine list_val (.int .i64 n) (by kernel_rfl) (by go_simp) ?_
  simp only [Act.put, List.setIfInBounds_toArray, List.set_cons_zero, List.set_cons_succ, List.getElem_toArray, List.getElem_cons_zero, List.getElem_cons_succ]
  refine list_upto (.tmp 3) (.tmp 6) (by kernel_rfl) rfl s len cap n rfl rfl B (unhide lb) hnl ?_
  intro s1 hs1
  simp only [Act.put, List.setIfInBounds_toArray, List.set_cons_zero, List.set_cons_succ, List.getElem_toArray, List.getElem_cons_zero, List.getElem_cons_succ]
  (refine wpList_step fun K hK => ?_; replace hK := hide hK; go_simp; refine unhide hK _ _ ?_; clear hK K)
  refine wpList_nil ?_
  have hP : Hid (Cutd B s len cap w (.returned (.slice s1 n cap)) w) := ⟨s1, by rw [← unhide hn], by rw [← unhide hn]; exact hs1, rfl⟩
  clear hs1
  go_wp2_with fail
  rw [unhide hT]
  exact unhide hP
/-- what room answers -/
def Rm (B : List Int) (w : World) (r : Ending) (w' : World) : Prop := ∃ g c, r = .returned (.slice (some ⟨g, 0, none⟩) B.length c) ∧ B.length + 1 ≤ c ∧ c < 9223372036854775808 ∧ w.heap.size ≤ g ∧ At w' g 0 (B ++ [7]) ∧ Gr w w'
set_option maxHeartbeats 4000000 in
theorem jroom_ok (B : List Int) (s : Option Addr) (n cap : Nat) (hbig : n ≤ 1000) (w : World) (lb : Lb w s n cap B) : Calls Try.prog 12 #[.slice s n cap] w (Rm B w) := by
  obtain ⟨T, hT⟩ : ∃ T, T = Rm B w := ⟨_, rfl⟩
  rw [← hT]
  replace hT := hide hT
  have hBl := hide lb.len
  have hBb := hide lb.isB
  replace lb := hide lb
  obtain ⟨n3, hn3⟩ : ∃ x, x = n + 20 := ⟨_, rfl⟩
  have j1 : (n : Int) + 20 = (n3 : Int) := by omega
  have j2 : IntKind.i64.wrap (n3 : Int) = (n3 : Int) := by rw [IntKind.wrap_i64]; omega
  have hn4 : n3 ≤ 5000 := by omega
  replace hn3 := hide hn3
  go_enter Try.func12, Try.ntmps12
  go_upto_region 1 with fail
  refine wp_region_lit ?_
  refine list_val (.slice s n cap) (by kernel_rfl) (by kernel_rfl) ?_
  simp only [Act.put, List.setIfInBounds_toArray, List.set_cons_zero, List.set_cons_succ, List.getElem_toArray, List.getElem_cons_zero, List.getElem_cons_succ]
  refine list_val (.int .i64 n) (by kernel_rfl) (by kernel_rfl) ?_
  simp only [Act.put, List.setIfInBounds_toArray, List.set_cons_zero, List.set_cons_succ, List.getElem_toArray, List.getElem_cons_zero, List.getElem_cons_succ]
  refine list_val (.int .i64 n3) (by kernel_rfl) (by go_simp) ?_
  simp only [Act.put, List.setIfInBounds_toArray, List.set_cons_zero, List.set_cons_succ, List.getElem_toArray, List.getElem_cons_zero, List.getElem_cons_succ]
  refine wpList_make_room w rfl (.const (.int .i64 0)) (.tmp 5) rfl 0 n3 0 n3 rfl rfl rfl rfl (Nat.zero_le _) (by omega) ?_
  simp only [Act.put, List.setIfInBounds_toArray, List.set_cons_zero, List.set_cons_succ, List.getElem_toArray, List.getElem_cons_zero, List.getElem_cons_succ]
  have hG := (Gr.refl w).alloc (.cells (kc (List.replicate n3 0)) 5 (0, 0))
  have ob := ob_room (b := w.heap.size) (blk_new w (.cells (kc (List.replicate n3 0)) 5 (0, 0))) (Nat.le_refl _) (by omega)
  generalize World.alloc _ _ = v1 at *
  refine list_val (.slice s n cap) (by kernel_rfl) (by kernel_rfl) ?_
  simp only [Act.put, List.setIfInBounds_toArray, List.set_cons_zero, List.set_cons_succ, List.getElem_toArray, List.getElem_cons_zero, List.getElem_cons_succ]
  refine app_bs (by kernel_rfl) (.tmp 6) (.tmp 7) rfl w.heap.size _ [] rfl ob _ n cap B rfl (unhide hBl) ((unhide lb).gr hG).sl (by simp; omega) hG.size ?_
  intro x1 v2 ob2 hgr
  simp only [Act.put, List.setIfInBounds_toArray, List.set_cons_zero, List.set_cons_succ, List.getElem_toArray, List.getElem_cons_zero, List.getElem_cons_succ]
  replace hG := Ob.grown ob (Nat.le_refl _) hG hgr
  clear hgr ob
  rw [List.nil_append] at ob2
  refine list_valw (.slice (some ⟨v2.heap.size, 0, none⟩) 1 1) (v2.alloc (.cells (kc [7]) 5 (0, 0))) (by kernel_rfl) (by kernel_rfl) ?_
  simp only [Act.put, List.setIfInBounds_toArray, List.set_cons_zero, List.set_cons_succ, List.getElem_toArray, List.getElem_cons_zero, List.getElem_cons_succ]
  have hg := (Gr.refl v2).alloc (.cells (kc [7]) 5 (0, 0))
  have hnew := blk_new v2 (.cells (kc [7]) 5 (0, 0))
  replace hG := hG.trans hg
  replace ob2 := ob2.gr hg
  clear hg
  generalize World.alloc _ _ = v3 at *
  generalize v2.heap.size = g3 at *
  refine app_bs (by kernel_rfl) (.tmp 8) (.tmp 9) rfl w.heap.size _ B rfl ob2 _ 1 1 [7] rfl rfl (.inr ⟨g3, 0, rfl, kc_at hnew⟩) (by rw [unhide hBl]; omega) hG.size ?_
  intro x2 v4 ob4 hgr
  simp only [Act.put, List.setIfInBounds_toArray, List.set_cons_zero, List.set_cons_succ, List.getElem_toArray, List.getElem_cons_zero, List.getElem_cons_succ]
  replace hG := Ob.grown ob2 (Nat.le_refl _) hG hgr
  clear hgr ob2 hnew
  obtain ⟨gq, c5, cur, rfl, hgq, hcur, hc5, hmx, _, htk⟩ := ob4.some (by simp)
  have hat := at_take hcur htk
  rw [List.length_append, unhide hBl, List.length_cons, List.length_nil, Nat.zero_add] at hc5 ⊢
  clear ob4 hcur htk
  have hc0 : ¬ c5 = 0 := by omega
  have hmx2 : c5 < 9223372036854775808 := by unfold maxLen at hmx; omega
  clear hmx
  refine list_val (.slice s n cap) (by kernel_rfl) (by kernel_rfl) ?_
  simp only [Act.put, List.setIfInBounds_toArray, List.set_cons_zero, List.set_cons_succ, List.getElem_toArray, List.getElem_cons_zero, List.getElem_cons_succ]
  refine list_val (.int .i64 n) (by kernel_rfl) (by kernel_rfl) ?_
  simp only [Act.put, List.setIfInBounds_toArray, List.set_cons_zero, List.set_cons_succ, List.getElem_toArray, List.getElem_cons_zero, List.getElem_cons_succ]
  refine list_val (.slice (if c5 = 0 then (some ⟨gq, 0, none⟩ : Option Addr) else (some ⟨gq, 0, none⟩ : Option Addr).map (·.add 0)) n c5) (by kernel_rfl) (exec_upto v4 (.tmp 10) (.tmp 12) rfl (some ⟨gq, 0, none⟩) (n + 1) c5 n rfl rfl hc5 (by omega)) ?_
  rw [if_neg hc0, Option.map_some, add_zero]
  simp only [Act.put, List.setIfInBounds_toArray, List.set_cons_zero, List.set_cons_succ, List.getElem_toArray, List.getElem_cons_zero, List.getElem_cons_succ]
  (refine wpList_step fun K hK => ?_; replace hK := hide hK; go_simp; refine unhide hK _ _ ?_; clear hK K)
  refine wpList_nil ?_
  have hP : Hid (Rm B w (.returned (.slice (some ⟨gq, 0, none⟩) n c5)) v4) := ⟨gq, c5, by rw [unhide hBl], by rw [unhide hBl]; exact hc5, hmx2, hgq, hat, hG⟩
  clear hat hG
  go_wp2_with fail
  rw [unhide hT]
  exact unhide hP
theorem Z32_isB : IsB Z32 := fun x hx => by have := List.eq_of_mem_replicate hx; omega
def Woke (w : World) (r : Ending) (w' : World) : Prop := r = .returned (.bool true) ∧ Gr w w'
set_option maxHeartbeats 4000000 in
theorem jwakes_ok (w : World) : Calls Try.prog 4 #[] w (Woke w) := by
  obtain ⟨T, hT⟩ : ∃ T, T = Woke w := ⟨_, rfl⟩
  rw [← hT]
  replace hT := hide hT
  go_enter Try.func4, Try.ntmps4
  go_upto_region 1 with fail
  refine wp_region_lit ?_
  refine list_val (.agg (hdl Z32 0 258).toArray) (by kernel_rfl) (by kernel_rfl) ?_
  simp only [Act.put, List.setIfInBounds_toArray, List.set_cons_zero, List.set_cons_succ, List.getElem_toArray, List.getElem_cons_zero, List.getElem_cons_succ]
  refine list_call 14 #[.agg (hdl Z32 0 258).toArray] (by kernel_rfl) (by kernel_rfl) ((fputh_ok Z32 rfl Z32_isB 0 258 ⟨by decide, by decide⟩ ⟨by decide, by decide⟩ w).mono ?_)
  rintro r u1 ⟨v1, rfl, hO1, hG⟩
  obtain ⟨a1, c1, rfl, hlb⟩ := ob_lb hO1 (hdB_isB Z32_isB 0 258) (hdB_len rfl 0 258)
  clear hO1
  replace hlb := hide hlb; replace hG := hide hG
  refine ⟨_, rfl, ?_⟩
  simp only [Act.put, List.setIfInBounds_toArray, List.set_cons_zero, List.set_cons_succ, List.getElem_toArray, List.getElem_cons_zero, List.getElem_cons_succ]
  (refine wpList_step fun K hK => ?_; replace hK := hide hK; go_simp; refine unhide hK _ _ ?_; clear hK K)
  refine wpList_nil ?_
  go_upto_region 2 with fail
  refine wp_region_lit ?_
  refine list_val (.slice a1 40 c1) (by kernel_rfl) (by kernel_rfl) ?_
  simp only [Act.put, List.setIfInBounds_toArray, List.set_cons_zero, List.set_cons_succ, List.getElem_toArray, List.getElem_cons_zero, List.getElem_cons_succ]
  refine list_call 15 #[.slice a1 40 c1] (by kernel_rfl) (by kernel_rfl) ((fgeth_ok (hdB Z32 0 258) a1 c1 u1 (unhide hlb)).mono ?_)
  rintro r u2 ⟨rfl, hg⟩
  have e9 := hdO_hdB (K := Z32) rfl (p := 0) (q := 258) ⟨by decide, by decide⟩ ⟨by decide, by decide⟩ []
  rw [List.append_nil] at e9
  rw [e9]
  replace hG := hide ((unhide hG).trans hg)
  clear hg e9
  refine ⟨_, rfl, ?_⟩
  simp only [Act.put, List.setIfInBounds_toArray, List.set_cons_zero, List.set_cons_succ, List.getElem_toArray, List.getElem_cons_zero, List.getElem_cons_succ]
  refine list_val (.tuple #[.agg (hdl Z32 0 258).toArray, .int .i64 0]) (by kernel_rfl) (by kernel_rfl) ?_
  simp only [Act.put, List.setIfInBounds_toArray, List.set_cons_zero, List.set_cons_succ, List.getElem_toArray, List.getElem_cons_zero, List.getElem_cons_succ]
  refine list_val (.agg (hdl Z32 0 258).toArray) (by kernel_rfl) (by kernel_rfl) ?_
  simp only [Act.put, List.setIfInBounds_toArray, List.set_cons_zero, List.set_cons_succ, List.getElem_toArray, List.getElem_cons_zero, List.getElem_cons_succ]
  refine list_val (.int .i64 0) (by kernel_rfl) (by kernel_rfl) ?_
  simp only [Act.put, List.setIfInBounds_toArray, List.set_cons_zero, List.set_cons_succ, List.getElem_toArray, List.getElem_cons_zero, List.getElem_cons_succ]
  refine list_valw (.pointer (some ⟨u2.heap.size, 0, none⟩)) (u2.alloc (.cells (hdl Z32 0 0).toArray 46 (0, 0))) (by kernel_rfl) (by kernel_rfl) ?_
  have hB := (Bl.nil u2).new (hdl Z32 0 0).toArray 46
  simp only [List.nil_append] at hB
  generalize World.alloc _ _ = u3 at *
  generalize u2.heap.size = q4 at *
  replace hB : Bl u2 [⟨q4, (hdl Z32 0 0).toArray, 46⟩] u3 := hB
  simp only [Act.put, List.setIfInBounds_toArray, List.set_cons_zero, List.set_cons_succ, List.getElem_toArray, List.getElem_cons_zero, List.getElem_cons_succ]
  refine list_store 46 (.tmp 2) (.tmp 9) q4 (hdl Z32 0 258).toArray 46 (hdl Z32 0 0).toArray (by kernel_rfl) rfl (by kernel_rfl) (by kernel_rfl) (hB.get 0 (x := ⟨q4, (hdl Z32 0 0).toArray, 46⟩) rfl) (by rw [Try.infoH]; rfl) rfl (hdl_one ..) ?_
  replace hB := hB.set 0 (x := ⟨q4, (hdl Z32 0 0).toArray, 46⟩) rfl (hdl Z32 0 258).toArray
  simp only [List.set_cons_zero] at hB
  generalize World.setRow _ _ _ = u4 at *
  replace hG := hide ((unhide hG).trans hB.gr)
  have hq4 : Hid (u4.heap[q4]? = some (.cells (hdl Z32 0 258).toArray 46 (0, 0))) := hB.get 0 (x := ⟨q4, (hdl Z32 0 258).toArray, 46⟩) rfl
  clear hB
  simp only [Act.put, List.setIfInBounds_toArray, List.set_cons_zero, List.set_cons_succ, List.getElem_toArray, List.getElem_cons_zero, List.getElem_cons_succ]
  (refine wpList_step fun K hK => ?_; replace hK := hide hK; go_simp; refine unhide hK _ _ ?_; clear hK K)
  refine wpList_nil ?_
  go_upto_region 3 with fail
  refine wp_region_lit ?_
  refine list_val (.slice a1 40 c1) (by kernel_rfl) (by kernel_rfl) ?_
  simp only [Act.put, List.setIfInBounds_toArray, List.set_cons_zero, List.set_cons_succ, List.getElem_toArray, List.getElem_cons_zero, List.getElem_cons_succ]
  refine list_val (.int .i64 40) (by kernel_rfl) (by kernel_rfl) ?_
  simp only [Act.put, List.setIfInBounds_toArray, List.set_cons_zero, List.set_cons_succ, List.getElem_toArray, List.getElem_cons_zero, List.getElem_cons_succ]
  refine list_val (.bool true) (by kernel_rfl) (by kernel_rfl) ?_
  simp only [Act.put, List.setIfInBounds_toArray, List.set_cons_zero, List.set_cons_succ, List.getElem_toArray, List.getElem_cons_zero, List.getElem_cons_succ]
  refine list_val (.bool true) (by kernel_rfl) (by kernel_rfl) ?_
  simp only [Act.put, List.setIfInBounds_toArray, List.set_cons_zero, List.set_cons_succ, List.getElem_toArray, List.getElem_cons_zero, List.getElem_cons_succ]
  refine list_val (.int .i64 0) (by kernel_rfl) (by kernel_rfl) ?_
  simp only [Act.put, List.setIfInBounds_toArray, List.set_cons_zero, List.set_cons_succ, List.getElem_toArray, List.getElem_cons_zero, List.getElem_cons_succ]
  refine list_val (.bool true) (by kernel_rfl) (by kernel_rfl) ?_
  simp only [Act.put, List.setIfInBounds_toArray, List.set_cons_zero, List.set_cons_succ, List.getElem_toArray, List.getElem_cons_zero, List.getElem_cons_succ]
  refine list_val (.bool true) (by kernel_rfl) (by kernel_rfl) ?_
  simp only [Act.put, List.setIfInBounds_toArray, List.set_cons_zero, List.set_cons_succ, List.getElem_toArray, List.getElem_cons_zero, List.getElem_cons_succ]
  refine list_val (.bool true) (by kernel_rfl) (by kernel_rfl) ?_
  simp only [Act.put, List.setIfInBounds_toArray, List.set_cons_zero, List.set_cons_succ, List.getElem_toArray, List.getElem_cons_zero, List.getElem_cons_succ]
  refine list_val (.pointer (some ⟨q4, 33, none⟩)) (by kernel_rfl) (by kernel_rfl) ?_
  simp only [Act.put, List.setIfInBounds_toArray, List.set_cons_zero, List.set_cons_succ, List.getElem_toArray, List.getElem_cons_zero, List.getElem_cons_succ]
  refine list_val (.int .u32 258) (by kernel_rfl) (exec_u32 _ (.tmp 19) rfl q4 33 (by kernel_rfl) 258 (cell_of (unhide hq4) (hd_num rfl 0 258))) ?_
  simp only [Act.put, List.setIfInBounds_toArray, List.set_cons_zero, List.set_cons_succ, List.getElem_toArray, List.getElem_cons_zero, List.getElem_cons_succ]
  refine list_val (.bool true) (by kernel_rfl) (by kernel_rfl) ?_
  simp only [Act.put, List.setIfInBounds_toArray, List.set_cons_zero, List.set_cons_succ, List.getElem_toArray, List.getElem_cons_zero, List.getElem_cons_succ]
  refine list_val (.bool true) (by kernel_rfl) (by kernel_rfl) ?_
  simp only [Act.put, List.setIfInBounds_toArray, List.set_cons_zero, List.set_cons_succ, List.getElem_toArray, List.getElem_cons_zero, List.getElem_cons_succ]
  refine list_val (.bool true) (by kernel_rfl) (by kernel_rfl) ?_
  simp only [Act.put, List.setIfInBounds_toArray, List.set_cons_zero, List.set_cons_succ, List.getElem_toArray, List.getElem_cons_zero, List.getElem_cons_succ]
  refine list_call 16 #[.int .i64 1] (by kernel_rfl) (by kernel_rfl) ((fon_ok 1 u4).mono ?_)
  rintro r u5 ⟨rfl, hg⟩
  have hZ : Hid (Woke w (.returned (.bool true)) u5) := ⟨rfl, (unhide hG).trans hg⟩
  clear hg
  rw [show onz 1 = 194 from rfl]
  refine ⟨_, rfl, ?_⟩
  simp only [Act.put, List.setIfInBounds_toArray, List.set_cons_zero, List.set_cons_succ, List.getElem_toArray, List.getElem_cons_zero, List.getElem_cons_succ]
  refine list_val (.bool true) (by kernel_rfl) (by kernel_rfl) ?_
  simp only [Act.put, List.setIfInBounds_toArray, List.set_cons_zero, List.set_cons_succ, List.getElem_toArray, List.getElem_cons_zero, List.getElem_cons_succ]
  refine list_val (.bool true) (by kernel_rfl) (by kernel_rfl) ?_
  simp only [Act.put, List.setIfInBounds_toArray, List.set_cons_zero, List.set_cons_succ, List.getElem_toArray, List.getElem_cons_zero, List.getElem_cons_succ]
  (refine wpList_step fun K hK => ?_; replace hK := hide hK; go_simp; refine unhide hK _ _ ?_; clear hK K)
  refine wpList_nil ?_
  go_wp2_with fail
  rw [unhide hT]
  exact unhide hZ
end Go.Proofs.Ytiejdpodffkdpaa
