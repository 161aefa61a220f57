/-
  A byte's two digits behind a text; a key's text; which key is less.
-/
import Derived.Test.YtpmgmpihmpifgaaDoorIC
namespace Go.Proofs.YtpmgmpihmpifgaaDoor
open Go.RowKit
set_option maxRecDepth 100000
set_option linter.unusedSimpArgs false
set_option linter.unusedVariables false
/-- what is put behind a list of bytes of one's own -/
def Pdd (b : Nat) (v : Value) (L : List Int) (w : World) (r : Ending) (w' : World) : Prop := ∃ v', r = .returned v' ∧ Ob b w' v' L ∧ w.grownBy w' v.ownBlock
theorem hx_hi (c : Int) (h : 0 ≤ c ∧ c < 256) : (strOfNums [48, 49, 50, 51, 52, 53, 54, 55, 56, 57, 97, 98, 99, 100, 101, 102]) = ⟨#[48, 49, 50, 51, 52, 53, 54, 55, 56, 57, 97, 98, 99, 100, 101, 102]⟩ := rfl
def XD : List Int := [48, 49, 50, 51, 52, 53, 54, 55, 56, 57, 97, 98, 99, 100, 101, 102]
theorem XD_isB : IsB XD := by unfold IsB XD; decide
theorem XD_at (n : Nat) (h : n < 16) : XD.getD n 0 = hx (n : Int) := by
  have : ∀ k : Fin 16, XD.getD k.val 0 = hx (k.val : Int) := by decide
  exact this ⟨n, h⟩
theorem and15 (c : Int) (h : 0 ≤ c ∧ c < 256) : bits .and .u8 c 15 = c % 16 := by
  have : ∀ k : Fin 256, bits .and .u8 (k.val : Int) 15 = (k.val : Int) % 16 := by decide +kernel
  have h1 := this ⟨c.toNat, by omega⟩
  have e : ((c.toNat : Nat) : Int) = c := Int.toNat_of_nonneg h.1
  simpa only [e] using h1
theorem grown_trans {u v x : World} {row : Option Nat} (h : u.grownBy v row) (k : v.grownBy x row) : u.grownBy x row :=
  ⟨k.os.trans h.os, k.tape.trans h.tape, k.output.trans h.output, Nat.le_trans h.size k.size, fun i hi hn => (k.block i (Nat.lt_of_lt_of_le hi h.size) hn).trans (h.block i hi hn)⟩
theorem grown_of_gr {u v : World} (h : Gr u v) (row : Option Nat) : u.grownBy v row := ⟨h.os, h.tape, h.output, h.size, fun i hi _ => h.block i hi⟩
set_option maxHeartbeats 4000000 in
theorem putdig_ok (b : Nat) (v : Value) (L : List Int) (c : Int) (hc : 0 ≤ c ∧ c < 256) (w : World) (hb : b ≤ w.heap.size) (hO : Ob b w v L) (hL : L.length ≤ 90000) : Calls Tryd.prog 31 #[v, .int .u8 c] w (Pdd b v (L ++ [hx (c / 16), hx (c % 16)]) w) := by
  obtain ⟨T, hT⟩ : ∃ T, T = Pdd b v (L ++ [hx (c / 16), hx (c % 16)]) w := ⟨_, rfl⟩
  rw [← hT]
  replace hT := hide hT
  obtain ⟨a, cp, rfl, _⟩ := hO.slice
  obtain ⟨hi, hhi⟩ : ∃ n : Nat, n = (c / 16).toNat := ⟨_, rfl⟩
  obtain ⟨lo, hlo⟩ : ∃ n : Nat, n = (c % 16).toNat := ⟨_, rfl⟩
  have e1 : c / 16 = (hi : Int) := by omega
  have e2 : c % 16 = (lo : Int) := by omega
  have l1 : hi < 16 := by omega
  have l2 : lo < 16 := by omega
  have x1 := XD_at hi l1
  have x2 := XD_at lo l2
  rw [e1, e2] at hT
  rw [← x1, ← x2] at hT
  obtain ⟨p, hp⟩ : ∃ p, p = XD.getD hi 0 := ⟨_, rfl⟩
  obtain ⟨q, hq⟩ : ∃ q, q = XD.getD lo 0 := ⟨_, rfl⟩
  rw [← hp, ← hq] at hT
  obtain ⟨ln, hln⟩ : ∃ k, k = L.length := ⟨_, rfl⟩
  have s1 : (c / 2 ^ 4 : Int) = (hi : Int) := by rw [← e1]; rfl
  have s2 := (and15 c hc).trans e2
  rw [← hln] at hO hT ⊢
  clear x1 x2 e1 e2 hhi hlo
  replace hO := hide hO
  replace hp := hide hp
  replace hq := hide hq
  replace hln := hide hln
  replace s1 := hide s1
  replace s2 := hide s2
  replace hc := hide hc
  go_enter Tryd.func31, Tryd.ntmps31
  go_upto_region 1 with fail
  refine any_start (S := fun (_ : World) => True) (by kernel_rfl) ?_
  have hG : Gr w (World.drew w) := (Gr.refl _).drew
  replace hO := hide ((unhide hO).gr hG)
  generalize World.drew _ = x0 at *
  simp only [List.size_toArray, List.length_cons, List.length_nil, Array.replicate, List.replicate]
  refine any_take (i := 0) (v := (.slice a ln cp)) #[false, false, false, false, false, false, false, false, false, false] rfl (by kernel_rfl) (by kernel_rfl) (by kernel_rfl) (by kernel_rfl) (fun _ _ _ h => h) (.inl ⟨by kernel_rfl, fun x_ hu => by kernel_rfl⟩) trivial ?_
  simp only [Act.put, List.setIfInBounds_toArray, List.set_cons_zero, List.set_cons_succ, List.getElem_toArray, List.getElem_cons_zero, List.getElem_cons_succ]
  refine any_take (i := 1) (v := (.int .u8 c)) #[true, false, false, false, false, false, false, false, false, false] rfl (by kernel_rfl) (by kernel_rfl) (by kernel_rfl) (by kernel_rfl) (fun _ _ _ h => h) (.inl ⟨by kernel_rfl, fun x_ hu => by kernel_rfl⟩) trivial ?_
  simp only [Act.put, List.setIfInBounds_toArray, List.set_cons_zero, List.set_cons_succ, List.getElem_toArray, List.getElem_cons_zero, List.getElem_cons_succ]
  refine any_take (i := 2) (v := (.int .u8 (hi : Int))) #[true, true, false, false, false, false, false, false, false, false] rfl (by kernel_rfl) (by kernel_rfl) (by kernel_rfl) (by kernel_rfl) (fun _ _ _ h => h) (.inl ⟨by kernel_rfl, fun x_ hu => by have h := unhide s1; go_simp; exact h⟩) trivial ?_
  simp only [Act.put, List.setIfInBounds_toArray, List.set_cons_zero, List.set_cons_succ, List.getElem_toArray, List.getElem_cons_zero, List.getElem_cons_succ]
  refine any_take (i := 3) (v := (.int .u8 p)) #[true, true, true, false, false, false, false, false, false, false] rfl (by kernel_rfl) (by kernel_rfl) (by kernel_rfl) (by kernel_rfl) (fun _ _ _ h => h) (.inl ⟨by kernel_rfl, fun x_ hu => by rw [unhide hp]; exact exec_six _ (.const (.string ⟨#[48, 49, 50, 51, 52, 53, 54, 55, 56, 57, 97, 98, 99, 100, 101, 102]⟩)) (.tmp 7) rfl XD XD_isB .u8 hi rfl (by kernel_rfl) l1⟩) trivial ?_
  simp only [Act.put, List.setIfInBounds_toArray, List.set_cons_zero, List.set_cons_succ, List.getElem_toArray, List.getElem_cons_zero, List.getElem_cons_succ]
  refine any_take (i := 4) (v := (.int .u8 c)) #[true, true, true, true, false, false, false, false, false, false] rfl (by kernel_rfl) (by kernel_rfl) (by kernel_rfl) (by kernel_rfl) (fun _ _ _ h => h) (.inl ⟨by kernel_rfl, fun x_ hu => by kernel_rfl⟩) trivial ?_
  simp only [Act.put, List.setIfInBounds_toArray, List.set_cons_zero, List.set_cons_succ, List.getElem_toArray, List.getElem_cons_zero, List.getElem_cons_succ]
  refine any_take (i := 5) (v := (.int .u8 (lo : Int))) #[true, true, true, true, true, false, false, false, false, false] rfl (by kernel_rfl) (by kernel_rfl) (by kernel_rfl) (by kernel_rfl) (fun _ _ _ h => h) (.inl ⟨by kernel_rfl, fun x_ hu => by have h := unhide s2; go_simp⟩) trivial ?_
  simp only [Act.put, List.setIfInBounds_toArray, List.set_cons_zero, List.set_cons_succ, List.getElem_toArray, List.getElem_cons_zero, List.getElem_cons_succ]
  refine any_take (i := 6) (v := (.int .u8 q)) #[true, true, true, true, true, true, false, false, false, false] rfl (by kernel_rfl) (by kernel_rfl) (by kernel_rfl) (by kernel_rfl) (fun _ _ _ h => h) (.inl ⟨by kernel_rfl, fun x_ hu => by rw [unhide hq]; exact exec_six _ (.const (.string ⟨#[48, 49, 50, 51, 52, 53, 54, 55, 56, 57, 97, 98, 99, 100, 101, 102]⟩)) (.tmp 10) rfl XD XD_isB .u8 lo rfl (by kernel_rfl) l2⟩) trivial ?_
  simp only [Act.put, List.setIfInBounds_toArray, List.set_cons_zero, List.set_cons_succ, List.getElem_toArray, List.getElem_cons_zero, List.getElem_cons_succ]
  refine any_one (i := 7) (by kernel_rfl) rfl (fun K_ hQ => ?_)
  refine step_val (.slice (some ⟨x0.heap.size, 0, none⟩) 2 2) (x0.alloc (.cells (kc [p, q]) 5 (0, 0))) (by kernel_rfl) (by kernel_rfl) ?_
  refine hQ.out _ _ trivial (fun _ => ?_)
  clear hQ K_
  have hn := kc_at (blk_new x0 (.cells (kc [p, q]) 5 (0, 0)))
  have hg2 := (Gr.refl x0).alloc (.cells (kc [p, q]) 5 (0, 0))
  replace hG := hG.trans hg2
  replace hO := hide ((unhide hO).gr hg2)
  clear hg2
  generalize World.alloc _ _ = x1 at *
  generalize x0.heap.size = gb at *
  simp only [Act.put, List.setIfInBounds_toArray, List.set_cons_zero, List.set_cons_succ, List.getElem_toArray, List.getElem_cons_zero, List.getElem_cons_succ]
  refine any_one (i := 8) (by kernel_rfl) rfl (fun K_ hQ => ?_)
  rw [if_pos (by kernel_rfl)]
  refine app_op (.tmp 5) (.tmp 12) rfl b (.slice a ln cp) L (by kernel_rfl) (unhide hO) (some ⟨gb, 0, none⟩) 2 2 [p, q] (by kernel_rfl) rfl (.inr ⟨gb, 0, rfl, hn⟩) (by omega) (Nat.le_trans hb hG.size) ?_
  intro v2 x2 hO2 hg2
  refine hQ.out _ _ trivial (fun _ => ?_)
  clear hQ K_
  simp only [Act.put, List.setIfInBounds_toArray, List.set_cons_zero, List.set_cons_succ, List.getElem_toArray, List.getElem_cons_zero, List.getElem_cons_succ]
  refine any_one (i := 9) (by kernel_rfl) rfl (fun K_ hQ => ?_)
  replace hQ := hide hQ
  go_simp
  refine (unhide hQ).out _ _ trivial (fun _ => ?_)
  clear hQ K_
  refine any_done (by kernel_rfl) ?_
  have hZ : Hid (T (.returned v2) x2) := by
    rw [unhide hT]
    exact ⟨v2, rfl, hO2, grown_trans (grown_of_gr hG _) hg2⟩
  go_wp2_with fail
  exact unhide hZ
/-- what answers a text -/
def Txd (L : List Int) (w : World) (r : Ending) (w' : World) : Prop := r = .returned (.string (strOfNums L)) ∧ Gr w w'
theorem take_one (K : List Int) (j : Nat) (h : j < K.length) : K.take (j + 1) = K.take j ++ [K.getD j 0] := by
  rw [List.take_add_one, List.getElem?_eq_getElem h, List.getD_eq_getElem?_getD, List.getElem?_eq_getElem h]
  rfl
theorem index_kc (l : List Int) (i : Nat) (hi : i < 32) (hl : l.length = 32) (w : World) : (Instr.index 25 (.agg (kc l)) (.int .i64 i)).run Tryd.prog w = .ok (.int .u8 (l.getD i 0)) w := by
  have he : (kc l)[i]? = some (.int .u8 (l.getD i 0)) := by simp [kc, List.getD, List.getElem?_eq_getElem (show i < l.length by omega)]
  simp [Instr.index, run_underlying Tryd.underlying25, asIntOf, hi, go_sem]
  rw [he]
  simp
theorem exec_kix {a : Act} {o : Oper} (w : World) (x y : Operand) (ho : o.op = .index 25 x y) (K : List Int) (hK : K.length = 32) (i : Nat) (hx : a.eval x = .agg (kc K)) (hy : a.eval y = .int .i64 (i : Int)) (hi : i < 32) :
    (execOp a.eval o).run Tryd.prog w = .ok (.value (.int .u8 (K.getD i 0))) w := by
  have h := index_kc K i hi hK w
  unfold execOp
  simp only [ho, hx, hy, Sem.run_bind, h, Result.andThen_ok, Sem.run_pure]
theorem exec_text {a : Act} {o : Oper} (w : World) (x : Operand) (ho : o.op = .convert 33 9 x) (s : Option Addr) (n c : Nat) (L : List Int) (hn : L.length = n) (hx : a.eval x = .slice s n c) (h : Sl w s L) :
    (execOp a.eval o).run Tryd.prog w = .ok (.value (.string (strOfNums L))) w := by
  have h1 := h.text n c hn
  unfold execOp
  simp only [ho, hx, Sem.run_bind, h1, Result.andThen_ok, Sem.run_pure]
set_option maxHeartbeats 4000000 in
theorem text_ok (K : List Int) (hK : K.length = 32) (hKb : IsB K) (w : World) : Calls Tryd.prog 14 #[.agg (kc K)] w (Txd (txL K) w) := by
  obtain ⟨T, hT⟩ : ∃ T, T = Txd (txL K) w := ⟨_, rfl⟩
  rw [← hT]
  replace hT := hide hT
  replace hKb := hide hKb
  obtain ⟨KK, hKK⟩ : ∃ KK, KK = kc K := ⟨_, rfl⟩
  rw [← hKK]
  replace hKK := hide hKK
  go_enter Tryd.func14, Tryd.ntmps14
  go_upto_region 1 with fail
  have hB := (Bl.nil w).new KK 25
  simp only [List.nil_append] at hB
  generalize World.alloc _ _ = u at *
  rw [unhide hKK] at hB
  replace hB : Bl w [⟨w.heap.size, kc K, 25⟩] u := hB
  refine wp_region_lit ?_
  refine wpList_step fun K_ hQ => ?_
  rw [if_pos (by kernel_rfl)]
  refine make_op (.const (.int .i64 0)) (.const (.int .i64 64)) rfl 0 64 rfl rfl (by omega) (by omega) ?_
  refine hQ _ _ ?_
  clear hQ K_
  have hO : Ob w.heap.size (u.alloc (.cells (kc (List.replicate 64 0)) 5 (0, 0))) (.slice (some ⟨u.heap.size, 0, none⟩) 0 64) [] := World.ownsRow_made u (kc (List.replicate 64 0)) 64 hB.gr.size (by decide) (by rw [kc_size, List.length_replicate])
  replace hB := hB.more ((Gr.refl u).alloc (.cells (kc (List.replicate 64 0)) 5 (0, 0)))
  generalize World.alloc _ _ = u1 at *
  generalize u.heap.size = gt at *
  simp only [Act.put, List.setIfInBounds_toArray, List.set_cons_zero, List.set_cons_succ, List.getElem_toArray, List.getElem_cons_zero, List.getElem_cons_succ]
  (refine wpList_step fun K hK => ?_; replace hK := hide hK; go_simp; refine unhide hK _ _ ?_; clear hK K)
  refine wpList_nil ?_
  replace hO := hide hO
  replace hB := hide hB
  go_upto_region 2 with fail
  replace hB := unhide hB
  refine wp_region_lit ?_
  refine list_val (.agg (kc K)) (by kernel_rfl) (exec_arr _ 25 (.tmp 1) rfl (w.heap.size) (by kernel_rfl) (kc K) 25 _ (hB.get 0 (x := ⟨w.heap.size, kc K, 25⟩) rfl) Tryd.underlying25 rfl (by rw [Tryd.infoKey, kc_size, hK])) ?_
  simp only [Act.put, List.setIfInBounds_toArray, List.set_cons_zero, List.set_cons_succ, List.getElem_toArray, List.getElem_cons_zero, List.getElem_cons_succ]
  refine list_val (.int .i64 0) (by kernel_rfl) (by kernel_rfl) ?_
  simp only [Act.put, List.setIfInBounds_toArray, List.set_cons_zero, List.set_cons_succ, List.getElem_toArray, List.getElem_cons_zero, List.getElem_cons_succ]
  refine wpList_nil ?_
  have hI0 : Hid (Ob w.heap.size u1 (.slice (some ⟨gt, 0, none⟩) 0 64) (txL (K.take 0)) ∧ Gr w u1) := ⟨unhide hO, hB.gr⟩
  clear hO hB
  go_wp2_with fail
  go_loopw [3, 8] (fun v i wr => ∃ (j : Nat) (v' : Value), j ≤ 32 ∧ v' = v ∧ i = .int .i64 (j : Int) ∧ Hid (Ob w.heap.size wr v' (txL (K.take j)) ∧ Gr w wr)) (fun _ i _ => 32 - (intOf i).toNat)
  case atStart => exact ⟨0, _, by omega, rfl, rfl, hI0⟩
  case round =>
  clear hI0
  obtain ⟨j, v', hj, rfl, rfl, hA⟩ := hrel
  by_cases hlt : j < 32
  · have jI : (j : Int) < 32 := by omega
    obtain ⟨c, hc⟩ : ∃ c, c = K.getD j 0 := ⟨_, rfl⟩
    have hcb : 0 ≤ c ∧ c < 256 := by rw [hc]; exact (unhide hKb).at_ j
    have hts : Hid (txL (K.take (j + 1)) = txL (K.take j) ++ [hx (c / 16), hx (c % 16)]) := by
      rw [hc, take_one K j (by omega), txL_app]
      rfl
    replace hc := hide hc; replace hcb := hide hcb
    go_upto_region 4 with fail
    refine wp_region_lit ?_
    refine list_val (.int .u8 c) (by kernel_rfl) (by rw [unhide hc]; exact exec_kix _ (.tmp 7) (.tmp 8) rfl K hK j (by first | rfl | (rw [← unhide hKK]; kernel_rfl)) (by kernel_rfl) hlt) ?_
    simp only [Act.put, List.setIfInBounds_toArray, List.set_cons_zero, List.set_cons_succ, List.getElem_toArray, List.getElem_cons_zero, List.getElem_cons_succ]
    (refine wpList_step fun K hK => ?_; replace hK := hide hK; go_simp; refine unhide hK _ _ ?_; clear hK K)
    refine wpList_nil ?_
    go_upto_region 5 with fail
    refine wp_region_lit ?_
    refine list_val v' (by kernel_rfl) (by kernel_rfl) ?_
    simp only [Act.put, List.setIfInBounds_toArray, List.set_cons_zero, List.set_cons_succ, List.getElem_toArray, List.getElem_cons_zero, List.getElem_cons_succ]
    refine list_val (.int .u8 c) (by kernel_rfl) (by kernel_rfl) ?_
    simp only [Act.put, List.setIfInBounds_toArray, List.set_cons_zero, List.set_cons_succ, List.getElem_toArray, List.getElem_cons_zero, List.getElem_cons_succ]
    refine list_call 31 #[v', .int .u8 c] (by kernel_rfl) (by kernel_rfl) ((putdig_ok w.heap.size v' (txL (K.take j)) c (unhide hcb) wr (unhide hA).2.size (unhide hA).1 (by rw [txL_len, List.length_take]; omega)).mono ?_)
    rintro r_ y1 ⟨v2, rfl, hO2, hg2⟩
    have hA2 : Hid (Ob w.heap.size y1 v2 (txL (K.take (j + 1))) ∧ Gr w y1) := ⟨by rw [unhide hts]; exact hO2, (unhide hA).1.grown (Nat.le_refl _) (unhide hA).2 hg2⟩
    clear hO2 hg2 hA hts
    refine ⟨_, rfl, ?_⟩
    simp only [Act.put, List.setIfInBounds_toArray, List.set_cons_zero, List.set_cons_succ, List.getElem_toArray, List.getElem_cons_zero, List.getElem_cons_succ]
    (refine wpList_step fun K hK => ?_; replace hK := hide hK; go_simp; refine unhide hK _ _ ?_; clear hK K)
    refine wpList_nil ?_
    go_wp2_with fail
    go_roundw
    case rel => exact ⟨j + 1, v2, by omega, rfl, by simp, hA2⟩
    case measure => simp [intOf]; omega
  · have e : j = 32 := by omega
    subst e
    clear hlt
    obtain ⟨hO, hG⟩ := unhide hA
    have ht : txL (K.take 32) = txL K := by rw [List.take_of_length_le (by omega)]
    rw [ht] at hO
    obtain ⟨av, cv, hv, _, _, hsl⟩ := hO.slice
    have hl2 : (txL K).length = 64 := by rw [txL_len]; omega
    rw [hl2] at hv
    subst hv
    replace hsl := hide hsl
    clear hO hA ht
    go_upto_region 7 with fail
    refine wp_region_lit ?_
    refine list_val (.slice av 64 cv) (by kernel_rfl) (by kernel_rfl) ?_
    simp only [Act.put, List.setIfInBounds_toArray, List.set_cons_zero, List.set_cons_succ, List.getElem_toArray, List.getElem_cons_zero, List.getElem_cons_succ]
    refine list_val (.string (strOfNums (txL K))) (by kernel_rfl) (exec_text _ (.tmp 15) rfl av 64 cv (txL K) hl2 (by kernel_rfl) (unhide hsl)) ?_
    simp only [Act.put, List.setIfInBounds_toArray, List.set_cons_zero, List.set_cons_succ, List.getElem_toArray, List.getElem_cons_zero, List.getElem_cons_succ]
    (refine wpList_step fun K hK => ?_; replace hK := hide hK; go_simp; refine unhide hK _ _ ?_; clear hK K)
    refine wpList_nil ?_
    have hZ : Hid (T (.returned (.string (strOfNums (txL K)))) wr) := by
      rw [unhide hT]
      exact ⟨rfl, hG⟩
    go_wp2_with fail
    exact unhide hZ
theorem exec_kat {a : Act} {o : Oper} (w : World) (x y : Operand) (ho : o.op = .indexAddr 25 x y) (g i : Nat) (hx : a.eval x = .pointer (some ⟨g, 0, none⟩)) (hy : a.eval y = .int .i64 (i : Int)) (hi : i < 32) :
    (execOp a.eval o).run Tryd.prog w = .ok (.value (.pointer (some ⟨g, i, none⟩))) w := by
  have h1 : (i : Int) < 32 := by omega
  unfold execOp
  simp only [ho, hx, hy]
  go_simp
/-- what answers a bool -/
def Bod (b : Bool) (w : World) (r : Ending) (w' : World) : Prop := r = .returned (.bool b) ∧ Gr w w'
set_option maxHeartbeats 4000000 in
theorem less_ok (A B : List Int) (hA : A.length = 32) (hB0 : B.length = 32) (w : World) : Calls Tryd.prog 20 #[.agg (kc A), .agg (kc B)] w (Bod (ltL A B) w) := by
  obtain ⟨T, hT⟩ : ∃ T, T = Bod (ltL A B) w := ⟨_, rfl⟩
  rw [← hT]
  replace hT := hide hT
  obtain ⟨AA, hAA⟩ : ∃ KK, KK = kc A := ⟨_, rfl⟩
  obtain ⟨BB, hBB⟩ : ∃ KK, KK = kc B := ⟨_, rfl⟩
  rw [← hAA, ← hBB]
  replace hAA := hide hAA
  replace hBB := hide hBB
  go_enter Tryd.func20, Tryd.ntmps20
  go_upto_region 1 with fail
  have hB := ((Bl.nil w).new AA 25).new BB 25
  simp only [List.nil_append, List.cons_append, size_alloc] at hB
  generalize World.alloc _ _ = u at *
  rw [unhide hAA, unhide hBB] at hB
  replace hB : Bl w [⟨w.heap.size, kc A, 25⟩, ⟨w.heap.size + 1, kc B, 25⟩] u := hB
  refine wp_region_lit ?_
  refine list_val (.agg (kc A)) (by kernel_rfl) (exec_arr _ 25 (.tmp 2) rfl (w.heap.size) (by kernel_rfl) (kc A) 25 _ (hB.get 0 (x := ⟨w.heap.size, kc A, 25⟩) rfl) Tryd.underlying25 rfl (by rw [Tryd.infoKey, kc_size, hA])) ?_
  simp only [Act.put, List.setIfInBounds_toArray, List.set_cons_zero, List.set_cons_succ, List.getElem_toArray, List.getElem_cons_zero, List.getElem_cons_succ]
  refine list_val (.int .i64 0) (by kernel_rfl) (by kernel_rfl) ?_
  simp only [Act.put, List.setIfInBounds_toArray, List.set_cons_zero, List.set_cons_succ, List.getElem_toArray, List.getElem_cons_zero, List.getElem_cons_succ]
  refine wpList_nil ?_
  replace hB := hide hB
  go_wp2_with fail
  go_loopw [8] (fun i wr => ∃ (j : Nat), j ≤ 32 ∧ i = .int .i64 (j : Int) ∧ Hid (∀ k, k < j → A.getD k 0 = B.getD k 0) ∧ wr = u) (fun i _ => 32 - (intOf i).toNat)
  case atStart => exact ⟨0, by omega, rfl, fun k hk => absurd hk (by omega), rfl⟩
  case round =>
  obtain ⟨j, hj, rfl, hE, rfl⟩ := hrel
  by_cases hlt : j < 32
  · have jI : (j : Int) < 32 := by omega
    obtain ⟨p, hp⟩ : ∃ c, c = A.getD j 0 := ⟨_, rfl⟩
    obtain ⟨q, hq⟩ : ∃ c, c = B.getD j 0 := ⟨_, rfl⟩
    have hcq := kc_cell ((unhide hB).get 1 (x := ⟨w.heap.size + 1, kc B, 25⟩) rfl) j (by omega)
    rw [← hq] at hcq
    replace hp := hide hp; replace hq := hide hq; replace hcq := hide hcq
    go_upto_region 3 with fail
    refine wp_region_lit ?_
    refine list_val (.int .i64 (j : Int)) (by kernel_rfl) (by kernel_rfl) ?_
    simp only [Act.put, List.setIfInBounds_toArray, List.set_cons_zero, List.set_cons_succ, List.getElem_toArray, List.getElem_cons_zero, List.getElem_cons_succ]
    refine list_val (.int .u8 p) (by kernel_rfl) (by rw [unhide hp]; exact exec_kix _ (.tmp 7) (.tmp 8) rfl A hA j (by first | rfl | (rw [← unhide hAA]; kernel_rfl)) (by kernel_rfl) hlt) ?_
    simp only [Act.put, List.setIfInBounds_toArray, List.set_cons_zero, List.set_cons_succ, List.getElem_toArray, List.getElem_cons_zero, List.getElem_cons_succ]
    (refine wpList_step fun K hK => ?_; replace hK := hide hK; go_simp; refine unhide hK _ _ ?_; clear hK K)
    (refine wpList_step fun K hK => ?_; replace hK := hide hK; go_simp; refine unhide hK _ _ ?_; clear hK K)
    refine wpList_nil ?_
    go_upto_region 4 with fail
    by_cases hpq : p = q
    · replace hpq := hide hpq
      refine wp_region_lit ?_
      refine list_val (.int .u8 p) (by kernel_rfl) (by kernel_rfl) ?_
      simp only [Act.put, List.setIfInBounds_toArray, List.set_cons_zero, List.set_cons_succ, List.getElem_toArray, List.getElem_cons_zero, List.getElem_cons_succ]
      refine list_val (.int .i64 (j : Int)) (by kernel_rfl) (by kernel_rfl) ?_
      simp only [Act.put, List.setIfInBounds_toArray, List.set_cons_zero, List.set_cons_succ, List.getElem_toArray, List.getElem_cons_zero, List.getElem_cons_succ]
      refine list_val (.pointer (some ⟨w.heap.size + 1, j, none⟩)) (by kernel_rfl) (exec_kat _ (.tmp 3) (.tmp 13) rfl (w.heap.size + 1) j (by kernel_rfl) (by kernel_rfl) hlt) ?_
      simp only [Act.put, List.setIfInBounds_toArray, List.set_cons_zero, List.set_cons_succ, List.getElem_toArray, List.getElem_cons_zero, List.getElem_cons_succ]
      refine list_val (.int .u8 q) (by kernel_rfl) (exec_u8 _ (.tmp 14) rfl (w.heap.size + 1) j (by kernel_rfl) q (unhide hcq)) ?_
      simp only [Act.put, List.setIfInBounds_toArray, List.set_cons_zero, List.set_cons_succ, List.getElem_toArray, List.getElem_cons_zero, List.getElem_cons_succ]
      refine list_val (.bool false) (by kernel_rfl) (by have h := unhide hpq; go_simp) ?_
      simp only [Act.put, List.setIfInBounds_toArray, List.set_cons_zero, List.set_cons_succ, List.getElem_toArray, List.getElem_cons_zero, List.getElem_cons_succ]
      refine wpList_nil ?_
      have hE2 : Hid (∀ k, k < j + 1 → A.getD k 0 = B.getD k 0) := fun k hk => by
        by_cases e : k = j
        · rw [e, ← unhide hp, ← unhide hq]; exact unhide hpq
        · exact unhide hE k (by omega)
      go_wp2_with fail
      go_roundw
      case rel => exact ⟨j + 1, by omega, by simp, hE2, trivial⟩
      case measure => simp [intOf]; omega
    · have hlt2 : ltL A B = decide (p < q) := by rw [unhide hp, unhide hq]; exact ltL_at A B j (unhide hE) (by omega) (by omega) (by rw [← unhide hp, ← unhide hq]; exact hpq)
      obtain ⟨bb, hbb⟩ : ∃ b, b = decide (p < q) := ⟨_, rfl⟩
      rw [hlt2, ← hbb] at hT
      replace hpq := hide hpq; replace hbb := hide hbb
      clear hlt2
      refine wp_region_lit ?_
      refine list_val (.int .u8 p) (by kernel_rfl) (by kernel_rfl) ?_
      simp only [Act.put, List.setIfInBounds_toArray, List.set_cons_zero, List.set_cons_succ, List.getElem_toArray, List.getElem_cons_zero, List.getElem_cons_succ]
      refine list_val (.int .i64 (j : Int)) (by kernel_rfl) (by kernel_rfl) ?_
      simp only [Act.put, List.setIfInBounds_toArray, List.set_cons_zero, List.set_cons_succ, List.getElem_toArray, List.getElem_cons_zero, List.getElem_cons_succ]
      refine list_val (.pointer (some ⟨w.heap.size + 1, j, none⟩)) (by kernel_rfl) (exec_kat _ (.tmp 3) (.tmp 13) rfl (w.heap.size + 1) j (by kernel_rfl) (by kernel_rfl) hlt) ?_
      simp only [Act.put, List.setIfInBounds_toArray, List.set_cons_zero, List.set_cons_succ, List.getElem_toArray, List.getElem_cons_zero, List.getElem_cons_succ]
      refine list_val (.int .u8 q) (by kernel_rfl) (exec_u8 _ (.tmp 14) rfl (w.heap.size + 1) j (by kernel_rfl) q (unhide hcq)) ?_
      simp only [Act.put, List.setIfInBounds_toArray, List.set_cons_zero, List.set_cons_succ, List.getElem_toArray, List.getElem_cons_zero, List.getElem_cons_succ]
      refine list_val (.bool true) (by kernel_rfl) (by have h := unhide hpq; go_simp) ?_
      simp only [Act.put, List.setIfInBounds_toArray, List.set_cons_zero, List.set_cons_succ, List.getElem_toArray, List.getElem_cons_zero, List.getElem_cons_succ]
      refine wpList_nil ?_
      go_upto_region 5 with fail
      refine wp_region_lit ?_
      refine list_val (.int .u8 p) (by kernel_rfl) (by kernel_rfl) ?_
      simp only [Act.put, List.setIfInBounds_toArray, List.set_cons_zero, List.set_cons_succ, List.getElem_toArray, List.getElem_cons_zero, List.getElem_cons_succ]
      refine list_val (.int .i64 (j : Int)) (by kernel_rfl) (by kernel_rfl) ?_
      simp only [Act.put, List.setIfInBounds_toArray, List.set_cons_zero, List.set_cons_succ, List.getElem_toArray, List.getElem_cons_zero, List.getElem_cons_succ]
      refine list_val (.pointer (some ⟨w.heap.size + 1, j, none⟩)) (by kernel_rfl) (exec_kat _ (.tmp 3) (.tmp 18) rfl (w.heap.size + 1) j (by kernel_rfl) (by kernel_rfl) hlt) ?_
      simp only [Act.put, List.setIfInBounds_toArray, List.set_cons_zero, List.set_cons_succ, List.getElem_toArray, List.getElem_cons_zero, List.getElem_cons_succ]
      refine list_val (.int .u8 q) (by kernel_rfl) (exec_u8 _ (.tmp 19) rfl (w.heap.size + 1) j (by kernel_rfl) q (unhide hcq)) ?_
      simp only [Act.put, List.setIfInBounds_toArray, List.set_cons_zero, List.set_cons_succ, List.getElem_toArray, List.getElem_cons_zero, List.getElem_cons_succ]
      refine list_val (.bool bb) (by kernel_rfl) (by rw [unhide hbb]; go_simp) ?_
      simp only [Act.put, List.setIfInBounds_toArray, List.set_cons_zero, List.set_cons_succ, List.getElem_toArray, List.getElem_cons_zero, List.getElem_cons_succ]
      (refine wpList_step fun K hK => ?_; replace hK := hide hK; go_simp; refine unhide hK _ _ ?_; clear hK K)
      refine wpList_nil ?_
      have hZ : Hid (T (.returned (.bool bb)) wr) := by
        rw [unhide hT]
        exact ⟨rfl, (unhide hB).gr⟩
      go_wp2_with fail
      exact unhide hZ
  · have e : j = 32 := by omega
    subst e
    have hab : A = B := list_of_getD (by omega) fun k hk => unhide hE k (by omega)
    rw [hab, ltL_irr] at hT
    clear hlt hab
    have hZ : Hid (T (.returned (.bool false)) wr) := by
      rw [unhide hT]
      exact ⟨rfl, (unhide hB).gr⟩
    go_wp2_with fail
    exact unhide hZ
end Go.Proofs.YtpmgmpihmpifgaaDoor
