/-
  Of layer 15: what the proof leans on.
-/
import Derived.Great.BuildSlice
import Derived.Test.YtgabkfleidpipaaDoorYK7
import Derived.Test.YtgabkfleidpipaaDoorVCvF
namespace Go.Proofs.YtgabkfleidpipaaDoor
open Go.RowKit
set_option maxRecDepth 100000
set_option linter.unusedSimpArgs false
set_option linter.unusedVariables false
theorem digs_isK (n : Int) : IsK (Cv.digs n 32) := ⟨Cv.digs_len _ _, fun x hx => Cv.digs_by n 32 x hx⟩
theorem kn_ex (l : List Int) (h : IsK l) : ∃ n : Nat, n < 115792089237316195423570985008687907853269984665640564039457584007913129639936 ∧ l = Cv.digs (n : Int) 32 := by
  obtain ⟨n, hn, e⟩ := Cv.key_num l h.1 h.2
  obtain ⟨k, rfl⟩ := Int.eq_ofNat_of_zero_le hn.1
  exact ⟨k, by omega, e⟩
open Classical in
noncomputable def kn (l : List Int) : Nat := if h : IsK l then Classical.choose (kn_ex l h) else 0
theorem kn_digs {l : List Int} (h : IsK l) : l = Cv.digs (kn l : Int) 32 := by
  unfold kn
  rw [dif_pos h]
  exact (Classical.choose_spec (kn_ex l h)).2
theorem kn_lt {l : List Int} (h : IsK l) : kn l < 115792089237316195423570985008687907853269984665640564039457584007913129639936 := by
  unfold kn
  rw [dif_pos h]
  exact (Classical.choose_spec (kn_ex l h)).1
theorem kn_of (n : Nat) (h : n < 115792089237316195423570985008687907853269984665640564039457584007913129639936) : kn (Cv.digs (n : Int) 32) = n := by
  have h1 := kn_digs (digs_isK (n : Int))
  have h2 := kn_lt (digs_isK (n : Int))
  have := Cv.digs_inj (n : Int) (kn (Cv.digs (n : Int) 32) : Int) ⟨by omega, by omega⟩ ⟨by omega, by omega⟩ h1
  omega
noncomputable def agL (s u : List Int) : List Int := Cv.digs (Cv.xN (kn s) (kn u) : Int) 32
noncomputable def pubL (s : List Int) : List Int := Cv.digs (Cv.xN (kn s) 9 : Int) 32
def NLow (s u : List Int) : Prop := Cv.xN (kn s) (kn u) ≠ 0
theorem agL_isK (s u : List Int) : IsK (agL s u) := digs_isK _
theorem pubL_isK (s : List Int) : IsK (pubL s) := digs_isK _
theorem kn_pub (s : List Int) : kn (pubL s) = Cv.xN (kn s) 9 := kn_of _ (Cv.xN_256 _ _)
theorem agL_comm (s o : List Int) : agL s (pubL o) = agL o (pubL s) := by
  unfold agL
  rw [kn_pub, kn_pub, Cv.x_comm (kn s) (kn o) 9 Cv.nine]
theorem nlow_pub (s o : List Int) : NLow o (pubL s) := by
  unfold NLow
  rw [kn_pub]
  exact Cv.both_ne _ _
theorem agree_yes (s u : List Int) (hs : IsK s) (hu : IsK u) (h : NLow s u) (w : World) :
    Calls Tryd.prog 16 #[.agg (kc s), .agg (kc u)] w (fun r w' => r = .returned (.tuple #[.agg (kc (agL s u)), .int .i64 0]) ∧ Gr w w') := by
  have h0 : Hid (Cv.xN (kn s) (kn u) ≠ 0) := by unfold NLow at h; exact hide h
  have h1 := Cv.agree_n (kn s) (kn u) h0 w
  rw [← kn_digs hs, ← kn_digs hu] at h1
  refine Calls.mono h1 ?_
  rintro r w' ⟨n, rfl, hn, hg⟩
  refine ⟨?_, hg⟩
  have e : Cv.kc (Cv.digs (n : Int) 32) = kc (agL s u) := by
    unfold agL
    rw [← unhide hn]
    rfl
  rw [e]
theorem agree_not (s u : List Int) (hs : IsK s) (hu : IsK u) (h : ¬ NLow s u) (w : World) :
    Calls Tryd.prog 16 #[.agg (kc s), .agg (kc u)] w (fun r w' => r = .returned (.tuple #[.agg (kc ZK), .int .i64 130]) ∧ Gr w w') := by
  have h0 : Hid (Cv.xN (kn s) (kn u) = 0) := by unfold NLow at h; exact hide (Classical.not_not.1 h)
  have h1 := Cv.agree_low (kn s) (kn u) h0 w
  rw [← kn_digs hs, ← kn_digs hu] at h1
  refine Calls.mono h1 ?_
  rintro r w' ⟨rfl, hg⟩
  refine ⟨?_, hg⟩
  have : Cv.digs (0 : Int) 32 = ZK := by decide
  rw [this]
  rfl
theorem public_is (s : List Int) (hs : IsK s) (w : World) :
    Calls Tryd.prog 13 #[.agg (kc s)] w (fun r w' => r = .returned (.agg (kc (pubL s))) ∧ Gr w w') := by
  have h1 := Cv.public_at (kn s) w
  rw [← kn_digs hs] at h1
  unfold pubL
  generalize Cv.xN (kn s) 9 = n at *
  exact h1
noncomputable def onL (r : Int) (P : List Int) : List (List Int) → List (List Int) → List Int
  | s :: ss, o :: os => pubL o ++ seO r s tO (onL r P ss os)
  | _, _ => P
theorem onL_len (r : Int) (P : List Int) : ∀ (ss os : List (List Int)), ss.length = os.length → (onL r P ss os).length = P.length + 48 * ss.length
  | [], [], _ => by simp [onL]
  | s :: ss, o :: os, h => by
    have h2 := onL_len r P ss os (by simpa using h)
    rw [onL, List.length_append, seO_len, h2, (pubL_isK o).1, List.length_cons]
    omega
theorem onL_isB (r : Int) (P : List Int) (hP : IsB P) : ∀ (ss os : List (List Int)), IsB (onL r P ss os)
  | [], _ => by rw [onL]; exact hP; intro s ss o os h; cases h
  | _ :: _, [] => by rw [onL]; exact hP; intro s ss o os _ h; cases h
  | s :: ss, o :: os => by rw [onL]; exact isB_append (pubL_isK o).2 (seO_isB _ _ _ _)
theorem onL_drop (r : Int) (P : List Int) (ss os : List (List Int)) (i : Nat) (h : i < ss.length) (h2 : i < os.length) : onL r P (ss.drop i) (os.drop i) = pubL (os.getD i []) ++ seO r (ss.getD i []) tO (onL r P (ss.drop (i + 1)) (os.drop (i + 1))) := by
  rw [List.drop_eq_getElem_cons h, List.drop_eq_getElem_cons h2, onL]
  have e1 : ss.getD i [] = ss[i] := by simp [h]
  have e2 : os.getD i [] = os[i] := by simp [h2]
  rw [e1, e2]
theorem onL_end (r : Int) (P : List Int) (ss os : List (List Int)) (i : Nat) (h : ss.length ≤ i) : onL r P (ss.drop i) (os.drop i) = P := by
  rw [List.drop_of_length_le h, onL]
  intro s ss o os h
  cases h
theorem Bl.add {w v : World} {L : List Blk} (h : Bl w L v) (x : Blk) (hx : v.heap[x.g]? = some x.obj) (hw : w.heap.size ≤ x.g) (hn : ∀ y ∈ L, y.g ≠ x.g) : Bl w (L ++ [x]) v := by
  refine ⟨h.gr, fun y hy => ?_, List.pairwise_append.2 ⟨h.ne, List.pairwise_singleton _ _, fun y hy z hz => ?_⟩⟩
  · rcases List.mem_append.1 hy with hy | hy
    · exact h.at_ y hy
    · rw [List.mem_singleton] at hy
      subst hy
      exact ⟨hx, hw⟩
  · rw [List.mem_singleton] at hz
    subst hz
    exact hn y hy
theorem ob_take {b : Nat} {w : World} {a : Option Addr} {n m c : Nat} {L : List Int} (h : Ob b w (.slice a n c) L) (hm : m ≤ L.length) : Ob b w (.slice a m c) (L.take m) := by
  refine ⟨by rw [List.length_map, Nat.mul_one], ?_⟩
  rcases h.2 with ⟨h1, h2⟩ | ⟨g, cap, cur, h1, h2, h3, h4, h5, h6, h7⟩
  · injection h1 with e1 e2 e3
    subst e1 e3
    left
    have : m = 0 := by omega
    subst this
    exact ⟨rfl, rfl⟩
  · injection h1 with e1 e2 e3
    subst e1 e3
    right
    refine ⟨g, c, cur, by rw [List.length_take, Nat.min_eq_left hm], h2, h3, by rw [List.length_take]; omega, h5, h6, ?_⟩
    rw [List.length_take, Nat.min_eq_left hm, Nat.mul_one]
    rw [Nat.mul_one] at h7
    have h8 := congrArg (List.take m) h7
    rw [List.take_take, Nat.min_eq_left hm] at h8
    rw [h8, List.map_take]
theorem Tryd.infoKz : (Tryd.prog.info? 34).map (fun i => (i.zero, i.size, i.bytes)) = some (some (.agg (kc ZK)), 32, 32) := by kernel_rfl
theorem make_keys (w : World) {ops : Array Oper} {rest : List Oper} {o : Oper} {a : Act} {Q : Exit → Act → World → Prop} (hgd : o.guard = none) (l c : Operand) (hop : o.op = Op.makeSlice 23 l c) (n : Nat) (hl : a.eval l = .int .i64 n) (hc : a.eval c = .int .i64 n) (hn : n ≤ 100000)
    (h : wpList Tryd.prog ops Q rest (a.put o.dst (.slice (some ⟨w.heap.size, 0, none⟩) n n)) (w.alloc (.cells (kc (List.replicate (n * 32) 0)) 34 (0, 0)))) : wpList Tryd.prog ops Q (o :: rest) a w := by
  obtain ⟨i, h2, h3, h4, h5⟩ := info_parts Tryd.infoKz
  have hrun := run_make (P := Tryd.prog) w 23 34 i (.agg (kc ZK)) Tryd.underlying23 h2 h3 .i64 .i64 (n : Int) (n : Int) (by omega) (by omega) (by rw [h5]; omega) (by omega)
  rw [h4] at hrun
  have e : madeCells (Value.agg (kc ZK)).cells (n * 32) = kc (List.replicate (n * 32) 0) := by
    apply Array.ext
    · simp [size_madeCells, kc]
    · intro i h1 h2
      have h6 : i % 32 < 32 := Nat.mod_lt _ (by omega)
      have h7 : (kc ZK)[i % 32]! = Value.int .u8 0 := by
        have h10 : ZK.getD (i % 32) 0 = 0 := by
          unfold ZK
          rw [List.getD_eq_getElem?_getD, List.getElem?_replicate, if_pos h6]
          rfl
        rw [getElem!_def, kc_get ZK (i % 32) h6, h10]
      have h8 : (Value.agg (kc ZK)).cells = kc ZK := rfl
      have h9 : (kc ZK).size = 32 := rfl
      simp only [madeCells, h8, h9, Array.getElem_map, Array.getElem_range, h7]
      unfold kc
      simp
  simp only [Int.toNat_natCast, e] at hrun
  rw [wpList, if_pos (by simp [Region.wanted, hgd])]
  refine Or.inl ?_
  unfold Oper.wp
  simp [execOp, hop, hl, hc, hrun, Result.andThen]
  exact h
noncomputable def shL (os ks : List (List Int)) : List (List Int) := List.zipWith agL os ks
theorem shL_len (os ks : List (List Int)) (h : os.length = ks.length) : (shL os ks).length = ks.length := by unfold shL; rw [List.length_zipWith, h]; omega
theorem shL_isK (os ks : List (List Int)) : ∀ k ∈ shL os ks, IsK k := by
  intro k hk
  unfold shL at hk
  obtain ⟨i, hi, e⟩ := List.getElem_of_mem hk
  rw [List.getElem_zipWith] at e
  rw [← e]
  exact agL_isK _ _
theorem shL_get (os ks : List (List Int)) (i : Nat) (h1 : i < os.length) (h2 : i < ks.length) : (shL os ks).getD i [] = agL (os.getD i []) (ks.getD i []) := by
  unfold shL
  simp [List.getElem?_zipWith, h1, h2]
theorem take_flat (ks : List (List Int)) (j : Nat) (h : j < ks.length) : (ks.take (j + 1)).flatten = (ks.take j).flatten ++ ks.getD j [] := by
  rw [List.take_add_one, List.flatten_append]
  simp [h]
theorem flat32 : ∀ {ks : List (List Int)}, (∀ k ∈ ks, IsK k) → ks.flatten.length = 32 * ks.length
  | [], _ => rfl
  | k :: ks, h => by
    rw [List.flatten_cons, List.length_append, flat32 (fun x hx => h x (by simp [hx])), (h k (by simp)).1, List.length_cons]
    omega
noncomputable def kz (S : List (List Int)) (n j : Nat) : List Int := (S.take j).flatten ++ List.replicate (32 * n - 32 * j) 0
theorem kz_len {S : List (List Int)} {n : Nat} (hS : ∀ k ∈ S, IsK k) (hl : S.length = n) (j : Nat) (hj : j ≤ n) : (kz S n j).length = 32 * n := by
  unfold kz
  rw [List.length_append, flat32 (fun k hk => hS k (List.mem_of_mem_take hk)), List.length_take, List.length_replicate, Nat.min_eq_left (by omega)]
  omega
theorem kz_lay {S : List (List Int)} {n : Nat} (hS : ∀ k ∈ S, IsK k) (hl : S.length = n) (j : Nat) (hj : j < n) : lay (kz S n j) (32 * j) (S.getD j []) = kz S n (j + 1) := by
  have h1 : ((S.take j).flatten).length = 32 * j := by
    rw [flat32 (fun k hk => hS k (List.mem_of_mem_take hk)), List.length_take, Nat.min_eq_left (by omega)]
  have h2 : (S.getD j []).length = 32 := by
    refine (hS _ ?_).1
    rw [List.getD_eq_getElem?_getD, List.getElem?_eq_getElem (by omega)]
    exact List.getElem_mem _
  have h3 := take_flat S j (by omega)
  generalize S.getD j [] = K at *
  unfold kz lay
  rw [h3, List.take_append_of_le_length (by omega), List.take_of_length_le (by omega), h2, List.drop_append, List.drop_of_length_le (l := (S.take j).flatten) (by omega), h1, List.drop_replicate, List.nil_append, List.append_assoc]
  rw [show 32 * n - 32 * j - (32 * j + 32 - 32 * j) = 32 * n - 32 * (j + 1) by omega]
def NKe (b : Nat) (u : World) (q : Value) : Prop := ∃ g, q = .pointer (some ⟨g, 0, none⟩) ∧ b ≤ g ∧ u.heap[g]? = some (.cells (kc ZK) 34 (0, 0))
theorem NKe.gr {b : Nat} {u v : World} {q : Value} (h : NKe b u q) (k : Gr u v) : NKe b v q := by
  obtain ⟨g, h1, h2, h3⟩ := h
  exact ⟨g, h1, h2, k.blk h3⟩
theorem rg_gr {w v : World} {p o : Nat} {cs : List Value} (h : w.rangeAt p o cs) (g : Gr w v) : v.rangeAt p o cs := fun j x hj => g.cell (h j x hj)
def Agd (S : List (List Int)) (n : Nat) (w : World) (r : Ending) (w' : World) : Prop := ∃ a c, r = .returned (.tuple #[.slice a n c, .int .i64 0]) ∧ Kw w' a n c S ∧ Gr w w'
set_option maxHeartbeats 4000000 in
theorem nagree_ok (ks os : List (List Int)) (a b : Option Addr) (n c d : Nat) (hn : n ≤ 3) (w : World) (lk : Kw w a n c ks) (lo : Kw w b n d os) (hl : ∀ i, i < n → NLow (os.getD i []) (ks.getD i [])) : Calls Tryd.prog 14 #[.slice a n c, .slice b n d] w (Agd (shL os ks) n w) := by
  obtain ⟨T, hT⟩ : ∃ T, T = Agd (shL os ks) n w := ⟨_, rfl⟩
  rw [← hT]
  replace hT := hide hT
  have hkn := lk.len
  have hon := lo.len
  have hmx := lk.max
  obtain ⟨S, hS⟩ : ∃ S, S = shL os ks := ⟨_, rfl⟩
  have hSl : S.length = n := by rw [hS, shL_len os ks (by omega)]; exact hkn
  have hSk : ∀ k ∈ S, IsK k := by rw [hS]; exact shL_isK os ks
  replace lk := hide lk
  replace lo := hide lo
  replace hl := hide hl
  replace hkn := hide hkn
  replace hon := hide hon
  replace hS := hide hS
  replace hSl := hide hSl
  replace hSk := hide hSk
  go_enter Tryd.func14, Tryd.ntmps14
  go_upto_region 1 with fail
  refine wp_region_lit ?_
  refine list_val (.slice a n c) (by kernel_rfl) (by kernel_rfl) ?_
  simp only [nrm]
  refine list_val (.int .i64 (n : Int)) (by kernel_rfl) (by kernel_rfl) ?_
  simp only [nrm]
  refine make_keys _ rfl (.tmp 12) (.tmp 12) rfl n (by kernel_rfl) (by kernel_rfl) (by omega) ?_
  have hB := (Bl.nil w).new (kc (List.replicate (n * 32) 0)) 34
  simp only [List.nil_append] at hB
  generalize World.alloc _ _ = u1 at *
  generalize hgs : w.heap.size = gs at *
  replace hgs := hide hgs
  rw [show List.replicate (n * 32) (0 : Int) = kz S n 0 by unfold kz; simp [Nat.mul_comm]] at hB
  replace hB : Bl w [⟨gs, kc (kz S n 0), 34⟩] u1 := hB
  simp only [nrm]
  (refine wpList_step fun K hK => ?_; replace hK := hide hK; go_simp; refine unhide hK _ _ ?_; clear hK K)
  refine wpList_nil ?_
  replace hB := hide hB
  go_upto_region 2 with fail
  replace hB := unhide hB
  refine wp_region_lit ?_
  refine list_val (.slice a n c) (by kernel_rfl) (by kernel_rfl) ?_
  simp only [nrm]
  refine list_val (.int .i64 (n : Int)) (by kernel_rfl) (by kernel_rfl) ?_
  simp only [nrm]
  refine list_val (.int .i64 0) (by kernel_rfl) (by kernel_rfl) ?_
  simp only [nrm]
  refine wpList_nil ?_
  replace hB := hide hB
  go_wp2_with fail
  go_loopw [16] (fun i wr => ∃ (j : Nat), j ≤ n ∧ i = .int .i64 (j : Int) ∧ Hid (Bl w [⟨gs, kc (kz S n j), 34⟩] wr)) (fun i _ => n - (intOf i).toNat)
  case atStart => exact ⟨0, by omega, rfl, hB⟩
  case round =>
  clear hB
  obtain ⟨j, hj, rfl, hA⟩ := hrel
  have hB := unhide hA
  clear hA
  by_cases hlt : j < n
  · skip
    have jI : (j : Int) < (n : Int) := by omega
    obtain ⟨hkl, hkb⟩ := (unhide lk).key j hlt
    obtain ⟨hol, hob⟩ := (unhide lo).key j hlt
    obtain ⟨p, q, ea, hrg⟩ := ((unhide lk).gr hB.gr).row j hlt
    obtain ⟨p2, q2, eb, hrg2⟩ := (unhide lo).row j hlt
    have hnl := unhide hl j hlt
    have hSj : S.getD j [] = agL (os.getD j []) (ks.getD j []) := by rw [unhide hS]; exact shL_get os ks j (by rw [unhide hon]; exact hlt) (by rw [unhide hkn]; exact hlt)
    have hly := kz_lay (unhide hSk) (unhide hSl) j hlt
    have hkzl := kz_len (unhide hSk) (unhide hSl) j hj
    rw [hSj] at hly
    obtain ⟨KJ, hKJ⟩ : ∃ K, K = ks.getD j [] := ⟨_, rfl⟩
    obtain ⟨OJ, hOJ⟩ : ∃ K, K = os.getD j [] := ⟨_, rfl⟩
    rw [← hKJ] at hkl hkb hrg hnl hly
    rw [← hOJ] at hol hob hrg2 hnl hly
    clear hKJ hOJ hSj
    replace hrg := hide hrg; replace hrg2 := hide hrg2; replace hkb := hide hkb; replace hob := hide hob; replace hnl := hide hnl; replace hly := hide hly; replace ea := hide ea; replace eb := hide eb; replace hkzl := hide hkzl
    replace hB := hide hB
    go_upto_region 4 with fail
    replace hB := unhide hB
    refine wp_region_lit ?_
    refine list_val (.int .i64 (j : Int)) (by kernel_rfl) (by kernel_rfl) ?_
    simp only [nrm]
    refine list_val (.pointer (some ⟨p, q + 32 * j, none⟩)) (by kernel_rfl) (exec_iks _ (.tmp 14) (.tmp 16) rfl p q n c j (by rw [← unhide ea]; kernel_rfl) (by kernel_rfl) hlt) ?_
    simp only [nrm]
    refine list_val (.agg (kc KJ)) (by kernel_rfl) (exec_kr _ (.tmp 19) rfl p (q + 32 * j) (by kernel_rfl) KJ hkl (unhide hrg)) ?_
    simp only [nrm]
    refine list_valw (.pointer (some ⟨wr.heap.size, 0, none⟩)) (wr.alloc (.cells (kc ZK) 34 (0, 0))) (by kernel_rfl) (by kernel_rfl) ?_
    replace hB := hB.new (kc ZK) 34
    simp only [List.nil_append, List.cons_append] at hB
    generalize World.alloc _ _ = y1 at *
    generalize wr.heap.size = gk at *
    replace hB : Bl w [⟨gs, kc (kz S n j), 34⟩, ⟨gk, kc ZK, 34⟩] y1 := hB
    simp only [nrm]
    (refine wpList_step fun K hK => ?_; replace hK := hide hK; go_simp; refine unhide hK _ _ ?_; clear hK K)
    refine list_store 34 (.tmp 8) (.tmp 20) gk (kc KJ) 34 (kc ZK) (by kernel_rfl) rfl (by kernel_rfl) (by kernel_rfl) (hB.get 1 (x := ⟨gk, kc ZK, 34⟩) rfl) (by rw [Tryd.infoKey, kc_size, hkl]) (by rw [kc_size, kc_size, hkl]; rfl) (kc_one _) ?_
    replace hB := hB.set 1 (x := ⟨gk, kc ZK, 34⟩) rfl (kc KJ)
    simp only [List.set_cons_zero, List.set_cons_succ] at hB
    generalize World.setRow _ _ _ = y2 at *
    replace hB : Bl w [⟨gs, kc (kz S n j), 34⟩, ⟨gk, kc KJ, 34⟩] y2 := hB
    simp only [nrm]
    refine wpList_nil ?_
    clear hrg ea
    replace hB := hide hB
    go_upto_region 5 with fail
    replace hB := unhide hB
    refine any_start (S := fun (v : World) => Bl w [⟨gs, kc (kz S n j), 34⟩, ⟨gk, kc KJ, 34⟩] v) (by kernel_rfl) ?_
    replace hB := hB.drew
    generalize World.drew _ = x0 at *
    replace hB : Bl w [⟨gs, kc (kz S n j), 34⟩, ⟨gk, kc KJ, 34⟩] x0 := hB
    obtain ⟨b0, hb0⟩ : ∃ b, b = x0.heap.size := ⟨_, rfl⟩
    have hb1 : gs < b0 := by rw [hb0]; exact lt_of_block (hB.get 0 (x := ⟨gs, kc (kz S n j), 34⟩) rfl)
    have hb2 : gk < b0 := by rw [hb0]; exact lt_of_block (hB.get 1 (x := ⟨gk, kc KJ, 34⟩) rfl)
    have hb3 : w.heap.size ≤ b0 := by rw [hb0]; exact hB.gr.size
    have hle : b0 ≤ x0.heap.size := by rw [hb0]; exact Nat.le_refl _
    clear hb0
    simp only [List.size_toArray, List.length_cons, List.length_nil, Array.replicate, List.replicate]
    refine any_take (i := 0) (v := (.slice b n d)) #[false, false, false, false, false, false, false, false, false, false, false, false] rfl (by kernel_rfl) (by kernel_rfl) (by kernel_rfl) (by kernel_rfl) (fun _ _ _ h => h) (.inl ⟨by kernel_rfl, fun x_ hu => by kernel_rfl⟩) hB ?_
    simp only [nrm]
    refine any_take (i := 1) (v := (.int .i64 (j : Int))) #[true, false, false, false, false, false, false, false, false, false, false, false] rfl (by kernel_rfl) (by kernel_rfl) (by kernel_rfl) (by kernel_rfl) (fun _ _ _ h => h) (.inl ⟨by kernel_rfl, fun x_ hu => by kernel_rfl⟩) hB ?_
    simp only [nrm]
    refine any_take (i := 2) (v := (.pointer (some ⟨p2, q2 + 32 * j, none⟩))) #[true, true, false, false, false, false, false, false, false, false, false, false] rfl (by kernel_rfl) (by kernel_rfl) (by kernel_rfl) (by kernel_rfl) (fun _ _ _ h => h) (.inl ⟨by kernel_rfl, fun x_ hu => exec_iks _ (.tmp 22) (.tmp 23) rfl p2 q2 n d j (by rw [← unhide eb]; kernel_rfl) (by kernel_rfl) hlt⟩) hB ?_
    simp only [nrm]
    refine any_take (i := 3) (v := (.agg (kc OJ))) #[true, true, true, false, false, false, false, false, false, false, false, false] rfl (by kernel_rfl) (by kernel_rfl) (by kernel_rfl) (by kernel_rfl) (fun _ _ _ h => h) (.inl ⟨by kernel_rfl, fun x_ hu => exec_kr _ (.tmp 24) rfl p2 (q2 + 32 * j) (by kernel_rfl) OJ hol (rg_gr (unhide hrg2) hu.gr)⟩) hB ?_
    simp only [nrm]
    refine any_take (i := 4) (v := (.agg (kc KJ))) #[true, true, true, true, false, false, false, false, false, false, false, false] rfl (by kernel_rfl) (by kernel_rfl) (by kernel_rfl) (by kernel_rfl) (fun _ _ _ h => h) (.inl ⟨by kernel_rfl, fun x_ hu => exec_arr _ 34 (.tmp 8) rfl (gk) (by kernel_rfl) (kc KJ) 34 _ (hu.get 1 (x := ⟨gk, kc KJ, 34⟩) rfl) Tryd.underlying34 rfl (by rw [Tryd.infoKey, kc_size, hkl])⟩) hB ?_
    simp only [nrm]
    refine float_first (fun q u => NKe b0 u q) 9 (fun b_ => #[true, true, true, true, true, false, false, false, false, b_, false, false]) 9 5 false rfl rfl (fun _ g_ => hB.more g_) (by kernel_rfl) (fun b_ => by cases b_ <;> rfl) ?_ ?_
    all_goals simp only [fw1, Act.put, List.setIfInBounds_toArray, List.set_cons_zero, List.set_cons_succ, List.getElem_toArray, List.getElem_cons_zero, List.getElem_cons_succ]
    · intro q_ x_ hgx K hQ
      refine wpOp_step (o := _) rfl (fun K' hK' => ?_)
      replace hK' := hide hK'
      replace hQ := hide hQ
      refine step_val (.pointer (some ⟨x_.heap.size, 0, none⟩)) (x_.alloc (.cells (kc ZK) 34 (0, 0))) (by kernel_rfl) (by kernel_rfl) ?_
      exact unhide hK' _ _ (unhide hQ _ _ ((Gr.refl _).alloc _) (⟨_, rfl, Nat.le_trans hle hgx.size, blk_new _ _⟩))
    intro b1_5 q1_5 x1_5 hg hTq hall
    replace hB := hB.more hg
    replace hle := Nat.le_trans hle hg.size
    clear hall
    refine wpOp_step (o := _) rfl (fun K_ hQ => ?_)
    replace hQ := hide hQ
    refine step_callw (by kernel_rfl) 16 #[.agg (kc OJ), .agg (kc KJ)] (by kernel_rfl) ((agree_yes OJ KJ ⟨hol, unhide hob⟩ ⟨hkl, unhide hkb⟩ (unhide hnl) _).mono ?_)
    rintro r x1 ⟨rfl, hg⟩
    refine ⟨_, rfl, ?_⟩
    replace hTq := fun e => NKe.gr (hTq e) hg
    replace hB := hB.more hg
    replace hle := Nat.le_trans hle hg.size
    clear hg
    obtain ⟨A, hA⟩ : ∃ A, A = agL OJ KJ := ⟨_, rfl⟩
    rw [← hA]
    have hAl : A.length = 32 := by rw [hA]; exact (agL_isK _ _).1
    replace hly := hide (show lay (kz S n j) (32 * j) A = kz S n (j + 1) by rw [hA]; exact unhide hly)
    clear hA
    refine unhide hQ _ _ ⟨hB, ?_⟩
    clear hQ K_
    simp only [nrm]
    refine any_take (i := 6) (v := (.tuple #[.agg (kc A), .int .i64 0])) #[true, true, true, true, true, true, false, false, false, false, false, false] rfl (by kernel_rfl) (by kernel_rfl) (by kernel_rfl) (by kernel_rfl) (fun _ _ _ h => h) (.inl ⟨by kernel_rfl, fun x_ hu => by kernel_rfl⟩) hB ?_
    simp only [nrm]
    refine any_take (i := 7) (v := (.agg (kc A))) #[true, true, true, true, true, true, true, false, false, false, false, false] rfl (by kernel_rfl) (by kernel_rfl) (by kernel_rfl) (by kernel_rfl) (fun _ _ _ h => h) (.inl ⟨by kernel_rfl, fun x_ hu => by kernel_rfl⟩) hB ?_
    simp only [nrm]
    refine any_take (i := 8) (v := (.int .i64 0)) #[true, true, true, true, true, true, true, true, false, false, false, false] rfl (by kernel_rfl) (by kernel_rfl) (by kernel_rfl) (by kernel_rfl) (fun _ _ _ h => h) (.inl ⟨by kernel_rfl, fun x_ hu => by kernel_rfl⟩) hB ?_
    simp only [nrm]
    refine float_again (fun q u => NKe b0 u q) 9 (fun b_ => #[true, true, true, true, true, true, true, true, true, b_, false, false]) 9 10 true (b := b1_5) (q := q1_5) rfl rfl hTq (fun _ g_ => hB.more g_) (by kernel_rfl) (fun b_ => by cases b_ <;> rfl) ?_ ?_
    all_goals simp only [fw1, Act.put, List.setIfInBounds_toArray, List.set_cons_zero, List.set_cons_succ, List.getElem_toArray, List.getElem_cons_zero, List.getElem_cons_succ]
    · intro q_ x_ hgx K hQ
      refine wpOp_step (o := _) rfl (fun K' hK' => ?_)
      replace hK' := hide hK'
      replace hQ := hide hQ
      refine step_val (.pointer (some ⟨x_.heap.size, 0, none⟩)) (x_.alloc (.cells (kc ZK) 34 (0, 0))) (by kernel_rfl) (by kernel_rfl) ?_
      exact unhide hK' _ _ (unhide hQ _ _ ((Gr.refl _).alloc _) (⟨_, rfl, Nat.le_trans hle hgx.size, blk_new _ _⟩))
    clear hTq
    intro b1_10 q1_10 x1_10 hg hTq hall
    replace hB := hB.more hg
    replace hle := Nat.le_trans hle hg.size
    obtain rfl : b1_10 = true := hall (by trivial)
    replace hTq := hTq rfl
    clear hall
    obtain ⟨gx, rfl, hgx1, hgb⟩ := hTq
    refine wpOp_step (o := _) rfl (fun K_ hQ => ?_)
    replace hQ := hide hQ
    rw [if_pos (by kernel_rfl)]
    refine wp_store_row 34 (.tmp 9) (.tmp 28) rfl gx (kc A) (by kernel_rfl) (by kernel_rfl) 34 (kc ZK) hgb (by rw [Tryd.infoKey, kc_size, hAl]) (by rw [kc_size, kc_size, hAl]; rfl) (kc_one _) ?_
    have hB2 := hB.add ⟨gx, kc ZK, 34⟩ hgb (show w.heap.size ≤ gx by omega) (by intro y hy; simp only [List.mem_cons, List.not_mem_nil, or_false] at hy; rcases hy with rfl | rfl <;> dsimp only <;> omega)
    replace hB2 := hB2.set 2 (x := ⟨gx, kc ZK, 34⟩) rfl (kc A)
    simp only [List.cons_append, List.nil_append, List.set_cons_zero, List.set_cons_succ] at hB2
    replace hB2 : Bl w [⟨gs, kc (kz S n j), 34⟩, ⟨gk, kc KJ, 34⟩, ⟨gx, kc A, 34⟩] _ := hB2
    have hBl : Bl w [⟨gs, kc (kz S n j), 34⟩, ⟨gk, kc KJ, 34⟩] _ := Bl.left (M := [⟨gx, kc A, 34⟩]) hB2
    clear hB hgb
    generalize World.setRow _ _ _ = x9 at *
    have hB := hB2
    clear hB2
    refine unhide hQ _ _ ⟨hBl, ?_⟩
    clear hQ K_ hBl
    simp only [nrm]
    refine any_one (i := 11) (by kernel_rfl) rfl (fun K_ hQ => ?_)
    replace hQ := hide hQ
    go_simp
    refine (unhide hQ).out _ _ (Bl.left (M := [⟨gx, kc A, 34⟩]) hB) (fun _ => ?_)
    clear hQ K_
    refine any_done (by kernel_rfl) ?_
    clear hrg2 eb hle
    replace hB := hide hB
    go_upto_region 8 with fail
    replace hB := unhide hB
    refine wp_region_lit ?_
    refine list_val (.slice (some ⟨gs, 0, none⟩) n n) (by kernel_rfl) (by kernel_rfl) ?_
    simp only [nrm]
    refine list_val (.int .i64 (j : Int)) (by kernel_rfl) (by kernel_rfl) ?_
    simp only [nrm]
    refine list_val (.agg (kc A)) (by kernel_rfl) (exec_arr _ 34 (.tmp 9) rfl (gx) (by kernel_rfl) (kc A) 34 _ (hB.get 2 (x := ⟨gx, kc A, 34⟩) rfl) Tryd.underlying34 rfl (by rw [Tryd.infoKey, kc_size, hAl])) ?_
    simp only [nrm]
    refine list_val (.pointer (some ⟨gs, 0 + 32 * j, none⟩)) (by kernel_rfl) (exec_iks _ (.tmp 33) (.tmp 34) rfl gs 0 n n j (by kernel_rfl) (by kernel_rfl) hlt) ?_
    simp only [nrm]
    refine wpList_step fun K_ hQ => ?_
    refine list_store_mid 34 (.tmp 36) (.tmp 35) gs (0 + 32 * j) (kc A) (by kernel_rfl) rfl (by kernel_rfl) (by kernel_rfl) (there_of (C := (kz S n j).map (Value.int .u8)) (hB.get 0 (x := ⟨gs, kc (kz S n j), 34⟩) rfl) (by rw [kc_size, hAl, List.length_map, unhide hkzl]; omega)) (by rw [Tryd.infoKey, kc_size, hAl]) (kc_one _) ?_
    have hcell := laid (S := A) (o := 0 + 32 * j) (hB.get 0 (x := ⟨gs, kc (kz S n j), 34⟩) rfl) (by rw [hAl, unhide hkzl]; omega)
    have hB2 := hB.but (setCells_bt (A.map (Value.int .u8)) _ gs (0 + 32 * j)) 0 (x := ⟨gs, kc (kz S n j), 34⟩) rfl rfl hcell
    rw [Nat.zero_add, unhide hly] at hB2
    simp only [List.set_cons_zero, List.set_cons_succ] at hB2
    have e9 : (kc A).toList = A.map (Value.int .u8) := rfl
    rw [e9, Nat.zero_add]
    clear hcell hB e9
    generalize World.setCells _ _ _ _ = y9 at *
    have hI2 : Hid (Bl w [⟨gs, kc (kz S n (j + 1)), 34⟩] y9) := Bl.left (M := [⟨gk, kc KJ, 34⟩, ⟨gx, kc A, 34⟩]) hB2
    clear hB2
    refine hQ _ _ ?_
    clear hQ K_
    simp only [nrm]
    refine wpList_nil ?_
    have ej : IntKind.i64.wrap ((j : Int) + 1) = ((j + 1 : Nat) : Int) := by rw [IntKind.wrap_i64]; omega
    go_wp2_with fail
    go_roundw
    case rel => exact ⟨j + 1, by omega, by go_num, hI2⟩
    case measure => simp [intOf]; omega
  · skip
    obtain rfl : j = n := by omega
    have jI : ¬ (j : Int) < (j : Int) := by omega
    have hb := hB.get 0 (x := ⟨gs, kc (kz S j j), 34⟩) rfl
    have hKw : Kw wr (some ⟨gs, 0, none⟩) j j S := by
      refine ⟨unhide hSl, unhide hSk, .inr ⟨gs, 0, rfl, ?_⟩, Nat.le_refl _, by omega⟩
      have h1 := kc_at hb
      unfold kz at h1
      rw [Nat.sub_self, List.replicate_zero, List.append_nil, List.take_of_length_le (by rw [unhide hSl]; exact Nat.le_refl _)] at h1
      exact h1
    have hZ : Hid (Agd (shL os ks) j w (.returned (.tuple #[.slice (some ⟨gs, 0, none⟩) j j, .int .i64 0])) wr) := ⟨_, _, rfl, by rw [← unhide hS]; exact hKw, hB.gr⟩
    clear hB hb hKw
    go_wp2_with fail
    rw [unhide hT]
    exact unhide hZ
theorem exec_upto_s {a : Act} {o : Oper} (w : World) (x y : Operand) (ho : o.op = .slice 24 x none (some y) none) (g len cap n : Nat) (hx : a.eval x = .slice (some ⟨g, 0, none⟩) len cap) (hy : a.eval y = .int .i64 n) (hc : len ≤ cap) (hn : n ≤ len) (h0 : 0 < cap) :
    (execOp a.eval o).run Tryd.prog w = .ok (.value (.slice (some ⟨g, 0, none⟩) n cap)) w := by
  have h := exec_upto w x y ho (some ⟨g, 0, none⟩) len cap n hx hy hc hn
  rw [if_neg (by omega), Option.map_some, add_some] at h
  exact h
theorem exec_from_s {a : Act} {o : Oper} (w : World) (x y : Operand) (ho : o.op = .slice 24 x (some y) none none) (g len cap n : Nat) (hx : a.eval x = .slice (some ⟨g, 0, none⟩) len cap) (hy : a.eval y = .int .i64 n) (hc : len ≤ cap) (hn : n < len) :
    (execOp a.eval o).run Tryd.prog w = .ok (.value (.slice (some ⟨g, 0 + n, none⟩) (len - n) (cap - n))) w := by
  have h := exec_from w x y ho (some ⟨g, 0, none⟩) len cap n hx hy hc (by omega)
  rw [if_neg (by omega), Option.map_some, add_some] at h
  exact h
theorem ob_lay {b g n c k : Nat} {w : World} {L X : List Int} (h : Ob b w (.slice (some ⟨g, 0, none⟩) n c) L) (hk : k + X.length ≤ L.length) : Ob b (w.setCells g k (X.map (Value.int .u8))) (.slice (some ⟨g, 0, none⟩) n c) (lay L k X) := by
  have hll := lay_len L k X hk
  rcases h with ⟨h0, ⟨h1, _⟩ | ⟨g', cap, cur, h1, h2, h3, h4, h5, h6, h7⟩⟩
  · cases h1
  · injection h1 with e1 e2 e3
    injection e1 with e1
    injection e1 with e1
    subst e1 e2 e3
    have h8 := setCells_heap (X.map (Value.int .u8)) w g k cur.toList 5 (by simpa using h3)
    rw [Nat.mul_one] at h7
    have e : cur.toList = (L.map (Value.int .u8)).take k ++ (((L.map (Value.int .u8)).drop k).take X.length ++ ((L.map (Value.int .u8)).drop (k + X.length) ++ cur.toList.drop L.length)) := by
      rw [← List.append_assoc, ← List.append_assoc, List.append_assoc ((L.map (Value.int .u8)).take k), ← List.drop_drop, List.take_append_drop, List.take_append_drop, ← h7, List.take_append_drop]
    have h9 := sp_mid (X.map (Value.int .u8)) ((L.map (Value.int .u8)).take k) (((L.map (Value.int .u8)).drop k).take X.length) ((L.map (Value.int .u8)).drop (k + X.length) ++ cur.toList.drop L.length) (by simp; omega)
    rw [← e, List.length_take, List.length_map, Nat.min_eq_left (by omega)] at h9
    rw [h9] at h8
    refine ⟨by simp, .inr ⟨g, c, _, by rw [hll], h2, h8, by rw [hll]; exact h4, h5, ?_, ?_⟩⟩
    · have hs : cur.toList.length = c := by rw [Array.length_toList, h6, Nat.mul_one]
      have hL : L.length ≤ c := h4
      simp
      omega
    · rw [Nat.mul_one, hll]
      unfold lay
      simp only [List.map_append, List.map_take, List.map_drop, ← List.append_assoc]
      rw [List.take_append_of_le_length (by simp; omega), List.take_of_length_le (by simp; omega)]
theorem zlay (i : Nat) (X T : List Int) (hX : X.length = 32) : lay (List.replicate (32 * (i + 1)) 0 ++ T) (32 * i) X = List.replicate (32 * i) 0 ++ (X ++ T) := by
  unfold lay
  rw [List.take_append_of_le_length (by simp; omega), List.take_replicate, Nat.min_eq_left (by omega), hX, List.drop_append, List.drop_of_length_le (l := List.replicate (32 * (i + 1)) (0 : Int)) (by simp; omega), List.length_replicate, show 32 * i + 32 - 32 * (i + 1) = 0 by omega, List.drop_zero, List.nil_append]
theorem ztake (k : Nat) (T : List Int) : (List.replicate k (0 : Int) ++ T).take k = List.replicate k 0 := by
  rw [List.take_append_of_le_length (by simp), List.take_of_length_le (by simp)]
theorem zdrop (k : Nat) (T : List Int) : (List.replicate k (0 : Int) ++ T).drop k = T := by
  rw [List.drop_append, List.drop_of_length_le (by simp), List.length_replicate, Nat.sub_self, List.drop_zero, List.nil_append]
theorem zisB (k : Nat) {T : List Int} (h : IsB T) : IsB (List.replicate k 0 ++ T) := fun x hx => by
  rcases List.mem_append.1 hx with h1 | h1
  · rw [(List.mem_replicate.1 h1).2]; omega
  · exact h x h1
set_option maxHeartbeats 4000000 in
theorem nlay_ok (r : Int) (hr : 0 ≤ r) (S O : List (List Int)) (P : List Int) (a b s : Option Addr) (n c d m cm : Nat) (hn : n ≤ 3) (hm : m ≤ 10000) (w : World) (hF : Fst w) (lk : Kw w a n c S) (lo : Kw w b n d O) (lp : Lb w s m cm P) : Calls Tryd.prog 15 #[.int .u64 r, .slice a n c, .slice b n d, .slice s m cm] w (Obd (onL r P S O) w) := by
  obtain ⟨T, hT⟩ : ∃ T, T = Obd (onL r P S O) w := ⟨_, rfl⟩
  rw [← hT]
  replace hT := hide hT
  have hSn := lk.len
  have hOn := lo.len
  have hPm := lp.len
  have hPb := lp.isB
  have hmx := lk.max
  obtain ⟨k0, hk0⟩ : ∃ k, k = 32 * n := ⟨_, rfl⟩
  have hmul : IntKind.i64.wrap ((n : Int) * 32) = (k0 : Int) := by rw [IntKind.wrap_i64]; omega
  have hsub : IntKind.i64.wrap ((n : Int) - 1) = (n : Int) - 1 := by rw [IntKind.wrap_i64]; omega
  replace lk := hide lk
  replace lo := hide lo
  replace lp := hide lp
  replace hSn := hide hSn
  replace hOn := hide hOn
  replace hPm := hide hPm
  replace hPb := hide hPb
  replace hF := hide hF
  replace hk0 := hide hk0
  go_enter Tryd.func15, Tryd.ntmps15
  go_upto_region 1 with fail
  refine wp_region_lit ?_
  refine list_val (.slice a n c) (by kernel_rfl) (by kernel_rfl) ?_
  simp only [nrm]
  refine list_val (.int .i64 (n : Int)) (by kernel_rfl) (by kernel_rfl) ?_
  simp only [nrm]
  refine list_val (.int .i64 (k0 : Int)) (by kernel_rfl) (by go_simp) ?_
  simp only [nrm]
  refine wpList_step fun K_ hQ => ?_
  rw [if_pos (by kernel_rfl)]
  refine make_op (.tmp 15) (.tmp 15) rfl k0 k0 (by kernel_rfl) (by kernel_rfl) (Nat.le_refl _) (by have := unhide hk0; omega) ?_
  have hG := (Gr.refl w).alloc (.cells (kc (List.replicate k0 0)) 5 (0, 0))
  have hO : Ob w.heap.size _ (.slice (some ⟨w.heap.size, 0, none⟩) k0 k0) (List.replicate k0 0) := ob_of (blk_new w (.cells (kc (List.replicate k0 0)) 5 (0, 0))) (by simp) (Nat.le_refl _) (by have := unhide hk0; omega)
  generalize World.alloc _ _ = u1 at *
  generalize hgz : w.heap.size = gz at *
  replace hgz := hide hgz
  replace hO := hide hO
  refine hQ _ _ ?_
  clear hQ K_
  simp only [nrm]
  refine list_val (.slice s m cm) (by kernel_rfl) (by kernel_rfl) ?_
  simp only [nrm]
  refine app_bs (by kernel_rfl) (.tmp 16) (.tmp 17) rfl gz _ (List.replicate k0 0) rfl (unhide hO) s m cm P (by kernel_rfl) (unhide hPm) ((unhide lp).gr hG).sl (by rw [List.length_replicate]; have := unhide hk0; omega) (by rw [← unhide hgz]; exact hG.size) ?_
  intro v2 u2 hO2 hgr
  replace hG := (unhide hO).grown (by rw [← unhide hgz]; exact Nat.le_refl _) hG hgr
  clear hgr hO
  simp only [nrm]
  (refine wpList_step fun K hK => ?_; replace hK := hide hK; go_simp; refine unhide hK _ _ ?_; clear hK K)
  refine wpList_nil ?_
  have hI0 : Hid (Ob gz u2 v2 (List.replicate (32 * n) 0 ++ onL r P (S.drop n) (O.drop n)) ∧ Gr w u2) := ⟨by rw [onL_end r P S O n (by rw [unhide hSn]; exact Nat.le_refl _), ← unhide hk0]; exact hO2, hG⟩
  clear hO2 hG
  go_upto_region 2 with fail
  refine wp_region_lit ?_
  refine list_val (.slice a n c) (by kernel_rfl) (by kernel_rfl) ?_
  simp only [nrm]
  refine list_val (.int .i64 (n : Int)) (by kernel_rfl) (by kernel_rfl) ?_
  simp only [nrm]
  refine list_val (.int .i64 ((n : Int) - 1)) (by kernel_rfl) (by go_simp) ?_
  simp only [nrm]
  refine list_val (.slice a n c) (by kernel_rfl) (by kernel_rfl) ?_
  simp only [nrm]
  refine list_val (.int .i64 (n : Int)) (by kernel_rfl) (by kernel_rfl) ?_
  simp only [nrm]
  refine list_val (.int .i64 (k0 : Int)) (by kernel_rfl) (by go_simp) ?_
  simp only [nrm]
  (refine wpList_step fun K hK => ?_; replace hK := hide hK; go_simp; refine unhide hK _ _ ?_; clear hK K)
  (refine wpList_step fun K hK => ?_; replace hK := hide hK; go_simp; refine unhide hK _ _ ?_; clear hK K)
  refine wpList_nil ?_
  clear hmul hsub
  go_wp2_with fail
  go_loopw [9, 10, 11] (fun v h e wr => ∃ (j : Nat) (v' : Value) (hi : Int) (k' : Nat), j ≤ n ∧ v' = v ∧ h = .int .i64 hi ∧ e = .int .i64 (k' : Int) ∧ Hid (hi + 1 = (j : Int)) ∧ Hid (k' = 32 * j) ∧ Hid (Ob gz wr v' (List.replicate (32 * j) 0 ++ onL r P (S.drop j) (O.drop j)) ∧ Gr w wr)) (fun _ _ e _ => (intOf e).toNat)
  case atStart => exact ⟨n, _, _, k0, Nat.le_refl _, rfl, rfl, rfl, by show (n : Int) - 1 + 1 = n; omega, hk0, hI0⟩
  case round =>
  clear hI0
  obtain ⟨j, v', hi, k, hj, rfl, rfl, rfl, hhi, hk, hA⟩ := hrel
  obtain ⟨hO, hG⟩ := unhide hA
  clear hA
  rcases j with _ | i
  · skip
    have jI : ¬ (0 : Int) ≤ hi := by have := unhide hhi; omega
    have hZ : Hid (Obd (onL r P S O) w (.returned v') wr) := by
      refine ⟨v', rfl, ?_, hG⟩
      rw [unhide hgz]
      simpa using hO
    clear hO hG
    go_wp2_with fail
    rw [unhide hT]
    exact unhide hZ
  · skip
    have hlt : i < n := by omega
    obtain rfl : hi = (i : Int) := by have := unhide hhi; omega
    clear hhi
    obtain rfl : k = 32 * (i + 1) := unhide hk
    clear hk
    have jI : (0 : Int) ≤ (i : Int) := by omega
    obtain ⟨hkl, hkb⟩ := (unhide lk).key i hlt
    obtain ⟨hol, hob⟩ := (unhide lo).key i hlt
    obtain ⟨p, q, ea, hrg⟩ := (unhide lk).row i hlt
    obtain ⟨p2, q2, eb, hrg2⟩ := (unhide lo).row i hlt
    have hon := onL_drop r P S O i (by rw [unhide hSn]; exact hlt) (by rw [unhide hOn]; exact hlt)
    have hBl : (onL r P (S.drop (i + 1)) (O.drop (i + 1))).length ≤ 10144 := by
      rw [onL_len r P _ _ (by rw [List.length_drop, List.length_drop, unhide hSn, unhide hOn]), List.length_drop, unhide hSn, unhide hPm]
      omega
    have hBb := onL_isB r P (unhide hPb) (S.drop (i + 1)) (O.drop (i + 1))
    obtain ⟨KJ, hKJ⟩ : ∃ K, K = S.getD i [] := ⟨_, rfl⟩
    obtain ⟨OJ, hOJ⟩ : ∃ K, K = O.getD i [] := ⟨_, rfl⟩
    rw [← hKJ] at hkl hkb hrg hon
    rw [← hOJ] at hol hob hrg2 hon
    clear hKJ hOJ
    generalize onL r P (S.drop (i + 1)) (O.drop (i + 1)) = BJ at *
    have hLl : (List.replicate (32 * (i + 1)) (0 : Int) ++ BJ).length = 32 * (i + 1) + BJ.length := by simp
    have hLb := zisB (32 * (i + 1)) hBb
    have hkI : ((32 * (i + 1) : Nat) : Int) - 32 = ((32 * i : Nat) : Int) := by omega
    have hw1 : IntKind.i64.wrap (((32 * (i + 1) : Nat) : Int) - 32) = ((32 * i : Nat) : Int) := by rw [hkI, IntKind.wrap_i64]; omega
    have hw2 : IntKind.i64.wrap ((i : Int) - 1) = (i : Int) - 1 := by rw [IntKind.wrap_i64]; omega
    clear hkI
    have hly := zlay i (pubL OJ) (seO r KJ tO BJ) (pubL_isK OJ).1
    have htk := ztake (32 * (i + 1)) BJ
    have hdp := zdrop (32 * (i + 1)) BJ
    obtain ⟨k, hk⟩ : ∃ k, k = 32 * (i + 1) := ⟨_, rfl⟩
    obtain ⟨k2, hk2⟩ : ∃ k, k = 32 * i := ⟨_, rfl⟩
    rw [← hk] at hO hLl hLb hw1 hly htk hdp ⊢
    rw [← hk2] at hw1 hly
    have hk7 : k2 + 32 ≤ k := by omega
    have hk8 : k ≤ k2 + 32 := by omega
    have hk9 : k ≤ 96 := by omega
    obtain ⟨L, hL⟩ : ∃ L, L = List.replicate k (0 : Int) ++ BJ := ⟨_, rfl⟩
    rw [← hL] at hO hLl hLb htk hdp
    obtain ⟨g, co, cur, rfl, hg1, -, hc1, hc2, -, -⟩ := hO.some (by intro e; rw [e] at hLl; simp at hLl; omega)
    have lL : Lb wr (some ⟨g, 0, none⟩) L.length co L := by
      obtain ⟨a9, c9, e9, l9⟩ := hO.lb hLb
      injection e9 with e1 _ e3
      rw [e1, e3]
      exact l9
    have hmaxL : co < 9223372036854775808 := lL.max
    rw [hLl] at lL hc1 ⊢
    obtain ⟨len, hlen⟩ : ∃ n, n = k + BJ.length := ⟨_, rfl⟩
    rw [← hlen] at lL hc1 ⊢
    have hl7 : len ≤ k + BJ.length := by omega
    have hl8 : k + BJ.length ≤ len := by omega
    replace hlen := hide hlen
    have lD := lL.rest k (by omega)
    rw [hdp] at lD
    obtain ⟨s9, hs9⟩ : ∃ s, s = (if co = k then (some ⟨g, 0, none⟩ : Option Addr) else (some ⟨g, 0, none⟩ : Option Addr).map (·.add k)) := ⟨_, rfl⟩
    rw [← hs9] at lD
    have hOt : Ob gz wr (.slice (some ⟨g, 0, none⟩) k co) (List.replicate k 0) := by
      rw [← htk]
      exact ob_take hO (by rw [hLl]; omega)
    clear hO lL hLb htk hdp hL hLl
    replace hrg := hide hrg; replace hrg2 := hide hrg2; replace hkb := hide hkb; replace hob := hide hob; replace ea := hide ea; replace eb := hide eb; replace hOt := hide hOt; replace lD := hide lD; replace hly := hide hly; replace hon := hide hon; replace hG := hide hG; replace hs9 := hide hs9; replace hk := hide hk; replace hk2 := hide hk2; replace hBb := hide hBb
    go_upto_region 5 with fail
    replace hG := unhide hG
    refine any_start (S := fun (v : World) => Gr w v) (by kernel_rfl) ?_
    replace hG := hG.drew
    have hgd : Gr wr wr.drew := (Gr.refl wr).drew
    generalize World.drew _ = x0 at *
    simp only [List.size_toArray, List.length_cons, List.length_nil, Array.replicate, List.replicate]
    refine any_take (i := 0) (v := (.slice (some ⟨g, 0, none⟩) len co)) #[false, false, false, false, false, false, false, false, false, false, false, false, false, false] rfl (by kernel_rfl) (by kernel_rfl) (by kernel_rfl) (by kernel_rfl) (fun _ _ _ h => h) (.inl ⟨by kernel_rfl, fun x_ hu => by kernel_rfl⟩) hG ?_
    simp only [nrm]
    refine any_take (i := 1) (v := (.int .i64 (k : Int))) #[true, false, false, false, false, false, false, false, false, false, false, false, false, false] rfl (by kernel_rfl) (by kernel_rfl) (by kernel_rfl) (by kernel_rfl) (fun _ _ _ h => h) (.inl ⟨by kernel_rfl, fun x_ hu => by kernel_rfl⟩) hG ?_
    simp only [nrm]
    refine any_take (i := 2) (v := (.slice (some ⟨g, 0, none⟩) k co)) #[true, true, false, false, false, false, false, false, false, false, false, false, false, false] rfl (by kernel_rfl) (by kernel_rfl) (by kernel_rfl) (by kernel_rfl) (fun _ _ _ h => h) (.inl ⟨by kernel_rfl, fun x_ hu => exec_upto_s _ (.tmp 31) (.tmp 32) rfl g len co k (by kernel_rfl) (by kernel_rfl) hc1 (by omega) (by omega)⟩) hG ?_
    simp only [nrm]
    refine any_take (i := 3) (v := (.int .u64 r)) #[true, true, true, false, false, false, false, false, false, false, false, false, false, false] rfl (by kernel_rfl) (by kernel_rfl) (by kernel_rfl) (by kernel_rfl) (fun _ _ _ h => h) (.inl ⟨by kernel_rfl, fun x_ hu => by kernel_rfl⟩) hG ?_
    simp only [nrm]
    refine any_take (i := 4) (v := (.slice a n c)) #[true, true, true, true, false, false, false, false, false, false, false, false, false, false] rfl (by kernel_rfl) (by kernel_rfl) (by kernel_rfl) (by kernel_rfl) (fun _ _ _ h => h) (.inl ⟨by kernel_rfl, fun x_ hu => by kernel_rfl⟩) hG ?_
    simp only [nrm]
    refine any_take (i := 5) (v := (.int .i64 (i : Int))) #[true, true, true, true, true, false, false, false, false, false, false, false, false, false] rfl (by kernel_rfl) (by kernel_rfl) (by kernel_rfl) (by kernel_rfl) (fun _ _ _ h => h) (.inl ⟨by kernel_rfl, fun x_ hu => by kernel_rfl⟩) hG ?_
    simp only [nrm]
    refine any_take (i := 6) (v := (.pointer (some ⟨p, q + 32 * i, none⟩))) #[true, true, true, true, true, true, false, false, false, false, false, false, false, false] rfl (by kernel_rfl) (by kernel_rfl) (by kernel_rfl) (by kernel_rfl) (fun _ _ _ h => h) (.inl ⟨by kernel_rfl, fun x_ hu => exec_iks _ (.tmp 35) (.tmp 36) rfl p q n c i (by rw [← unhide ea]; kernel_rfl) (by kernel_rfl) hlt⟩) hG ?_
    simp only [nrm]
    refine any_take (i := 7) (v := (.agg (kc KJ))) #[true, true, true, true, true, true, true, false, false, false, false, false, false, false] rfl (by kernel_rfl) (by kernel_rfl) (by kernel_rfl) (by kernel_rfl) (fun _ _ _ h => h) (.inl ⟨by kernel_rfl, fun x_ hu => exec_kr _ (.tmp 37) rfl p (q + 32 * i) (by kernel_rfl) KJ hkl (rg_gr (unhide hrg) hu)⟩) hG ?_
    simp only [nrm]
    refine any_take (i := 8) (v := (.slice (some ⟨g, 0, none⟩) len co)) #[true, true, true, true, true, true, true, true, false, false, false, false, false, false] rfl (by kernel_rfl) (by kernel_rfl) (by kernel_rfl) (by kernel_rfl) (fun _ _ _ h => h) (.inl ⟨by kernel_rfl, fun x_ hu => by kernel_rfl⟩) hG ?_
    simp only [nrm]
    refine any_take (i := 9) (v := (.int .i64 (k : Int))) #[true, true, true, true, true, true, true, true, true, false, false, false, false, false] rfl (by kernel_rfl) (by kernel_rfl) (by kernel_rfl) (by kernel_rfl) (fun _ _ _ h => h) (.inl ⟨by kernel_rfl, fun x_ hu => by kernel_rfl⟩) hG ?_
    simp only [nrm]
    refine any_take (i := 10) (v := (.slice s9 (len - k) (co - k))) #[true, true, true, true, true, true, true, true, true, true, false, false, false, false] rfl (by kernel_rfl) (by kernel_rfl) (by kernel_rfl) (by kernel_rfl) (fun _ _ _ h => h) (.inl ⟨by kernel_rfl, fun x_ hu => by rw [unhide hs9]; exact exec_from _ (.tmp 39) (.tmp 40) rfl (some ⟨g, 0, none⟩) len co k (by kernel_rfl) (by kernel_rfl) hc1 (by omega)⟩) hG ?_
    simp only [nrm]
    refine any_one (i := 11) (by kernel_rfl) rfl (fun K_ hQ => ?_)
    refine step_callw (by kernel_rfl) 18 #[.int .u64 r, .agg (kc KJ), .string tO, .slice s9 (len - k) (co - k)] (by kernel_rfl) ((nseal_ok r hr KJ hkl (unhide hkb) tO (by decide) BJ s9 (len - k) (co - k) (by omega) _ ((unhide hF).gr hG) ((unhide lD).gr hgd)).mono ?_)
    rintro r x1 ⟨v3, rfl, hO3, hg⟩
    refine ⟨_, rfl, ?_⟩
    replace hOt := hide ((unhide hOt).gr (hgd.trans hg))
    replace hG := hG.trans hg
    obtain ⟨a3, c3, rfl, l3⟩ := hO3.lb (seO_isB _ _ _ _)
    have hSl := seO_len r KJ tO BJ
    obtain ⟨SE, hSE⟩ : ∃ S, S = seO r KJ tO BJ := ⟨_, rfl⟩
    rw [← hSE] at l3 hSl
    rw [show (seO r KJ tO BJ).length = SE.length by rw [hSE]]
    obtain ⟨n3, hn3⟩ : ∃ n, n = SE.length := ⟨_, rfl⟩
    rw [← hn3] at l3 hSl ⊢
    have hS7 : n3 ≤ BJ.length + 16 := by omega
    have hS8 : BJ.length + 16 ≤ n3 := by omega
    clear hSl
    clear hg hgd lD hO3
    replace l3 := hide l3; replace hSE := hide hSE; replace hn3 := hide hn3
    refine hQ.out _ _ hG (fun _ => ?_)
    clear hQ K_
    simp only [nrm]
    refine any_one (i := 12) (by kernel_rfl) rfl (fun K_ hQ => ?_)
    rw [if_pos (by kernel_rfl)]
    refine app_op (.tmp 33) (.tmp 42) rfl gz _ (List.replicate k 0) rfl (unhide hOt) a3 n3 c3 SE (by kernel_rfl) (unhide hn3).symm (unhide l3).sl (by rw [List.length_replicate]; omega) (by rw [← unhide hgz]; exact hG.size) ?_
    intro v4 x2 hO4 hgr
    replace hG := (unhide hOt).grown (by rw [← unhide hgz]; exact Nat.le_refl _) hG hgr
    clear hgr hOt
    replace hO4 := hide hO4
    refine hQ.out _ _ hG (fun _ => ?_)
    clear hQ K_
    simp only [nrm]
    refine any_one (i := 13) (by kernel_rfl) rfl (fun K_ hQ => ?_)
    replace hQ := hide hQ
    go_simp
    refine (unhide hQ).out _ _ hG (fun _ => ?_)
    clear hQ K_
    refine any_done (by kernel_rfl) ?_
    replace hG := hide hG
    clear hrg ea
    go_upto_region 6 with fail
    replace hG := unhide hG
    refine wp_region_lit ?_
    refine list_val (.slice b n d) (by kernel_rfl) (by kernel_rfl) ?_
    simp only [nrm]
    refine list_val (.int .i64 (i : Int)) (by kernel_rfl) (by kernel_rfl) ?_
    simp only [nrm]
    refine list_val (.pointer (some ⟨p2, q2 + 32 * i, none⟩)) (by kernel_rfl) (exec_iks _ (.tmp 44) (.tmp 45) rfl p2 q2 n d i (by rw [← unhide eb]; kernel_rfl) (by kernel_rfl) hlt) ?_
    simp only [nrm]
    refine list_val (.agg (kc OJ)) (by kernel_rfl) (exec_kr _ (.tmp 46) rfl p2 (q2 + 32 * i) (by kernel_rfl) OJ hol (rg_gr (unhide hrg2) hG)) ?_
    simp only [nrm]
    refine list_call 13 #[.agg (kc OJ)] (by kernel_rfl) (by kernel_rfl) ((public_is OJ ⟨hol, unhide hob⟩ x2).mono ?_)
    rintro r_ x3 ⟨rfl, hg⟩
    obtain ⟨PU, hPU⟩ : ∃ S, S = pubL OJ := ⟨_, rfl⟩
    have hPl : PU.length = 32 := by rw [hPU]; exact (pubL_isK _).1
    rw [← hPU]
    replace hO4 := hide ((unhide hO4).gr hg)
    replace hG := hG.trans hg
    clear hg
    replace hPU := hide hPU
    refine ⟨_, rfl, ?_⟩
    simp only [nrm]
    refine list_valw (.pointer (some ⟨x3.heap.size, 0, none⟩)) (x3.alloc (.cells (kc ZK) 34 (0, 0))) (by kernel_rfl) (by kernel_rfl) ?_
    have hb5 := blk_new x3 (.cells (kc ZK) 34 (0, 0))
    have hg := (Gr.refl x3).alloc (.cells (kc ZK) 34 (0, 0))
    replace hO4 := hide ((unhide hO4).gr hg)
    have hB := (Bl.nil x3).new (kc ZK) 34
    simp only [List.nil_append] at hB
    have hx3 := hG.size
    generalize World.alloc _ _ = x4 at *
    generalize x3.heap.size = gp at *
    replace hB : Bl x3 [⟨gp, kc ZK, 34⟩] x4 := hB
    clear hg
    simp only [nrm]
    have hO5 := hide ((unhide hO4).other hb5 (show (34 : TypeId) ≠ 5 by decide) (kc PU))
    refine list_store 34 (.tmp 12) (.tmp 48) gp (kc PU) 34 (kc ZK) (by kernel_rfl) rfl (by kernel_rfl) (by kernel_rfl) hb5 (by rw [Tryd.infoKey, kc_size, hPl]) (by rw [kc_size, kc_size, hPl]; rfl) (kc_one _) ?_
    replace hB := hB.set 0 (x := ⟨gp, kc ZK, 34⟩) rfl (kc PU)
    simp only [List.set_cons_zero] at hB
    clear hO4 hb5
    generalize World.setRow _ _ _ = x5 at *
    replace hB : Bl x3 [⟨gp, kc PU, 34⟩] x5 := hB
    replace hG := hG.trans hB.gr
    have hb6 := hB.get 0 (x := ⟨gp, kc PU, 34⟩) rfl
    dsimp only at hb6
    clear hB hx3
    simp only [nrm]
    refine wpList_nil ?_
    have hO6 := unhide hO5
    clear hO5
    have hl6 : (List.replicate k (0 : Int) ++ SE).length = k + n3 := by rw [List.length_append, List.length_replicate, ← unhide hn3]
    obtain ⟨g6, c6, cur6, rfl, hg6, hc6, hle6, -, hsz6, -⟩ := hO6.some (by intro e; rw [e] at hl6; simp at hl6; omega)
    rw [hl6] at hle6 ⊢
    obtain ⟨m6, hm6⟩ : ∃ m, m = k + n3 := ⟨_, rfl⟩
    rw [← hm6] at hle6 ⊢
    have hm7 : m6 ≤ k + n3 := by omega
    have hm8 : k + n3 ≤ m6 := by omega
    replace hm6 := hide hm6
    replace hl6 := hide hl6; replace hsz6 := hide hsz6
    replace hO6 := hide hO6; replace hb6 := hide hb6; replace hG := hide hG; replace hc6 := hide hc6
    clear hrg2 eb
    go_upto_region 7 with fail
    replace hG := unhide hG
    refine any_start (S := fun _ => True) (by kernel_rfl) ?_
    replace hG := hG.drew
    replace hO6 := hide ((unhide hO6).gr (Gr.refl _).drew); replace hb6 := hide ((Gr.refl _).drew.blk (unhide hb6)); replace hc6 := hide ((Gr.refl _).drew.blk (unhide hc6))
    generalize World.drew _ = y0 at *
    simp only [List.size_toArray, List.length_cons, List.length_nil, Array.replicate, List.replicate]
    refine any_take (i := 0) (v := (.slice (some ⟨g6, 0, none⟩) m6 c6)) #[false, false, false, false, false, false] rfl (by kernel_rfl) (by kernel_rfl) (by kernel_rfl) (by kernel_rfl) (fun _ _ _ h => h) (.inl ⟨by kernel_rfl, fun x_ hu => by kernel_rfl⟩) trivial ?_
    simp only [nrm]
    refine any_take (i := 1) (v := (.int .i64 (k : Int))) #[true, false, false, false, false, false] rfl (by kernel_rfl) (by kernel_rfl) (by kernel_rfl) (by kernel_rfl) (fun _ _ _ h => h) (.inl ⟨by kernel_rfl, fun x_ hu => by kernel_rfl⟩) trivial ?_
    simp only [nrm]
    refine any_take (i := 2) (v := (.int .i64 (k2 : Int))) #[true, true, false, false, false, false] rfl (by kernel_rfl) (by kernel_rfl) (by kernel_rfl) (by kernel_rfl) (fun _ _ _ h => h) (.inl ⟨by kernel_rfl, fun x_ hu => by go_simp⟩) trivial ?_
    simp only [nrm]
    refine any_take (i := 3) (v := (.slice (some ⟨g6, 0 + k2, none⟩) (m6 - k2) (c6 - k2))) #[true, true, true, false, false, false] rfl (by kernel_rfl) (by kernel_rfl) (by kernel_rfl) (by kernel_rfl) (fun _ _ _ h => h) (.inl ⟨by kernel_rfl, fun x_ hu => exec_from_s _ (.tmp 49) (.tmp 51) rfl g6 m6 c6 k2 (by kernel_rfl) (by kernel_rfl) hle6 (by omega)⟩) trivial ?_
    simp only [nrm]
    refine any_take (i := 4) (v := (.slice (some ⟨gp, 0, none⟩) 32 32)) #[true, true, true, true, false, false] rfl (by kernel_rfl) (by kernel_rfl) (by kernel_rfl) (by kernel_rfl) (fun _ _ _ h => h) (.inl ⟨by kernel_rfl, fun x_ hu => by kernel_rfl⟩) trivial ?_
    simp only [nrm]
    refine any_one (i := 5) (by kernel_rfl) rfl (fun K_ hQ => ?_)
    rw [if_pos (by kernel_rfl)]
    refine copy_wp (.tmp 52) (.tmp 53) rfl g6 (0 + k2) (m6 - k2) (c6 - k2) (some ⟨gp, 0, none⟩) 32 32 (by kernel_rfl) (by kernel_rfl) cur6.toList 5 (by simpa using unhide hc6) PU (by rw [hPl]; show 32 = min 32 (m6 - k2); omega) (.inr ⟨gp, 0, rfl, kc_at (unhide hb6)⟩) (by rw [hPl, Array.length_toList, unhide hsz6]; omega) ?_
    have hO7 := ob_lay (k := 0 + k2) (X := PU) (unhide hO6) (by rw [hPl, unhide hl6]; omega)
    rw [unhide hl6, ← unhide hm6, Nat.zero_add, unhide hPU, unhide hSE, unhide hly, ← unhide hon, unhide hk2] at hO7
    rw [Nat.zero_add, unhide hPU]
    have hG7 := (setCells_bt ((pubL OJ).map (Value.int .u8)) y0 g6 k2).gr hG (by rw [unhide hgz]; exact hg6)
    rw [unhide hk2] at hG7 ⊢
    generalize World.setCells _ _ _ _ = y1 at *
    have hI2 : Hid (Ob gz y1 (.slice (some ⟨g6, 0, none⟩) m6 c6) (List.replicate (32 * i) 0 ++ onL r P (S.drop i) (O.drop i)) ∧ Gr w y1) := ⟨hO7, hG7⟩
    clear hO7 hO6 hc6 hb6 hG hG7
    refine hQ.out _ _ trivial (fun _ => ?_)
    clear hQ K_
    simp only [nrm]
    refine any_done (by kernel_rfl) ?_
    go_wp2_with fail
    go_roundw
    case rel => exact ⟨i, _, (i : Int) - 1, k2, by omega, rfl, by go_num, by go_num, by show (i : Int) - 1 + 1 = i; omega, hk2, hI2⟩
    case measure => simp [intOf]; omega
theorem results_tct {P : Program} {fn : Func} {p q r : Tmp} {ty : TypeId} (h : fn.results = #[.tmp p, .cell q ty, .tmp r]) (tmps : Array Value) (w : World) (g : Nat) (t : TypeId) (cs : Array Value) (fr : Nat × Nat) (d : TypeDesc)
    (x : Value) (hp : tmps.getD p undef = x) (hq : tmps.getD q undef = .pointer (some ⟨g, 0, none⟩)) (v : Value) (hr : tmps.getD r undef = v) (hg : w.heap[g]? = some (.cells cs t fr))
    (hu : P.underlying ty = some d) (hd : (match d with | .struct _ | .array _ _ => true | _ => false) = true) (hi : (P.info? ty).map (·.size) = some cs.size) :
    (results fn tmps).run P w = .ok (.tuple #[x, .agg cs, v]) w := by
  have hp' : tmps[p]?.getD undef = x := by simpa using hp
  have hq' : tmps[q]?.getD undef = .pointer (some ⟨g, 0, none⟩) := by simpa using hq
  have hr' : tmps[r]?.getD undef = v := by simpa using hr
  simp [results, h, hp', hq', hr', asAddr, run_loadVar_row w g t ty cs fr d hg hu hd hi]
theorem blk_ne {w : World} {g g' : Nat} {c c' : Array Value} {t t' : TypeId} (h : w.heap[g]? = some (.cells c t (0, 0))) (h' : w.heap[g']? = some (.cells c' t' (0, 0))) (ht : t ≠ t') : g ≠ g' := by
  rintro rfl
  rw [h] at h'
  injection h' with h'
  injection h' with _ h'' _
  exact ht h''
def Bld (B : List Int) (S : List (List Int)) (n : Nat) (w : World) (r : Ending) (w' : World) : Prop := ∃ v a c, r = .returned (.tuple #[v, .slice a n c, .int .i64 0]) ∧ Ob w.heap.size w' v B ∧ Kw w' a n c S ∧ Gr w w'
def Peld (P K : List Int) (w : World) (r : Ending) (w' : World) : Prop := ∃ g, r = .returned (.tuple #[.slice (some ⟨g, 0, none⟩) P.length P.length, .agg (kc K), .int .i64 0]) ∧ w.heap.size ≤ g ∧ w'.heap[g]? = some (.cells (kc P) 5 (0, 0)) ∧ Gr w w'
set_option maxHeartbeats 4000000 in
theorem nbuild_ok (r : Int) (hr : 0 ≤ r) (ks O : List (List Int)) (P : List Int) (a b s : Option Addr) (n c d m cm : Nat) (hn : n ≤ 3) (hm : m ≤ 10000) (w : World) (hF : Fst w) (lk : Kw w a n c ks) (lo : Kw w b n d O) (lp : Lb w s m cm P) (hl : ∀ i, i < n → NLow (O.getD i []) (ks.getD i [])) : Calls Tryd.prog 8 #[.int .u64 r, .slice a n c, .slice b n d, .slice s m cm] w (Bld (onL r P (shL O ks) O) (shL O ks) n w) := by
  obtain ⟨T, hT⟩ : ∃ T, T = Bld (onL r P (shL O ks) O) (shL O ks) n w := ⟨_, rfl⟩
  rw [← hT]
  replace hT := hide hT
  have hnI : ¬ (3 : Int) < (n : Int) := by omega
  obtain ⟨S, hS⟩ : ∃ S, S = shL O ks := ⟨_, rfl⟩
  replace lk := hide lk
  replace lo := hide lo
  replace lp := hide lp
  replace hl := hide hl
  replace hF := hide hF
  replace hS := hide hS
  go_enter Tryd.func8, Tryd.ntmps8
  go_upto_region 1 with fail
  refine wp_region_lit ?_
  refine list_val (.slice a n c) (by kernel_rfl) (by kernel_rfl) ?_
  simp only [nrm]
  refine list_val (.int .i64 (n : Int)) (by kernel_rfl) (by kernel_rfl) ?_
  simp only [nrm]
  refine list_val (.bool false) (by kernel_rfl) (by go_simp) ?_
  simp only [nrm]
  refine list_val (.bool false) (by kernel_rfl) (by kernel_rfl) ?_
  simp only [nrm]
  refine list_val (.slice b n d) (by kernel_rfl) (by kernel_rfl) ?_
  simp only [nrm]
  refine list_val (.int .i64 (n : Int)) (by kernel_rfl) (by kernel_rfl) ?_
  simp only [nrm]
  refine list_val (.slice a n c) (by kernel_rfl) (by kernel_rfl) ?_
  simp only [nrm]
  refine list_val (.int .i64 (n : Int)) (by kernel_rfl) (by kernel_rfl) ?_
  simp only [nrm]
  refine list_val (.bool false) (by kernel_rfl) (by go_simp) ?_
  simp only [nrm]
  refine list_val (.bool false) (by kernel_rfl) (by kernel_rfl) ?_
  simp only [nrm]
  refine wpList_nil ?_
  go_upto_region 3 with fail
  refine wp_region_lit ?_
  refine list_val (.slice a n c) (by kernel_rfl) (by kernel_rfl) ?_
  simp only [nrm]
  refine list_val (.slice b n d) (by kernel_rfl) (by kernel_rfl) ?_
  simp only [nrm]
  refine list_call 14 #[.slice a n c, .slice b n d] (by kernel_rfl) (by kernel_rfl) ((nagree_ok ks O a b n c d hn w (unhide lk) (unhide lo) (unhide hl)).mono ?_)
  rintro r_ u1 ⟨a1, c1, rfl, hk1, hG⟩
  rw [← unhide hS] at hk1
  replace hk1 := hide hk1
  refine ⟨_, rfl, ?_⟩
  simp only [nrm]
  refine list_val (.tuple #[.slice a1 n c1, .int .i64 0]) (by kernel_rfl) (by kernel_rfl) ?_
  simp only [nrm]
  refine list_val (.slice a1 n c1) (by kernel_rfl) (by kernel_rfl) ?_
  simp only [nrm]
  refine list_val (.int .i64 0) (by kernel_rfl) (by kernel_rfl) ?_
  simp only [nrm]
  (refine wpList_step fun K hK => ?_; replace hK := hide hK; go_simp; refine unhide hK _ _ ?_; clear hK K)
  (refine wpList_step fun K hK => ?_; replace hK := hide hK; go_simp; refine unhide hK _ _ ?_; clear hK K)
  refine wpList_nil ?_
  replace hG := hide hG
  go_upto_region 4 with fail
  refine wp_region_lit ?_
  refine list_val (.int .i64 0) (by kernel_rfl) (by kernel_rfl) ?_
  simp only [nrm]
  refine list_val (.bool false) (by kernel_rfl) (by kernel_rfl) ?_
  simp only [nrm]
  refine wpList_nil ?_
  go_upto_region 6 with fail
  replace hG := unhide hG
  refine wp_region_lit ?_
  refine list_val (.int .u64 r) (by kernel_rfl) (by kernel_rfl) ?_
  simp only [nrm]
  refine list_val (.slice a1 n c1) (by kernel_rfl) (by kernel_rfl) ?_
  simp only [nrm]
  refine list_val (.slice b n d) (by kernel_rfl) (by kernel_rfl) ?_
  simp only [nrm]
  refine list_val (.slice s m cm) (by kernel_rfl) (by kernel_rfl) ?_
  simp only [nrm]
  refine list_call 15 #[.int .u64 r, .slice a1 n c1, .slice b n d, .slice s m cm] (by kernel_rfl) (by kernel_rfl) ((nlay_ok r hr S O P a1 b s n c1 d m cm hn hm u1 ((unhide hF).gr hG) (unhide hk1) ((unhide lo).gr hG) ((unhide lp).gr hG)).mono ?_)
  rintro r_ u2 ⟨v2, rfl, hO, hg⟩
  have hZ : Hid (Bld (onL r P (shL O ks) O) (shL O ks) n w (.returned (.tuple #[v2, .slice a1 n c1, .int .i64 0])) u2) := by
    refine ⟨v2, a1, c1, rfl, ?_, ?_, hG.trans hg⟩
    · rw [← unhide hS]
      exact hO.up hG.size
    · rw [← unhide hS]
      exact (unhide hk1).gr hg
  clear hO hg hG hk1
  refine ⟨_, rfl, ?_⟩
  simp only [nrm]
  refine list_val (.slice a1 n c1) (by kernel_rfl) (by kernel_rfl) ?_
  simp only [nrm]
  (refine wpList_step fun K hK => ?_; replace hK := hide hK; go_simp; refine unhide hK _ _ ?_; clear hK K)
  (refine wpList_step fun K hK => ?_; replace hK := hide hK; go_simp; refine unhide hK _ _ ?_; clear hK K)
  (refine wpList_step fun K hK => ?_; replace hK := hide hK; go_simp; refine unhide hK _ _ ?_; clear hK K)
  refine wpList_nil ?_
  go_wp2_with fail
  rw [unhide hT]
  exact bodyPost_ret (v := .tuple #[v2, .slice a1 n c1, .int .i64 0]) (by simp [results, Tryd.results8, go_sem]) rfl (unhide hZ)
set_option maxHeartbeats 4000000 in
theorem npeel_yes (r : Int) (hr : 0 ≤ r) (K : List Int) (hK : IsK K) (U : List Int) (hU : IsK U) (hnl : NLow K U) (P : List Int) (hP : IsB P) (s : Option Addr) (n c : Nat) (hn : n ≤ 20000) (w : World) (hF : Fst w) (ls : Lb w s n c (U ++ seO r (agL K U) tO P)) : Calls Tryd.prog 9 #[.int .u64 r, .agg (kc K), .slice s n c] w (Peld P (agL K U) w) := by
  obtain ⟨T, hT⟩ : ∃ T, T = Peld P (agL K U) w := ⟨_, rfl⟩
  rw [← hT]
  replace hT := hide hT
  obtain ⟨hKl, hKb⟩ := hK
  obtain ⟨hUl, hUb⟩ := hU
  have hLn := ls.len
  have hcap := ls.cap
  obtain ⟨A, hA⟩ : ∃ A, A = agL K U := ⟨_, rfl⟩
  have hAl : A.length = 32 := by rw [hA]; exact (agL_isK K U).1
  have hAb : IsB A := by rw [hA]; exact (agL_isK K U).2
  rw [← hA] at ls hLn
  have hn48 : 48 ≤ n := by rw [← hLn, List.length_append, seO_len, hUl]; omega
  have hnI : ¬ (n : Int) < 48 := by omega
  have hsU : U = [] ∨ ∃ p q, s = some ⟨p, q, none⟩ ∧ At w p q U := by
    rcases ls.sl with h | ⟨p, q, h1, h2⟩
    · rw [h] at hLn
      simp at hLn
      omega
    · refine .inr ⟨p, q, h1, ?_⟩
      have h3 := h2.take 32
      rw [List.take_append_of_le_length (by omega), List.take_of_length_le (by omega)] at h3
      exact h3
  have lR := ls.rest 32 (by omega)
  rw [List.drop_append, List.drop_of_length_le (l := U) (by omega), hUl, Nat.sub_self, List.drop_zero, List.nil_append] at lR
  obtain ⟨s9, hs9⟩ : ∃ x, x = (if c = 32 then s else s.map (·.add 32)) := ⟨_, rfl⟩
  rw [← hs9] at lR
  clear ls hLn
  obtain ⟨SK, hSK⟩ : ∃ S, S = kc K := ⟨_, rfl⟩
  rw [← hSK]
  replace hSK := hide hSK
  replace hKb := hide hKb
  replace hUb := hide hUb
  replace hnl := hide hnl
  replace hP := hide hP
  replace hF := hide hF
  replace hA := hide hA
  replace hAb := hide hAb
  replace hsU := hide hsU
  replace lR := hide lR
  replace hs9 := hide hs9
  go_enter Tryd.func9, Tryd.ntmps9
  go_upto_region 1 with fail
  have hB := (((Bl.nil w).new SK 34).new #[.int .u8 0, .int .u8 0, .int .u8 0, .int .u8 0, .int .u8 0, .int .u8 0, .int .u8 0, .int .u8 0, .int .u8 0, .int .u8 0, .int .u8 0, .int .u8 0, .int .u8 0, .int .u8 0, .int .u8 0, .int .u8 0, .int .u8 0, .int .u8 0, .int .u8 0, .int .u8 0, .int .u8 0, .int .u8 0, .int .u8 0, .int .u8 0, .int .u8 0, .int .u8 0, .int .u8 0, .int .u8 0, .int .u8 0, .int .u8 0, .int .u8 0, .int .u8 0] 34)
  simp only [size_alloc, List.nil_append, List.cons_append] at hB
  generalize World.alloc _ _ = u at *
  rw [unhide hSK] at hB
  replace hB : Bl w [⟨w.heap.size, kc K, 34⟩, ⟨w.heap.size + 1, kc ZK, 34⟩] u := hB
  refine wp_region_lit ?_
  refine list_val (.slice s n c) (by kernel_rfl) (by kernel_rfl) ?_
  simp only [nrm]
  refine list_val (.int .i64 (n : Int)) (by kernel_rfl) (by kernel_rfl) ?_
  simp only [nrm]
  refine list_val (.bool false) (by kernel_rfl) (by go_simp) ?_
  simp only [nrm]
  refine wpList_nil ?_
  replace hB := hide hB
  go_upto_region 3 with fail
  replace hB := unhide hB
  refine wp_region_lit ?_
  refine list_valw (.pointer (some ⟨u.heap.size, 0, none⟩)) (u.alloc (.cells (kc ZK) 34 (0, 0))) (by kernel_rfl) (by kernel_rfl) ?_
  replace hB := hB.new (kc ZK) 34
  simp only [List.nil_append, List.cons_append] at hB
  generalize World.alloc _ _ = u1 at *
  generalize u.heap.size = gp at *
  replace hB : Bl w [⟨w.heap.size, kc K, 34⟩, ⟨w.heap.size + 1, kc ZK, 34⟩, ⟨gp, kc ZK, 34⟩] u1 := hB
  simp only [nrm]
  refine wpList_nil ?_
  replace hB := hide hB
  go_upto_region 4 with fail
  replace hB := unhide hB
  refine wp_region_lit ?_
  refine list_val (.slice (some ⟨gp, 0, none⟩) 32 32) (by kernel_rfl) (by kernel_rfl) ?_
  simp only [nrm]
  refine list_val (.slice s n c) (by kernel_rfl) (by kernel_rfl) ?_
  simp only [nrm]
  refine wpList_step fun K_ hQ => ?_
  rw [if_pos (by kernel_rfl)]
  refine copy_wp (.tmp 17) (.tmp 18) rfl gp 0 32 32 s n c (by kernel_rfl) (by kernel_rfl) (ZK.map (Value.int .u8)) 34 (hB.get 2 (x := ⟨gp, kc ZK, 34⟩) rfl) U (by rw [hUl]; show 32 = min n 32; omega) (by
    rcases unhide hsU with h | ⟨p, q, h1, h2⟩
    · exact .inl h
    · exact .inr ⟨p, q, h1, h2.gr hB.gr⟩) (by rw [hUl]; exact Nat.le_refl _) ?_
  have hcell := laid (S := U) (o := 0) (hB.get 2 (x := ⟨gp, kc ZK, 34⟩) rfl) (by rw [hUl]; exact Nat.le_refl _)
  rw [lay_all ZK U hUl] at hcell
  have hB2 := hB.but (setCells_bt (U.map (Value.int .u8)) u1 gp 0) 2 (x := ⟨gp, kc ZK, 34⟩) rfl rfl hcell
  simp only [List.set_cons_zero, List.set_cons_succ] at hB2
  clear hcell hB
  generalize World.setCells _ _ _ _ = u2 at *
  have hB : Bl w [⟨w.heap.size, kc K, 34⟩, ⟨w.heap.size + 1, kc ZK, 34⟩, ⟨gp, kc U, 34⟩] u2 := hB2
  clear hB2
  rw [hUl]
  refine hQ _ _ ?_
  clear hQ K_
  simp only [nrm]
  refine wpList_nil ?_
  replace hB := hide hB
  go_upto_region 5 with fail
  replace hB := unhide hB
  refine wp_region_lit ?_
  refine list_val (.agg (kc K)) (by kernel_rfl) (exec_arr _ 34 (.tmp 4) rfl (w.heap.size) (by kernel_rfl) (kc K) 34 _ (hB.get 0 (x := ⟨w.heap.size, kc K, 34⟩) rfl) Tryd.underlying34 rfl (by rw [Tryd.infoKey, kc_size, hKl])) ?_
  simp only [nrm]
  refine list_val (.agg (kc U)) (by kernel_rfl) (exec_arr _ 34 (.tmp 9) rfl (gp) (by kernel_rfl) (kc U) 34 _ (hB.get 2 (x := ⟨gp, kc U, 34⟩) rfl) Tryd.underlying34 rfl (by rw [Tryd.infoKey, kc_size, hUl])) ?_
  simp only [nrm]
  refine list_call 16 #[.agg (kc K), .agg (kc U)] (by kernel_rfl) (by kernel_rfl) ((agree_yes K U ⟨hKl, unhide hKb⟩ ⟨hUl, unhide hUb⟩ (unhide hnl) u2).mono ?_)
  rintro r_ u3 ⟨rfl, hg⟩
  rw [← unhide hA]
  replace hB := hB.more hg
  clear hg
  refine ⟨_, rfl, ?_⟩
  simp only [nrm]
  refine list_val (.tuple #[.agg (kc A), .int .i64 0]) (by kernel_rfl) (by kernel_rfl) ?_
  simp only [nrm]
  refine list_val (.agg (kc A)) (by kernel_rfl) (by kernel_rfl) ?_
  simp only [nrm]
  refine list_val (.int .i64 0) (by kernel_rfl) (by kernel_rfl) ?_
  simp only [nrm]
  refine list_valw (.pointer (some ⟨u3.heap.size, 0, none⟩)) (u3.alloc (.cells (kc ZK) 34 (0, 0))) (by kernel_rfl) (by kernel_rfl) ?_
  replace hB := hB.new (kc ZK) 34
  simp only [List.nil_append, List.cons_append] at hB
  generalize World.alloc _ _ = u4 at *
  generalize u3.heap.size = gh at *
  replace hB : Bl w [⟨w.heap.size, kc K, 34⟩, ⟨w.heap.size + 1, kc ZK, 34⟩, ⟨gp, kc U, 34⟩, ⟨gh, kc ZK, 34⟩] u4 := hB
  simp only [nrm]
  refine list_store 34 (.tmp 10) (.tmp 24) gh (kc A) 34 (kc ZK) (by kernel_rfl) rfl (by kernel_rfl) (by kernel_rfl) (hB.get 3 (x := ⟨gh, kc ZK, 34⟩) rfl) (by rw [Tryd.infoKey, kc_size, hAl]) (by rw [kc_size, kc_size, hAl]; rfl) (kc_one _) ?_
  replace hB := hB.set 3 (x := ⟨gh, kc ZK, 34⟩) rfl (kc A)
  simp only [List.set_cons_zero, List.set_cons_succ] at hB
  generalize World.setRow _ _ _ = u5 at *
  replace hB : Bl w [⟨w.heap.size, kc K, 34⟩, ⟨w.heap.size + 1, kc ZK, 34⟩, ⟨gp, kc U, 34⟩, ⟨gh, kc A, 34⟩] u5 := hB
  simp only [nrm]
  (refine wpList_step fun K hK => ?_; replace hK := hide hK; go_simp; refine unhide hK _ _ ?_; clear hK K)
  refine wpList_nil ?_
  replace hB := hide hB
  go_upto_region 6 with fail
  replace hB := unhide hB
  refine wp_region_lit ?_
  refine list_val (.int .i64 0) (by kernel_rfl) (by kernel_rfl) ?_
  simp only [nrm]
  refine list_val (.bool false) (by kernel_rfl) (by kernel_rfl) ?_
  simp only [nrm]
  refine wpList_nil ?_
  replace hB := hide hB
  go_upto_region 8 with fail
  replace hB := unhide hB
  refine any_start (S := fun (v : World) => Bl w [⟨w.heap.size, kc K, 34⟩, ⟨w.heap.size + 1, kc ZK, 34⟩, ⟨gp, kc U, 34⟩, ⟨gh, kc A, 34⟩] v) (by kernel_rfl) ?_
  replace hB := hB.drew
  generalize World.drew _ = x0 at *
  replace hB : Bl w [⟨w.heap.size, kc K, 34⟩, ⟨w.heap.size + 1, kc ZK, 34⟩, ⟨gp, kc U, 34⟩, ⟨gh, kc A, 34⟩] x0 := hB
  simp only [List.size_toArray, List.length_cons, List.length_nil, Array.replicate, List.replicate]
  refine any_take (i := 0) (v := (.int .u64 r)) #[false, false, false, false, false, false, false, false, false, false] rfl (by kernel_rfl) (by kernel_rfl) (by kernel_rfl) (by kernel_rfl) (fun _ _ _ h => h) (.inl ⟨by kernel_rfl, fun x_ hu => by kernel_rfl⟩) hB ?_
  simp only [nrm]
  refine any_take (i := 1) (v := (.agg (kc A))) #[true, false, false, false, false, false, false, false, false, false] rfl (by kernel_rfl) (by kernel_rfl) (by kernel_rfl) (by kernel_rfl) (fun _ _ _ h => h) (.inl ⟨by kernel_rfl, fun x_ hu => exec_arr _ 34 (.tmp 10) rfl (gh) (by kernel_rfl) (kc A) 34 _ (hu.get 3 (x := ⟨gh, kc A, 34⟩) rfl) Tryd.underlying34 rfl (by rw [Tryd.infoKey, kc_size, hAl])⟩) hB ?_
  simp only [nrm]
  refine any_take (i := 2) (v := (.slice s n c)) #[true, true, false, false, false, false, false, false, false, false] rfl (by kernel_rfl) (by kernel_rfl) (by kernel_rfl) (by kernel_rfl) (fun _ _ _ h => h) (.inl ⟨by kernel_rfl, fun x_ hu => by kernel_rfl⟩) hB ?_
  simp only [nrm]
  refine any_take (i := 3) (v := (.slice s9 (n - 32) (c - 32))) #[true, true, true, false, false, false, false, false, false, false] rfl (by kernel_rfl) (by kernel_rfl) (by kernel_rfl) (by kernel_rfl) (fun _ _ _ h => h) (.inl ⟨by kernel_rfl, fun x_ hu => by rw [unhide hs9]; exact exec_from _ (.tmp 33) (.const (.int .i64 32)) rfl s n c 32 (by kernel_rfl) (by kernel_rfl) hcap (by omega)⟩) hB ?_
  simp only [nrm]
  refine any_one (i := 4) (by kernel_rfl) rfl (fun K_ hQ => ?_)
  refine step_callw (by kernel_rfl) 17 #[.int .u64 r, .agg (kc A), .string tO, .slice s9 (n - 32) (c - 32)] (by kernel_rfl) ((nopen_yes r hr A hAl (unhide hAb) tO (by decide) P (unhide hP) s9 (n - 32) (c - 32) (by omega) x0 ((unhide hF).gr hB.gr) ((unhide lR).gr hB.gr)).mono ?_)
  rintro r x1 ⟨g3, rfl, hg3, hb3, hg⟩
  refine ⟨_, rfl, ?_⟩
  have hz3 := Nat.le_trans hB.gr.size hg3
  replace hB := hB.more hg
  replace hb3 := hide hb3
  clear hg hg3
  refine hQ.out _ _ hB (fun _ => ?_)
  clear hQ K_
  simp only [nrm]
  refine any_take (i := 5) (v := (.tuple #[.slice (some ⟨g3, 0, none⟩) P.length P.length, .int .i64 0])) #[true, true, true, true, true, false, false, false, false, false] rfl (by kernel_rfl) (by kernel_rfl) (by kernel_rfl) (by kernel_rfl) (fun _ _ _ h => h) (.inl ⟨by kernel_rfl, fun x_ hu => by kernel_rfl⟩) hB ?_
  simp only [nrm]
  refine any_take (i := 6) (v := (.slice (some ⟨g3, 0, none⟩) P.length P.length)) #[true, true, true, true, true, true, false, false, false, false] rfl (by kernel_rfl) (by kernel_rfl) (by kernel_rfl) (by kernel_rfl) (fun _ _ _ h => h) (.inl ⟨by kernel_rfl, fun x_ hu => by kernel_rfl⟩) hB ?_
  simp only [nrm]
  refine any_take (i := 7) (v := (.int .i64 0)) #[true, true, true, true, true, true, true, false, false, false] rfl (by kernel_rfl) (by kernel_rfl) (by kernel_rfl) (by kernel_rfl) (fun _ _ _ h => h) (.inl ⟨by kernel_rfl, fun x_ hu => by kernel_rfl⟩) hB ?_
  simp only [nrm]
  refine any_one (i := 8) (by kernel_rfl) rfl (fun K_ hQ => ?_)
  replace hQ := hide hQ
  go_simp
  refine (unhide hQ).out _ _ hB (fun _ => ?_)
  clear hQ K_
  refine any_one (i := 9) (by kernel_rfl) rfl (fun K_ hQ => ?_)
  replace hQ := hide hQ
  go_simp
  refine (unhide hQ).out _ _ hB (fun _ => ?_)
  clear hQ K_
  refine any_done (by kernel_rfl) ?_
  replace hB := hide hB
  go_upto_region 9 with fail
  replace hB := unhide hB
  refine wp_region_lit ?_
  refine list_val (.int .i64 0) (by kernel_rfl) (by kernel_rfl) ?_
  simp only [nrm]
  refine list_val (.bool false) (by kernel_rfl) (by kernel_rfl) ?_
  simp only [nrm]
  refine wpList_nil ?_
  replace hB := hide hB
  go_upto_region 11 with fail
  replace hB := unhide hB
  refine any_start (S := fun (v : World) => v.heap[gh]? = some (.cells (kc A) 34 (0, 0))) (by kernel_rfl) ?_
  replace hB := hB.drew
  replace hb3 := hide ((Gr.refl _).drew.blk (unhide hb3))
  generalize World.drew _ = y0 at *
  replace hB : Bl w [⟨w.heap.size, kc K, 34⟩, ⟨w.heap.size + 1, kc ZK, 34⟩, ⟨gp, kc U, 34⟩, ⟨gh, kc A, 34⟩] y0 := hB
  simp only [List.size_toArray, List.length_cons, List.length_nil, Array.replicate, List.replicate]
  refine any_take (i := 0) (v := (.slice (some ⟨g3, 0, none⟩) P.length P.length)) #[false, false, false, false, false] rfl (by kernel_rfl) (by kernel_rfl) (by kernel_rfl) (by kernel_rfl) (fun _ _ _ h => h) (.inl ⟨by kernel_rfl, fun x_ hu => by kernel_rfl⟩) (hB.get 3 (x := ⟨gh, kc A, 34⟩) rfl) ?_
  simp only [nrm]
  refine any_take (i := 1) (v := (.agg (kc A))) #[true, false, false, false, false] rfl (by kernel_rfl) (by kernel_rfl) (by kernel_rfl) (by kernel_rfl) (fun _ _ _ h => h) (.inl ⟨by kernel_rfl, fun x_ hu => exec_arr _ 34 (.tmp 10) rfl (gh) (by kernel_rfl) (kc A) 34 _ (hu) Tryd.underlying34 rfl (by rw [Tryd.infoKey, kc_size, hAl])⟩) (hB.get 3 (x := ⟨gh, kc A, 34⟩) rfl) ?_
  simp only [nrm]
  refine any_one (i := 2) (by kernel_rfl) rfl (fun K_ hQ => ?_)
  replace hQ := hide hQ
  go_simp
  refine (unhide hQ).out _ _ (hB.get 3 (x := ⟨gh, kc A, 34⟩) rfl) (fun _ => ?_)
  clear hQ K_
  refine any_one (i := 3) (by kernel_rfl) rfl (fun K_ hQ => ?_)
  refine step_storew 34 (.tmp 7) (.tmp 43) (w.heap.size + 1) (kc A) 34 (kc ZK) (by kernel_rfl) rfl (by kernel_rfl) (by kernel_rfl) (hB.get 1 (x := ⟨w.heap.size + 1, kc ZK, 34⟩) rfl) (by rw [Tryd.infoKey, kc_size, hAl]) (by rw [kc_size, kc_size, hAl]; rfl) (kc_one _) ?_
  have hB3 := hB.add ⟨g3, kc P, 5⟩ (unhide hb3) hz3 (fun y hy => blk_ne (hB.at_ y hy).1 (unhide hb3) (by simp only [List.mem_cons, List.not_mem_nil, or_false] at hy; rcases hy with rfl | rfl | rfl | rfl <;> (show (34 : TypeId) ≠ 5; decide)))
  clear hB
  replace hB3 := hB3.set 1 (x := ⟨w.heap.size + 1, kc ZK, 34⟩) rfl (kc A)
  simp only [List.cons_append, List.nil_append, List.set_cons_zero, List.set_cons_succ] at hB3
  generalize World.setRow _ _ _ = y1 at *
  have hb4 := hide (hB3.get 4 (x := ⟨g3, kc P, 5⟩) rfl)
  have hB : Bl w [⟨w.heap.size, kc K, 34⟩, ⟨w.heap.size + 1, kc A, 34⟩, ⟨gp, kc U, 34⟩, ⟨gh, kc A, 34⟩] y1 := Bl.left (M := [⟨g3, kc P, 5⟩]) hB3
  clear hB3
  refine hQ.out _ _ (hB.get 3 (x := ⟨gh, kc A, 34⟩) rfl) (fun _ => ?_)
  clear hQ K_
  simp only [nrm]
  refine any_one (i := 4) (by kernel_rfl) rfl (fun K_ hQ => ?_)
  replace hQ := hide hQ
  go_simp
  refine (unhide hQ).out _ _ (hB.get 3 (x := ⟨gh, kc A, 34⟩) rfl) (fun _ => ?_)
  clear hQ K_
  refine any_done (by kernel_rfl) ?_
  have hP9 : Hid (T (.returned (.tuple #[.slice (some ⟨g3, 0, none⟩) P.length P.length, .agg (kc A), .int .i64 0])) y1) := by
    rw [unhide hT]
    exact ⟨g3, by rw [unhide hA], hz3, unhide hb4, hB.gr⟩
  replace hB := hide hB
  go_wp2_with fail
  replace hB := unhide hB
  exact bodyPost_ret (v := .tuple #[.slice (some ⟨g3, 0, none⟩) P.length P.length, .agg (kc A), .int .i64 0]) (results_tct Tryd.results9 _ _ (w.heap.size + 1) 34 (kc A) (0, 0) _ _ rfl rfl (.int .i64 0) rfl (hB.get 1 (x := ⟨w.heap.size + 1, kc A, 34⟩) rfl) Tryd.underlying34 rfl (by rw [Tryd.infoKey, kc_size, hAl])) rfl (unhide hP9)
theorem list32 : ∀ (M : List Int), M.length = 32 → ∃ x0 x1 x2 x3 x4 x5 x6 x7 x8 x9 x10 x11 x12 x13 x14 x15 x16 x17 x18 x19 x20 x21 x22 x23 x24 x25 x26 x27 x28 x29 x30 x31, M = [x0, x1, x2, x3, x4, x5, x6, x7, x8, x9, x10, x11, x12, x13, x14, x15, x16, x17, x18, x19, x20, x21, x22, x23, x24, x25, x26, x27, x28, x29, x30, x31]
  | [x0, x1, x2, x3, x4, x5, x6, x7, x8, x9, x10, x11, x12, x13, x14, x15, x16, x17, x18, x19, x20, x21, x22, x23, x24, x25, x26, x27, x28, x29, x30, x31], _ => ⟨_, _, _, _, _, _, _, _, _, _, _, _, _, _, _, _, _, _, _, _, _, _, _, _, _, _, _, _, _, _, _, _, rfl⟩
theorem exec_bk1 {a : Act} {o : Oper} (w : World) (x : Operand) (ho : o.op = .buildSlice 23 1 #[(0, x)]) (b : List Int) (hb : b.length = 32) (hx : a.eval x = .agg (kc b)) :
    (execOp a.eval o).run Tryd.prog w = .ok (.value (.slice (some ⟨w.heap.size, 0, none⟩) 1 1)) (w.alloc (.cells (kc b) 34 (0, 0))) := by
  obtain ⟨x0, x1, x2, x3, x4, x5, x6, x7, x8, x9, x10, x11, x12, x13, x14, x15, x16, x17, x18, x19, x20, x21, x22, x23, x24, x25, x26, x27, x28, x29, x30, x31, rfl⟩ := list32 b hb
  obtain ⟨i0, h1, h2, h3, h4⟩ := info_parts Tryd.infoKz
  have h := run_buildSlice (P := Tryd.prog) w 23 34 1 #[(0, .agg (kc [x0, x1, x2, x3, x4, x5, x6, x7, x8, x9, x10, x11, x12, x13, x14, x15, x16, x17, x18, x19, x20, x21, x22, x23, x24, x25, x26, x27, x28, x29, x30, x31]))] (kc [x0, x1, x2, x3, x4, x5, x6, x7, x8, x9, x10, x11, x12, x13, x14, x15, x16, x17, x18, x19, x20, x21, x22, x23, x24, x25, x26, x27, x28, x29, x30, x31]) i0 (.agg (kc ZK)) Tryd.underlying23 h1 h2 (by rw [h3]; decide) (by rw [h3]; decide) (by rw [h3]; kernel_rfl)
  unfold execOp
  simp only [ho, List.map_toArray, List.map_cons, List.map_nil, hx, Sem.run_bind, h, Result.andThen_ok, Sem.run_pure]
def WA : List Int := [1, 2, 3] ++ List.replicate 29 0
def WB : List Int := [9] ++ List.replicate 31 0
theorem WA_isK : IsK WA := ⟨rfl, by unfold IsB WA; decide⟩
theorem WB_isK : IsK WB := ⟨rfl, by unfold IsB WB; decide⟩
theorem isB5 : IsB [5] := by unfold IsB; decide
theorem kw_one {w : World} {g : Nat} {K : List Int} (h : w.heap[g]? = some (.cells (kc K) 34 (0, 0))) (hK : IsK K) : Kw w (some ⟨g, 0, none⟩) 1 1 [K] := by
  refine ⟨rfl, fun k hk => by rw [List.mem_singleton.1 hk]; exact hK, .inr ⟨g, 0, rfl, ?_⟩, Nat.le_refl _, by omega⟩
  have h1 := kc_at h
  simpa using h1
theorem eq_K (k m : List Int) (hk : k.length = 32) (hm : m.length = 32) (w : World) : Sem.run Tryd.prog (Op.equalIn 10000 34 (.agg (kc k)) (.agg (kc m))) w = .ok (decide (k = m)) w := by
  obtain ⟨i0, hi0, _⟩ := info_parts Tryd.info_b
  rw [run_equalIn_array (P := Tryd.prog) w 9999 (kc k) (kc m) Tryd.underlying34 hi0, Tryd.cells_b]
  refine (eqs_b k m (by omega) 9998 _ (by intro i hi; simp at hi; omega) w).trans ?_
  congr 1
  rw [decide_eq_decide]
  constructor
  · intro h
    exact list_ext (by omega) fun i hi => h i (by simp; omega)
  · rintro rfl i _
    rfl
theorem exec_eq_k {a : Act} {o : Oper} (w : World) (x y : Operand) (ho : o.op = .binOp .eql 34 x y 34) (k m : List Int) (hk : k.length = 32) (hm : m.length = 32) (hx : a.eval x = .agg (kc k)) (hy : a.eval y = .agg (kc m)) (hg : (eqGuard .eql 34 x y (.agg (kc k)) (.agg (kc m))).run Tryd.prog w = .ok () w) (b : Bool) (hb : decide (k = m) = b) : (execOp a.eval o).run Tryd.prog w = .ok (.value (.bool b)) w := by
  have hu := Tryd.underlying34
  have he := eq_K k m hk hm w
  rw [hb] at he
  unfold execOp
  simp only [ho, hx, hy]
  go_simp
theorem exec_neq_k {a : Act} {o : Oper} (w : World) (x y : Operand) (ho : o.op = .binOp .neq 34 x y 34) (k m : List Int) (hk : k.length = 32) (hm : m.length = 32) (hx : a.eval x = .agg (kc k)) (hy : a.eval y = .agg (kc m)) (hg : (eqGuard .neq 34 x y (.agg (kc k)) (.agg (kc m))).run Tryd.prog w = .ok () w) (b : Bool) (hb : decide (k = m) = !b) : (execOp a.eval o).run Tryd.prog w = .ok (.value (.bool b)) w := by
  have hu := Tryd.underlying34
  have he := eq_K k m hk hm w
  rw [hb] at he
  unfold execOp
  simp only [ho, hx, hy]
  go_simp
set_option maxHeartbeats 4000000 in
theorem wakes15_ok (w : World) (hF : Fst w) : Calls Tryd.prog 6 #[] w (Woke w) := by
  obtain ⟨T, hT⟩ : ∃ T, T = Woke w := ⟨_, rfl⟩
  rw [← hT]
  replace hT := hide hT
  replace hF := hide hF
  go_enter Tryd.func6, Tryd.ntmps6
  go_upto_region 1 with fail
  have hB := Bl.nil w
  obtain ⟨u, hu0⟩ : ∃ u, u = w := ⟨_, rfl⟩
  rw [← hu0]
  replace hB : Bl w [] u := hu0 ▸ hB
  clear hu0
  refine wp_region_lit ?_
  refine list_val (.agg (kc WA)) (by kernel_rfl) (by kernel_rfl) ?_
  simp only [nrm]
  refine list_valw (.pointer (some ⟨u.heap.size, 0, none⟩)) (u.alloc (.cells (kc ZK) 34 (0, 0))) (by kernel_rfl) (by kernel_rfl) ?_
  replace hB := hB.new (kc ZK) 34
  simp only [List.nil_append, List.cons_append] at hB
  generalize World.alloc _ _ = u1 at *
  generalize u.heap.size = gs at *
  replace hB : Bl w [⟨gs, kc ZK, 34⟩] u1 := hB
  simp only [nrm]
  refine list_store 34 (.tmp 1) (.tmp 8) gs (kc WA) 34 (kc ZK) (by kernel_rfl) rfl (by kernel_rfl) (by kernel_rfl) (hB.get 0 (x := ⟨gs, kc ZK, 34⟩) rfl) (by rw [Tryd.infoKey, kc_size, WA_isK.1]) (by rw [kc_size, kc_size, WA_isK.1]; rfl) (kc_one _) ?_
  replace hB := hB.set 0 (x := ⟨gs, kc ZK, 34⟩) rfl (kc WA)
  simp only [List.set_cons_zero, List.set_cons_succ] at hB
  generalize World.setRow _ _ _ = u2 at *
  replace hB : Bl w [⟨gs, kc WA, 34⟩] u2 := hB
  simp only [nrm]
  refine wpList_nil ?_
  replace hB := hide hB
  go_upto_region 2 with fail
  replace hB := unhide hB
  refine wp_region_lit ?_
  refine list_val (.agg (kc WA)) (by kernel_rfl) (exec_arr _ 34 (.tmp 1) rfl (gs) (by kernel_rfl) (kc WA) 34 _ (hB.get 0 (x := ⟨gs, kc WA, 34⟩) rfl) Tryd.underlying34 rfl (by rw [Tryd.infoKey, kc_size, WA_isK.1])) ?_
  simp only [nrm]
  refine list_call 13 #[.agg (kc WA)] (by kernel_rfl) (by kernel_rfl) ((public_is WA WA_isK u2).mono ?_)
  rintro r_ u3 ⟨rfl, hg⟩
  replace hB := hB.more hg
  clear hg
  obtain ⟨PU, hPU⟩ : ∃ P, P = pubL WA := ⟨_, rfl⟩
  have hPk : IsK PU := by rw [hPU]; exact pubL_isK _
  have hPl := hPk.1
  rw [← hPU]
  replace hPU := hide hPU; replace hPk := hide hPk
  refine ⟨_, rfl, ?_⟩
  simp only [nrm]
  refine list_valw (.slice (some ⟨u3.heap.size, 0, none⟩) 1 1) (u3.alloc (.cells (kc PU) 34 (0, 0))) (by kernel_rfl) (exec_bk1 _ (.tmp 11) rfl PU hPl (by kernel_rfl)) ?_
  replace hB := hB.new (kc PU) 34
  simp only [List.nil_append, List.cons_append] at hB
  generalize World.alloc _ _ = u4 at *
  generalize u3.heap.size = gh at *
  replace hB : Bl w [⟨gs, kc WA, 34⟩, ⟨gh, kc PU, 34⟩] u4 := hB
  simp only [nrm]
  refine list_val (.agg (kc WB)) (by kernel_rfl) (by kernel_rfl) ?_
  simp only [nrm]
  refine list_valw (.slice (some ⟨u4.heap.size, 0, none⟩) 1 1) (u4.alloc (.cells (kc WB) 34 (0, 0))) (by kernel_rfl) (exec_bk1 _ (.tmp 13) rfl WB WB_isK.1 (by kernel_rfl)) ?_
  replace hB := hB.new (kc WB) 34
  simp only [List.nil_append, List.cons_append] at hB
  generalize World.alloc _ _ = u5 at *
  generalize u4.heap.size = go at *
  replace hB : Bl w [⟨gs, kc WA, 34⟩, ⟨gh, kc PU, 34⟩, ⟨go, kc WB, 34⟩] u5 := hB
  simp only [nrm]
  refine list_valw (.slice (some ⟨u5.heap.size, 0, none⟩) 1 1) (u5.alloc (.cells (kc [5]) 5 (0, 0))) (by kernel_rfl) (by kernel_rfl) ?_
  replace hB := hB.new (kc [5]) 5
  simp only [List.nil_append, List.cons_append] at hB
  generalize World.alloc _ _ = u6 at *
  generalize u5.heap.size = gy at *
  replace hB : Bl w [⟨gs, kc WA, 34⟩, ⟨gh, kc PU, 34⟩, ⟨go, kc WB, 34⟩, ⟨gy, kc [5], 5⟩] u6 := hB
  simp only [nrm]
  refine list_call 8 #[.int .u64 7, .slice (some ⟨gh, 0, none⟩) 1 1, .slice (some ⟨go, 0, none⟩) 1 1, .slice (some ⟨gy, 0, none⟩) 1 1] (by kernel_rfl) (by kernel_rfl) ((nbuild_ok 7 (by omega) [PU] [WB] [5] (some ⟨gh, 0, none⟩) (some ⟨go, 0, none⟩) (some ⟨gy, 0, none⟩) 1 1 1 1 1 (by omega) (by omega) u6 ((unhide hF).gr hB.gr) (kw_one (hB.get 1 (x := ⟨gh, kc PU, 34⟩) rfl) (unhide hPk)) (kw_one (hB.get 2 (x := ⟨go, kc WB, 34⟩) rfl) WB_isK) (kc_lb (n := 1) (hB.get 3 (x := ⟨gy, kc [5], 5⟩) rfl) rfl isB5 (by omega)) (fun i hi => by
    obtain rfl : i = 0 := by omega
    rw [unhide hPU]
    exact nlow_pub _ _)).mono ?_)
  rintro r_ u7 ⟨v7, a7, c7, rfl, hO, hk7, hg⟩
  have e7 : onL 7 [5] (shL [WB] [PU]) [WB] = pubL WB ++ seO 7 (agL WA (pubL WB)) tO [5] := by
    rw [unhide hPU, agL_comm WA WB]
    rfl
  have e8 : shL [WB] [PU] = [agL WA (pubL WB)] := by
    rw [unhide hPU, agL_comm WA WB]
    rfl
  rw [e7] at hO
  rw [e8] at hk7
  replace hB := hB.more hg
  obtain ⟨a8, c8, rfl, l8⟩ := hO.lb (isB_append (pubL_isK WB).2 (seO_isB _ _ _ _))
  obtain ⟨A, hA⟩ : ∃ A, A = agL WA (pubL WB) := ⟨_, rfl⟩
  have hAl : A.length = 32 := by rw [hA]; exact (agL_isK _ _).1
  have hl8 : (pubL WB ++ seO 7 (agL WA (pubL WB)) tO [5]).length = 49 := by rw [List.length_append, (pubL_isK WB).1, seO_len]; rfl
  rw [hl8] at l8 ⊢
  obtain ⟨p7, q7, rfl, hr7⟩ := hk7.row 0 (by omega)
  rw [← hA] at hr7
  replace hr7 : u7.rangeAt p7 (q7 + 32 * 0) (A.map (Value.int .u8)) := hr7
  replace hA := hide hA
  clear hg hO e7 e8 hl8 hk7
  replace l8 := hide l8; replace hr7 := hide hr7
  refine ⟨_, rfl, ?_⟩
  simp only [nrm]
  refine list_val (.tuple #[.slice a8 49 c8, .slice (some ⟨p7, q7, none⟩) 1 c7, .int .i64 0]) (by kernel_rfl) (by kernel_rfl) ?_
  simp only [nrm]
  refine list_val (.slice a8 49 c8) (by kernel_rfl) (by kernel_rfl) ?_
  simp only [nrm]
  refine list_val (.slice (some ⟨p7, q7, none⟩) 1 c7) (by kernel_rfl) (by kernel_rfl) ?_
  simp only [nrm]
  refine list_val (.int .i64 0) (by kernel_rfl) (by kernel_rfl) ?_
  simp only [nrm]
  (refine wpList_step fun K hK => ?_; replace hK := hide hK; go_simp; refine unhide hK _ _ ?_; clear hK K)
  (refine wpList_step fun K hK => ?_; replace hK := hide hK; go_simp; refine unhide hK _ _ ?_; clear hK K)
  (refine wpList_step fun K hK => ?_; replace hK := hide hK; go_simp; refine unhide hK _ _ ?_; clear hK K)
  refine wpList_nil ?_
  replace hB := hide hB
  go_upto_region 3 with fail
  replace hB := unhide hB
  refine wp_region_lit ?_
  refine list_val (.agg (kc WA)) (by kernel_rfl) (exec_arr _ 34 (.tmp 1) rfl (gs) (by kernel_rfl) (kc WA) 34 _ (hB.get 0 (x := ⟨gs, kc WA, 34⟩) rfl) Tryd.underlying34 rfl (by rw [Tryd.infoKey, kc_size, WA_isK.1])) ?_
  simp only [nrm]
  refine list_val (.slice a8 49 c8) (by kernel_rfl) (by kernel_rfl) ?_
  simp only [nrm]
  refine list_call 9 #[.int .u64 7, .agg (kc WA), .slice a8 49 c8] (by kernel_rfl) (by kernel_rfl) ((npeel_yes 7 (by omega) WA WA_isK (pubL WB) (pubL_isK _) (nlow_pub _ _) [5] isB5 a8 49 c8 (by omega) u7 ((unhide hF).gr hB.gr) (unhide l8)).mono ?_)
  rintro r_ u8 ⟨g5, rfl, hz5, hb5, hg⟩
  rw [← unhide hA]
  replace hB := hB.more hg
  replace hr7 := hide (rg_gr (unhide hr7) hg)
  have hC := Bl.nil u8
  replace hb5 := hide hb5
  clear hg l8
  refine ⟨_, rfl, ?_⟩
  simp only [nrm]
  refine list_val (.tuple #[.slice (some ⟨g5, 0, none⟩) 1 1, .agg (kc A), .int .i64 0]) (by kernel_rfl) (by kernel_rfl) ?_
  simp only [nrm]
  refine list_val (.slice (some ⟨g5, 0, none⟩) 1 1) (by kernel_rfl) (by kernel_rfl) ?_
  simp only [nrm]
  refine list_val (.agg (kc A)) (by kernel_rfl) (by kernel_rfl) ?_
  simp only [nrm]
  refine list_val (.int .i64 0) (by kernel_rfl) (by kernel_rfl) ?_
  simp only [nrm]
  refine list_valw (.pointer (some ⟨u8.heap.size, 0, none⟩)) (u8.alloc (.cells (kc ZK) 34 (0, 0))) (by kernel_rfl) (by kernel_rfl) ?_
  replace hC := hC.new (kc ZK) 34
  simp only [List.nil_append, List.cons_append] at hC
  generalize World.alloc _ _ = u9 at *
  replace hC : Bl u8 [⟨u8.heap.size, kc ZK, 34⟩] u9 := hC
  simp only [nrm]
  (refine wpList_step fun K hK => ?_; replace hK := hide hK; go_simp; refine unhide hK _ _ ?_; clear hK K)
  refine list_store 34 (.tmp 6) (.tmp 25) u8.heap.size (kc A) 34 (kc ZK) (by kernel_rfl) rfl (by kernel_rfl) (by kernel_rfl) (hC.get 0 (x := ⟨u8.heap.size, kc ZK, 34⟩) rfl) (by rw [Tryd.infoKey, kc_size, hAl]) (by rw [kc_size, kc_size, hAl]; rfl) (kc_one _) ?_
  replace hC := hC.set 0 (x := ⟨u8.heap.size, kc ZK, 34⟩) rfl (kc A)
  simp only [List.set_cons_zero, List.set_cons_succ] at hC
  generalize World.setRow _ _ _ = u10 at *
  have hq := hide (hC.get 0 (x := ⟨u8.heap.size, kc A, 34⟩) rfl)
  replace hr7 := hide (rg_gr (unhide hr7) hC.gr)
  replace hb5 := hide (hC.gr.blk (unhide hb5))
  have hG := hide (hB.gr.trans hC.gr)
  dsimp only at hq
  generalize u8.heap.size = gq at *
  clear hB hC
  simp only [nrm]
  (refine wpList_step fun K hK => ?_; replace hK := hide hK; go_simp; refine unhide hK _ _ ?_; clear hK K)
  refine wpList_nil ?_
  go_upto_region 4 with fail
  refine any_start (S := fun (v : World) => Gr u10 v) (by kernel_rfl) ?_
  have hI : Gr u10 (World.drew u10) := (Gr.refl _).drew
  replace hG := hide ((unhide hG).trans hI)
  generalize World.drew _ = x0 at *
  simp only [List.size_toArray, List.length_cons, List.length_nil, Array.replicate, List.replicate]
  refine any_take (i := 0) (v := (.int .i64 0)) #[false, false, false, false, false, false, false, false, false, false, false, false, false, false, false, false, false, false, false, false, false, false, false, false, false, false, false, false, false, false, false, false, false, false, false] rfl (by kernel_rfl) (by kernel_rfl) (by kernel_rfl) (by kernel_rfl) (fun _ _ _ h => h) (.inl ⟨by kernel_rfl, fun x_ hu => by kernel_rfl⟩) hI ?_
  simp only [nrm]
  refine any_take (i := 1) (v := (.bool true)) #[true, false, false, false, false, false, false, false, false, false, false, false, false, false, false, false, false, false, false, false, false, false, false, false, false, false, false, false, false, false, false, false, false, false, false] rfl (by kernel_rfl) (by kernel_rfl) (by kernel_rfl) (by kernel_rfl) (fun _ _ _ h => h) (.inl ⟨by kernel_rfl, fun x_ hu => by kernel_rfl⟩) hI ?_
  simp only [nrm]
  refine any_take (i := 2) (v := (.bool true)) #[true, true, false, false, false, false, false, false, false, false, false, false, false, false, false, false, false, false, false, false, false, false, false, false, false, false, false, false, false, false, false, false, false, false, false] rfl (by kernel_rfl) (by kernel_rfl) (by kernel_rfl) (by kernel_rfl) (fun _ _ _ h => h) (.inl ⟨by kernel_rfl, fun x_ hu => by kernel_rfl⟩) hI ?_
  simp only [nrm]
  refine any_take (i := 3) (v := (.int .i64 0)) #[true, true, true, false, false, false, false, false, false, false, false, false, false, false, false, false, false, false, false, false, false, false, false, false, false, false, false, false, false, false, false, false, false, false, false] rfl (by kernel_rfl) (by kernel_rfl) (by kernel_rfl) (by kernel_rfl) (fun _ _ _ h => h) (.inl ⟨by kernel_rfl, fun x_ hu => by kernel_rfl⟩) hI ?_
  simp only [nrm]
  refine any_take (i := 4) (v := (.bool true)) #[true, true, true, true, false, false, false, false, false, false, false, false, false, false, false, false, false, false, false, false, false, false, false, false, false, false, false, false, false, false, false, false, false, false, false] rfl (by kernel_rfl) (by kernel_rfl) (by kernel_rfl) (by kernel_rfl) (fun _ _ _ h => h) (.inl ⟨by kernel_rfl, fun x_ hu => by kernel_rfl⟩) hI ?_
  simp only [nrm]
  refine any_take (i := 5) (v := (.bool true)) #[true, true, true, true, true, false, false, false, false, false, false, false, false, false, false, false, false, false, false, false, false, false, false, false, false, false, false, false, false, false, false, false, false, false, false] rfl (by kernel_rfl) (by kernel_rfl) (by kernel_rfl) (by kernel_rfl) (fun _ _ _ h => h) (.inl ⟨by kernel_rfl, fun x_ hu => by kernel_rfl⟩) hI ?_
  simp only [nrm]
  refine any_take (i := 6) (v := (.bool true)) #[true, true, true, true, true, true, false, false, false, false, false, false, false, false, false, false, false, false, false, false, false, false, false, false, false, false, false, false, false, false, false, false, false, false, false] rfl (by kernel_rfl) (by kernel_rfl) (by kernel_rfl) (by kernel_rfl) (fun _ _ _ h => h) (.inl ⟨by kernel_rfl, fun x_ hu => by kernel_rfl⟩) hI ?_
  simp only [nrm]
  refine any_take (i := 7) (v := (.slice (some ⟨p7, q7, none⟩) 1 c7)) #[true, true, true, true, true, true, true, false, false, false, false, false, false, false, false, false, false, false, false, false, false, false, false, false, false, false, false, false, false, false, false, false, false, false, false] rfl (by kernel_rfl) (by kernel_rfl) (by kernel_rfl) (by kernel_rfl) (fun _ _ _ h => h) (.inl ⟨by kernel_rfl, fun x_ hu => by kernel_rfl⟩) hI ?_
  simp only [nrm]
  refine any_take (i := 8) (v := (.int .i64 1)) #[true, true, true, true, true, true, true, true, false, false, false, false, false, false, false, false, false, false, false, false, false, false, false, false, false, false, false, false, false, false, false, false, false, false, false] rfl (by kernel_rfl) (by kernel_rfl) (by kernel_rfl) (by kernel_rfl) (fun _ _ _ h => h) (.inl ⟨by kernel_rfl, fun x_ hu => by kernel_rfl⟩) hI ?_
  simp only [nrm]
  refine any_take (i := 9) (v := (.bool true)) #[true, true, true, true, true, true, true, true, true, false, false, false, false, false, false, false, false, false, false, false, false, false, false, false, false, false, false, false, false, false, false, false, false, false, false] rfl (by kernel_rfl) (by kernel_rfl) (by kernel_rfl) (by kernel_rfl) (fun _ _ _ h => h) (.inl ⟨by kernel_rfl, fun x_ hu => by kernel_rfl⟩) hI ?_
  simp only [nrm]
  refine any_take (i := 10) (v := (.bool true)) #[true, true, true, true, true, true, true, true, true, true, false, false, false, false, false, false, false, false, false, false, false, false, false, false, false, false, false, false, false, false, false, false, false, false, false] rfl (by kernel_rfl) (by kernel_rfl) (by kernel_rfl) (by kernel_rfl) (fun _ _ _ h => h) (.inl ⟨by kernel_rfl, fun x_ hu => by kernel_rfl⟩) hI ?_
  simp only [nrm]
  refine any_take (i := 11) (v := (.bool true)) #[true, true, true, true, true, true, true, true, true, true, true, false, false, false, false, false, false, false, false, false, false, false, false, false, false, false, false, false, false, false, false, false, false, false, false] rfl (by kernel_rfl) (by kernel_rfl) (by kernel_rfl) (by kernel_rfl) (fun _ _ _ h => h) (.inl ⟨by kernel_rfl, fun x_ hu => by kernel_rfl⟩) hI ?_
  simp only [nrm]
  refine any_take (i := 12) (v := (.agg (kc A))) #[true, true, true, true, true, true, true, true, true, true, true, true, false, false, false, false, false, false, false, false, false, false, false, false, false, false, false, false, false, false, false, false, false, false, false] rfl (by kernel_rfl) (by kernel_rfl) (by kernel_rfl) (by kernel_rfl) (fun _ _ _ h => h) (.inl ⟨by kernel_rfl, fun x_ hu => exec_arr _ 34 (.tmp 6) rfl (gq) (by kernel_rfl) (kc A) 34 _ (hu.blk (unhide hq)) Tryd.underlying34 rfl (by rw [Tryd.infoKey, kc_size, hAl])⟩) hI ?_
  simp only [nrm]
  refine any_take (i := 13) (v := (.slice (some ⟨p7, q7, none⟩) 1 c7)) #[true, true, true, true, true, true, true, true, true, true, true, true, true, false, false, false, false, false, false, false, false, false, false, false, false, false, false, false, false, false, false, false, false, false, false] rfl (by kernel_rfl) (by kernel_rfl) (by kernel_rfl) (by kernel_rfl) (fun _ _ _ h => h) (.inl ⟨by kernel_rfl, fun x_ hu => by kernel_rfl⟩) hI ?_
  simp only [nrm]
  refine any_take (i := 14) (v := (.pointer (some ⟨p7, q7 + 32 * 0, none⟩))) #[true, true, true, true, true, true, true, true, true, true, true, true, true, true, false, false, false, false, false, false, false, false, false, false, false, false, false, false, false, false, false, false, false, false, false] rfl (by kernel_rfl) (by kernel_rfl) (by kernel_rfl) (by kernel_rfl) (fun _ _ _ h => h) (.inl ⟨by kernel_rfl, fun x_ hu => exec_iks _ (.tmp 40) (.const (.int .i64 0)) rfl p7 q7 1 c7 0 (by kernel_rfl) (by kernel_rfl) (by omega)⟩) hI ?_
  simp only [nrm]
  refine any_take (i := 15) (v := (.agg (kc A))) #[true, true, true, true, true, true, true, true, true, true, true, true, true, true, true, false, false, false, false, false, false, false, false, false, false, false, false, false, false, false, false, false, false, false, false] rfl (by kernel_rfl) (by kernel_rfl) (by kernel_rfl) (by kernel_rfl) (fun _ _ _ h => h) (.inl ⟨by kernel_rfl, fun x_ hu => exec_kr _ (.tmp 41) rfl p7 (q7 + 32 * 0) (by kernel_rfl) A hAl (rg_gr (unhide hr7) hu)⟩) hI ?_
  simp only [nrm]
  refine any_take (i := 16) (v := (.bool true)) #[true, true, true, true, true, true, true, true, true, true, true, true, true, true, true, true, false, false, false, false, false, false, false, false, false, false, false, false, false, false, false, false, false, false, false] rfl (by kernel_rfl) (by kernel_rfl) (by kernel_rfl) (by kernel_rfl) (fun _ _ _ h => h) (.inl ⟨by kernel_rfl, fun x_ hu => exec_eq_k _ (.tmp 39) (.tmp 42) rfl A A hAl hAl (by kernel_rfl) (by kernel_rfl) (by kernel_rfl) true (by simp)⟩) hI ?_
  simp only [nrm]
  refine any_take (i := 17) (v := (.bool true)) #[true, true, true, true, true, true, true, true, true, true, true, true, true, true, true, true, true, false, false, false, false, false, false, false, false, false, false, false, false, false, false, false, false, false, false] rfl (by kernel_rfl) (by kernel_rfl) (by kernel_rfl) (by kernel_rfl) (fun _ _ _ h => h) (.inl ⟨by kernel_rfl, fun x_ hu => by kernel_rfl⟩) hI ?_
  simp only [nrm]
  refine any_take (i := 18) (v := (.bool true)) #[true, true, true, true, true, true, true, true, true, true, true, true, true, true, true, true, true, true, false, false, false, false, false, false, false, false, false, false, false, false, false, false, false, false, false] rfl (by kernel_rfl) (by kernel_rfl) (by kernel_rfl) (by kernel_rfl) (fun _ _ _ h => h) (.inl ⟨by kernel_rfl, fun x_ hu => by kernel_rfl⟩) hI ?_
  simp only [nrm]
  refine any_take (i := 19) (v := (.slice (some ⟨g5, 0, none⟩) 1 1)) #[true, true, true, true, true, true, true, true, true, true, true, true, true, true, true, true, true, true, true, false, false, false, false, false, false, false, false, false, false, false, false, false, false, false, false] rfl (by kernel_rfl) (by kernel_rfl) (by kernel_rfl) (by kernel_rfl) (fun _ _ _ h => h) (.inl ⟨by kernel_rfl, fun x_ hu => by kernel_rfl⟩) hI ?_
  simp only [nrm]
  refine any_take (i := 20) (v := (.int .i64 1)) #[true, true, true, true, true, true, true, true, true, true, true, true, true, true, true, true, true, true, true, true, false, false, false, false, false, false, false, false, false, false, false, false, false, false, false] rfl (by kernel_rfl) (by kernel_rfl) (by kernel_rfl) (by kernel_rfl) (fun _ _ _ h => h) (.inl ⟨by kernel_rfl, fun x_ hu => by kernel_rfl⟩) hI ?_
  simp only [nrm]
  refine any_take (i := 21) (v := (.bool true)) #[true, true, true, true, true, true, true, true, true, true, true, true, true, true, true, true, true, true, true, true, true, false, false, false, false, false, false, false, false, false, false, false, false, false, false] rfl (by kernel_rfl) (by kernel_rfl) (by kernel_rfl) (by kernel_rfl) (fun _ _ _ h => h) (.inl ⟨by kernel_rfl, fun x_ hu => by kernel_rfl⟩) hI ?_
  simp only [nrm]
  refine any_take (i := 22) (v := (.bool true)) #[true, true, true, true, true, true, true, true, true, true, true, true, true, true, true, true, true, true, true, true, true, true, false, false, false, false, false, false, false, false, false, false, false, false, false] rfl (by kernel_rfl) (by kernel_rfl) (by kernel_rfl) (by kernel_rfl) (fun _ _ _ h => h) (.inl ⟨by kernel_rfl, fun x_ hu => by kernel_rfl⟩) hI ?_
  simp only [nrm]
  refine any_take (i := 23) (v := (.bool true)) #[true, true, true, true, true, true, true, true, true, true, true, true, true, true, true, true, true, true, true, true, true, true, true, false, false, false, false, false, false, false, false, false, false, false, false] rfl (by kernel_rfl) (by kernel_rfl) (by kernel_rfl) (by kernel_rfl) (fun _ _ _ h => h) (.inl ⟨by kernel_rfl, fun x_ hu => by kernel_rfl⟩) hI ?_
  simp only [nrm]
  refine any_take (i := 24) (v := (.slice (some ⟨g5, 0, none⟩) 1 1)) #[true, true, true, true, true, true, true, true, true, true, true, true, true, true, true, true, true, true, true, true, true, true, true, true, false, false, false, false, false, false, false, false, false, false, false] rfl (by kernel_rfl) (by kernel_rfl) (by kernel_rfl) (by kernel_rfl) (fun _ _ _ h => h) (.inl ⟨by kernel_rfl, fun x_ hu => by kernel_rfl⟩) hI ?_
  simp only [nrm]
  refine any_take (i := 25) (v := (.pointer (some ⟨g5, 0, none⟩))) #[true, true, true, true, true, true, true, true, true, true, true, true, true, true, true, true, true, true, true, true, true, true, true, true, true, false, false, false, false, false, false, false, false, false, false] rfl (by kernel_rfl) (by kernel_rfl) (by kernel_rfl) (by kernel_rfl) (fun _ _ _ h => h) (.inl ⟨by kernel_rfl, fun x_ hu => by kernel_rfl⟩) hI ?_
  simp only [nrm]
  refine any_take (i := 26) (v := (.int .u8 5)) #[true, true, true, true, true, true, true, true, true, true, true, true, true, true, true, true, true, true, true, true, true, true, true, true, true, true, false, false, false, false, false, false, false, false, false] rfl (by kernel_rfl) (by kernel_rfl) (by kernel_rfl) (by kernel_rfl) (fun _ _ _ h => h) (.inl ⟨by kernel_rfl, fun x_ hu => exec_u8 _ (.tmp 52) rfl g5 0 (by kernel_rfl) 5 (cell_of (hu.blk (unhide hb5)) (i := 0) rfl)⟩) hI ?_
  simp only [nrm]
  refine any_take (i := 27) (v := (.bool true)) #[true, true, true, true, true, true, true, true, true, true, true, true, true, true, true, true, true, true, true, true, true, true, true, true, true, true, true, false, false, false, false, false, false, false, false] rfl (by kernel_rfl) (by kernel_rfl) (by kernel_rfl) (by kernel_rfl) (fun _ _ _ h => h) (.inl ⟨by kernel_rfl, fun x_ hu => by kernel_rfl⟩) hI ?_
  simp only [nrm]
  refine any_take (i := 28) (v := (.bool true)) #[true, true, true, true, true, true, true, true, true, true, true, true, true, true, true, true, true, true, true, true, true, true, true, true, true, true, true, true, false, false, false, false, false, false, false] rfl (by kernel_rfl) (by kernel_rfl) (by kernel_rfl) (by kernel_rfl) (fun _ _ _ h => h) (.inl ⟨by kernel_rfl, fun x_ hu => by kernel_rfl⟩) hI ?_
  simp only [nrm]
  refine any_take (i := 29) (v := (.bool true)) #[true, true, true, true, true, true, true, true, true, true, true, true, true, true, true, true, true, true, true, true, true, true, true, true, true, true, true, true, true, false, false, false, false, false, false] rfl (by kernel_rfl) (by kernel_rfl) (by kernel_rfl) (by kernel_rfl) (fun _ _ _ h => h) (.inl ⟨by kernel_rfl, fun x_ hu => by kernel_rfl⟩) hI ?_
  simp only [nrm]
  refine any_take (i := 30) (v := (.slice a8 49 c8)) #[true, true, true, true, true, true, true, true, true, true, true, true, true, true, true, true, true, true, true, true, true, true, true, true, true, true, true, true, true, true, false, false, false, false, false] rfl (by kernel_rfl) (by kernel_rfl) (by kernel_rfl) (by kernel_rfl) (fun _ _ _ h => h) (.inl ⟨by kernel_rfl, fun x_ hu => by kernel_rfl⟩) hI ?_
  simp only [nrm]
  refine any_take (i := 31) (v := (.int .i64 49)) #[true, true, true, true, true, true, true, true, true, true, true, true, true, true, true, true, true, true, true, true, true, true, true, true, true, true, true, true, true, true, true, false, false, false, false] rfl (by kernel_rfl) (by kernel_rfl) (by kernel_rfl) (by kernel_rfl) (fun _ _ _ h => h) (.inl ⟨by kernel_rfl, fun x_ hu => by kernel_rfl⟩) hI ?_
  simp only [nrm]
  refine any_take (i := 32) (v := (.bool true)) #[true, true, true, true, true, true, true, true, true, true, true, true, true, true, true, true, true, true, true, true, true, true, true, true, true, true, true, true, true, true, true, true, false, false, false] rfl (by kernel_rfl) (by kernel_rfl) (by kernel_rfl) (by kernel_rfl) (fun _ _ _ h => h) (.inl ⟨by kernel_rfl, fun x_ hu => by kernel_rfl⟩) hI ?_
  simp only [nrm]
  refine any_take (i := 33) (v := (.bool true)) #[true, true, true, true, true, true, true, true, true, true, true, true, true, true, true, true, true, true, true, true, true, true, true, true, true, true, true, true, true, true, true, true, true, false, false] rfl (by kernel_rfl) (by kernel_rfl) (by kernel_rfl) (by kernel_rfl) (fun _ _ _ h => h) (.inl ⟨by kernel_rfl, fun x_ hu => by kernel_rfl⟩) hI ?_
  simp only [nrm]
  refine any_one (i := 34) (by kernel_rfl) rfl (fun K_ hQ => ?_)
  replace hQ := hide hQ
  go_simp
  refine (unhide hQ).out _ _ hI (fun _ => ?_)
  clear hQ K_
  refine any_done (by kernel_rfl) ?_
  have hZ : Hid (T (.returned (.bool true)) x0) := by
    rw [unhide hT]
    exact ⟨rfl, unhide hG⟩
  go_wp2_with fail
  exact unhide hZ
end Go.Proofs.YtgabkfleidpipaaDoor
