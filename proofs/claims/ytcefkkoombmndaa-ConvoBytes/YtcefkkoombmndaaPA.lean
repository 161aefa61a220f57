/-
  A text that is held, as bytes: putIn.
-/
import Derived.Test.YtcefkkoombmndaaUM
import Derived.Test.YtcefkkoombmndaaFC
import Derived.Lib.LazyBuf
namespace Go.Proofs.Ytcefkkoombmndaa
open Go.RowKit
set_option maxRecDepth 100000
set_option linter.unusedSimpArgs false
set_option linter.unusedVariables false
def Z48 : List Int := List.replicate 48 0
theorem Z48_len : Z48.length = 48 := List.length_replicate
def NQ : List Nat := [48]
theorem nQ {K : List Int} (h : K.length = 48) : ([bw K]).map List.length = NQ := by simp [NQ, bw_len, h]
/-- a text's bytes -/
def tb (s : ByteArray) : List Int := s.data.toList.map fun x => ((x.toNat : Nat) : Int)
theorem tb_len (s : ByteArray) : (tb s).length = s.size := by unfold tb; simp
theorem tb_isB (s : ByteArray) : IsB (tb s) := by
  intro x hx
  obtain ⟨y, _, rfl⟩ := List.mem_map.1 hx
  have := UInt8.toNat_lt y
  omega
/-- .. filled up to 48 -/
def padT (s : ByteArray) : List Int := tb s ++ List.replicate (48 - s.size) 0
theorem padT_len {s : ByteArray} (h : s.size ≤ 48) : (padT s).length = 48 := by unfold padT; simp [tb_len]; omega
theorem isB_rep (n : Nat) : IsB (List.replicate n 0) := by
  intro x hx
  obtain ⟨_, rfl⟩ := List.mem_replicate.1 hx
  omega
theorem padT_isB (s : ByteArray) : IsB (padT s) := isB_app (tb_isB s) (isB_rep _)
/-- what is put of a text -/
def inB (s : It) : List Int := lowL s.n 4 ++ ([(s.s.size : Int)] ++ padT s.s)
theorem inB_len {s : It} (h : s.s.size ≤ 48) : (inB s).length = 53 := by unfold inB; simp [lowL_len, padT_len h]
theorem inB_isB {s : It} (h : s.s.size ≤ 48) : IsB (inB s) := isB_app (lowL_isB _ _) (isB_app (fun x hx => by obtain rfl := List.mem_singleton.1 hx; omega) (padT_isB _))
theorem exec_bsb {a : Act} {o : Oper} (w : World) (x : Operand) (ho : o.op = .buildSlice 53 1 #[(0, x)]) (k : Int) (hx : a.eval x = .int .u8 k) :
    (execOp a.eval o).run Try.prog w = .ok (.value (.slice (some ⟨w.heap.size, 0, none⟩) 1 1)) (w.alloc (.cells (kc [k]) 5 (0, 0))) := by
  unfold execOp
  simp only [ho, List.map_toArray, List.map_cons, List.map_nil, hx]
  kernel_rfl
theorem conv_u8 {a : Act} {o : Oper} (w : World) (x : Operand) (m : Int) (ho : o.op = .convert 3 5 x) (hx : a.eval x = .int .i64 m) (h : 0 ≤ m ∧ m < 256) : (execOp a.eval o).run Try.prog w = .ok (.value (.int .u8 m)) w := by
  have e : IntKind.u8.wrap m = m := by rw [IntKind.wrap_u8]; omega
  unfold execOp
  simp only [ho, hx]
  go_simp
theorem ob_or {b : Nat} {w : World} {v : Value} {L : List Int} (h : Ob b w v L) : Or_ 1 5 b w v (L.map fun x => [.int .u8 x]) := by
  refine ⟨fun r hr => by obtain ⟨x, _, rfl⟩ := List.mem_map.1 hr; rfl, ?_⟩
  have e : (L.map fun x => [Value.int .u8 x]).flatten = L.map (Value.int .u8) := by
    clear h
    induction L with
    | nil => rfl
    | cons a L ih => rw [List.map_cons, List.flatten_cons, ih]; rfl
  rw [e, List.length_map]
  exact h
theorem Bl.grownB {w v v' : World} {L : List Blk} (h : Bl w L v) {b : Nat} {x : Value} {B : List Int} (ho : Ob b v x B) (hb : w.heap.size ≤ b) (g : v.grownBy v' x.ownBlock) (ht : ∀ y ∈ L, y.t ≠ 5) : Bl w L v' := h.grownR (ob_or ho) hb g ht
theorem step_copyS {ops : Array Oper} {Q : Exit → Act → World → Prop} {o : Oper} {a : Act} {w : World} {K : Act → World → Prop} (d x : Operand) (ho : o.op = .call { callee := .builtin .copy, args := #[d, x], argTypes := #[53, 9] }) (hw : Region.wanted o (yielded ops a.tmps) = true)
    (g off len cap : Nat) (s : ByteArray) (hd : a.eval d = .slice (some ⟨g, off, none⟩) len cap) (hx : a.eval x = .string s) (hle : s.size ≤ len) (C : List Value) (t : TypeId) (hg : w.heap[g]? = some (.cells C.toArray t (0, 0))) (hfit : off + s.size ≤ C.length)
    (h : K (a.put o.dst (.int .i64 (s.size : Int))) (w.setCells g off ((tb s).map (Value.int .u8)))) : if Region.wanted o (yielded ops a.tmps) = true then Oper.wp Try.prog o a w K Q else K (a.put o.dst undef) w := by
  have hth := there_of (n := s.size) hg hfit
  have hz : ∀ w, (Go.sizeOf 5).run Try.prog w = .ok 1 w := fun w => by kernel_rfl
  have hrun := run_copy_string (P := Try.prog) w 53 9 o.type 5 g off len cap s Try.underlying53 hz hle (fun j hj => (hth j hj).1) (fun j hj => (hth j hj).2)
  have e : (s.data.toList.map fun x => Value.int .u8 (x.toNat : Int)) = (tb s).map (Value.int .u8) := by unfold tb; rw [List.map_map]; rfl
  rw [e] at hrun
  rw [if_pos hw]
  unfold Oper.wp
  simp [execOp, ho, resolve, invoke, builtin, hd, hx, hrun, Result.andThen]
  exact h
theorem pad_cells {s : ByteArray} (h : s.size ≤ 48) : (sp ([bw Z48].flatten) 0 ((tb s).map (Value.int .u8))).toArray = fl [bw (padT s)] := by
  have h1 := sp_mid ((tb s).map (Value.int .u8)) [] ((List.replicate s.size (0 : Int)).map (Value.int .u8)) ((List.replicate (48 - s.size) (0 : Int)).map (Value.int .u8)) (by simp [tb_len])
  have e : [bw Z48].flatten = [] ++ ((List.replicate s.size (0 : Int)).map (Value.int .u8) ++ (List.replicate (48 - s.size) (0 : Int)).map (Value.int .u8)) := by
    rw [← List.map_append, List.replicate_append_replicate, show s.size + (48 - s.size) = 48 by omega]
    simp [bw, Z48]
  rw [e]
  rw [show (0 : Nat) = ([] : List Value).length from rfl, h1]
  unfold fl bw padT
  simp
set_option maxHeartbeats 4000000 in
theorem putin_ok (B : List Int) (a : Option Addr) (n c : Nat) (s : It) (hs : s.Ok) (hsz : s.s.size ≤ 48) (hB9 : IsB B) (hn : n ≤ 900) (w : World) (lb : Lb w a n c B) : Calls Try.prog 43 #[.slice a n c, .agg (fl [[.int .u32 s.n], [.string s.s]])] w (fun r_ w' => ∃ v, r_ = .returned v ∧ Ob w.heap.size w' v (B ++ inB s) ∧ Gr w w') := by
  obtain ⟨T, hT⟩ : ∃ T : Ending → World → Prop, T = (fun r_ w' => ∃ v, r_ = .returned v ∧ Ob w.heap.size w' v (B ++ inB s) ∧ Gr w w') := ⟨_, rfl⟩
  rw [← hT]
  replace hT := hide hT
  have hBl := lb.len
  replace lb := hide lb; replace hs := hide hs
  obtain ⟨A1_, hA1_⟩ : ∃ S_, S_ = fl [[.int .u32 s.n], [.string s.s]] := ⟨_, rfl⟩
  rw [← hA1_]
  replace hA1_ := hide hA1_
  go_enter Try.func43, Try.ntmps43
  go_upto_region 1 with fail
  have hB := ((Bl.nil w).new A1_ 47)
  simp only [size_alloc, List.nil_append, List.cons_append] at hB
  rw [unhide hA1_] at hB
  generalize hu_ : World.alloc _ _ = u0
  replace hB : Bl w [⟨w.heap.size, fl [[.int .u32 s.n], [.string s.s]], 47⟩] u0 := by
    rw [← hu_]
    rw [unhide hA1_]
    exact hB
  clear hu_ hA1_
  replace hB := hide hB
  go_upto_region 1 with fail
  replace hB := unhide hB
  refine wp_region_lit ?_
  refine list_valw (.pointer (some ⟨u0.heap.size, 0, none⟩)) (u0.alloc (.cells (fl [bw Z48]) 90 (0, 0))) (by kernel_rfl) (by kernel_rfl) ?_
  replace hB := hB.new (fl [bw Z48]) 90
  simp only [List.nil_append, List.cons_append] at hB
  generalize World.alloc _ _ = u1 at *
  generalize u0.heap.size = g5 at *
  simp only [nrm]
  refine wpList_nil ?_
  replace hB := hide hB
  go_upto_region 2 with fail
  replace hB := unhide hB
  refine any_start (S := fun v_ => v_.heap[w.heap.size]? = some (.cells (fl [[.int .u32 s.n], [.string s.s]]) 47 (0, 0))) (by kernel_rfl) ?_
  replace hB := hB.drew
  generalize World.drew _ = u2 at *
  simp only [List.size_toArray, List.length_cons, List.length_nil, Array.replicate, List.replicate]
  have hS_ := hide (show (fun v_ => v_.heap[w.heap.size]? = some (.cells (fl [[.int .u32 s.n], [.string s.s]]) 47 (0, 0))) u2 from (hB.get 0 (x := ⟨w.heap.size, fl [[.int .u32 s.n], [.string s.s]], 47⟩) rfl))
  refine any_tk 0 (.slice (some ⟨g5, 0, none⟩) 48 48) (tf 5 0) rfl (fun x_ hu => by kernel_rfl) (unhide hS_) ?_
  simp only [nrm]
  refine any_tk 1 (.pointer (some ⟨w.heap.size, 1, none⟩)) (tf 5 1) rfl (fun x_ hu => by kernel_rfl) (unhide hS_) ?_
  simp only [nrm]
  refine any_tk 2 (.string s.s) (tf 5 2) rfl (fun x_ hu => exec_cst _ (.tmp 8) rfl (w.heap.size) 1 (by kernel_rfl) s.s (seg_cell (nI  _ _) hu 1 (v := .string s.s) rfl rfl)) (unhide hS_) ?_
  simp only [nrm]
  refine any_one (i := 3) (by kernel_rfl) rfl (fun K hK => ?_)
  refine step_copyS (.tmp 7) (.tmp 9) rfl (by kernel_rfl) (g5) 0 48 48 s.s (by kernel_rfl) (by kernel_rfl) hsz ([bw Z48].flatten) 90 (hB.get 1 (x := ⟨g5, fl [bw Z48], 90⟩) rfl) (by simp [bw_len, Z48_len]; omega) ?_
  have hB2 := hB.cells 1 (C := [bw Z48].flatten) rfl 0 ((tb s.s).map (Value.int .u8))
  rw [pad_cells hsz] at hB2
  simp only [List.set_cons_zero, List.set_cons_succ] at hB2
  clear hB
  generalize World.setCells _ _ _ _ = u3 at *
  have hB := hB2
  clear hB2
  clear hS_
  have hS_ := hide (show (fun v_ => v_.heap[w.heap.size]? = some (.cells (fl [[.int .u32 s.n], [.string s.s]]) 47 (0, 0))) u3 from (hB.get 0 (x := ⟨w.heap.size, fl [[.int .u32 s.n], [.string s.s]], 47⟩) rfl))
  refine hK.out _ _ (unhide hS_) (fun _ => ?_)
  clear hK K
  simp only [nrm]
  refine any_one (i := 4) (by kernel_rfl) rfl (fun K hK => ?_)
  replace hK := hide hK
  go_simp
  refine (unhide hK).out _ _ (unhide hS_) (fun _ => ?_)
  clear hK K
  simp only [nrm]
  refine any_done (by kernel_rfl) ?_
  clear hS_
  replace hB := hide hB
  go_upto_region 3 with fail
  replace hB := unhide hB
  refine wp_region_lit ?_
  refine lvk (.slice a n c) ?_
  simp only [nrm]
  refine lvk (.pointer (some ⟨w.heap.size, 0, none⟩)) ?_
  simp only [nrm]
  refine list_val (.int .u32 s.n) (by kernel_rfl) (exec_c32 _ (.tmp 12) rfl (w.heap.size) 0 (by kernel_rfl) s.n (seg_cell (nI  _ _) (hB.get 0 (x := ⟨w.heap.size, fl [[.int .u32 s.n], [.string s.s]], 47⟩) rfl) 0 (v := .int .u32 s.n) rfl rfl)) ?_
  simp only [nrm]
  refine list_call 42 #[.slice a n c, .int .u32 s.n] (by kernel_rfl) (by kernel_rfl) (((show Calls Try.prog 42 #[.slice a n c, .int .u32 s.n] u3 (fun r w' => ∃ v, r = .returned v ∧ Ob w.heap.size w' v (B ++ lowL s.n 4) ∧ Gr u3 w') from (put32g_ok B a n c s.n (unhide hs).1 (by omega) u3 ((unhide lb).gr hB.gr)).mono fun r w' h9 => (by obtain ⟨g, h1, h2, h3, h4⟩ := h9; exact ⟨_, h1, ob_of h3 rfl (Nat.le_trans hB.gr.size h2) (by rw [List.length_append, lowL_len]; omega), h4⟩))).mono ?_)
  rintro r_ u4 ⟨v1, rfl, hO, hg⟩
  replace hB := hB.more hg
  clear hg
  replace hO := hide hO
  refine ⟨_, rfl, ?_⟩
  simp only [nrm]
  refine lvk (.int .i64 (s.s.size : Int)) ?_
  simp only [nrm]
  refine list_val (.int .u8 (s.s.size : Int)) (by kernel_rfl) (conv_u8 _ (.tmp 15) (s.s.size : Int) rfl (by kernel_rfl) (by omega)) ?_
  simp only [nrm]
  refine list_valw (.slice (some ⟨u4.heap.size, 0, none⟩) 1 1) (u4.alloc (.cells (kc [(s.s.size : Int)]) 5 (0, 0))) (by kernel_rfl) (exec_bsb _ (.tmp 16) rfl (s.s.size : Int) (by kernel_rfl)) ?_
  have hS := hide (blk_new u4 (.cells (kc [(s.s.size : Int)]) 5 (0, 0)))
  have hg := (Gr.refl u4).alloc (.cells (kc [(s.s.size : Int)]) 5 (0, 0))
  replace hO := hide ((unhide hO).gr hg)
  replace hB := hB.more hg
  clear hg
  generalize World.alloc _ _ = u5 at *
  generalize u4.heap.size = gs17 at *
  simp only [nrm]
  refine app_bs (by kernel_rfl) (.tmp 14) (.tmp 17) rfl w.heap.size (v1) (B ++ lowL s.n 4) (by kernel_rfl) (unhide hO) (some ⟨gs17, 0, none⟩) 1 1 ([(s.s.size : Int)]) (by kernel_rfl) rfl (.inr ⟨gs17, 0, rfl, kc_at (unhide hS)⟩) (by simp [lowL_len]; omega) hB.gr.size ?_
  intro v2 u6 hO9 hgr
  replace hB := hB.grownB (unhide hO) (Nat.le_refl _) hgr (by intro y_ hy_; simp only [List.mem_cons, List.not_mem_nil, or_false] at hy_; rcases hy_ with rfl | rfl <;> (dsimp only; decide))
  replace hO := hide hO9
  clear hO9 hgr
  simp only [nrm]
  (refine wpList_step fun K hK => ?_; replace hK := hide hK; go_simp; refine unhide hK _ _ ?_; clear hK K)
  refine wpList_nil ?_
  clear hS
  replace hB := hide hB
  go_upto_region 4 with fail
  replace hB := unhide hB
  refine wp_region_lit ?_
  refine lvk v2 ?_
  simp only [nrm]
  refine lvk (.slice (some ⟨g5, 0, none⟩) 48 48) ?_
  simp only [nrm]
  refine app_bs (by kernel_rfl) (.tmp 19) (.tmp 20) rfl w.heap.size (v2) (B ++ lowL s.n 4 ++ [(s.s.size : Int)]) (by kernel_rfl) (unhide hO) (some ⟨g5, 0, none⟩) 48 48 (padT s.s) (by kernel_rfl) (padT_len hsz) (.inr ⟨g5, 0, rfl, kc_at (by have h9 := hB.get 1 (x := ⟨g5, fl [bw (padT s.s)], 90⟩) rfl; rw [show kc (padT s.s) = fl [bw (padT s.s)] by simp [fl, bw, kc]]; exact h9)⟩) (by simp [lowL_len]; omega) hB.gr.size ?_
  intro v3 u7 hO9 hgr
  replace hB := hB.grownB (unhide hO) (Nat.le_refl _) hgr (by intro y_ hy_; simp only [List.mem_cons, List.not_mem_nil, or_false] at hy_; rcases hy_ with rfl | rfl <;> (dsimp only; decide))
  replace hO := hide hO9
  clear hO9 hgr
  simp only [nrm]
  (refine wpList_step fun K hK => ?_; replace hK := hide hK; go_simp; refine unhide hK _ _ ?_; clear hK K)
  refine wpList_nil ?_
  have e1 : B ++ lowL s.n 4 ++ [(s.s.size : Int)] ++ padT s.s = B ++ inB s := by unfold inB; simp
  rw [e1] at hO
  clear e1
  replace hB := hide hB
  go_wp2_with fail
  replace hB := unhide hB
  rw [unhide hT]
  exact (⟨v3, rfl, unhide hO, hB.gr⟩)
end Go.Proofs.Ytcefkkoombmndaa
