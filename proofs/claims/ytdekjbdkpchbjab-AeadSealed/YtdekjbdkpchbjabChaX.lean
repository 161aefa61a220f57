/-
  Bytes xored with the stream, by the program.
-/
import Derived.Test.YtdekjbdkpchbjabChaW
namespace Go.Proofs.Ytdekjbdkpchbjab
open Go.RowKit
set_option maxRecDepth 100000
set_option linter.unusedSimpArgs false
set_option linter.unusedVariables false
/-- what Xor answers: new memory -/
def Xd (K N : List Int) (c : Int) (B : List Int) (w : World) (r : Ending) (w' : World) : Prop := ∃ g, r = .returned (.slice (some ⟨g, 0, none⟩) B.length B.length) ∧ w.heap.size ≤ g ∧ w'.heap[g]? = some (.cells (kc (xl K N c B)) 5 (0, 0)) ∧ Gr w w'
set_option maxHeartbeats 4000000 in
theorem xor_ok (K N : List Int) (hK : K.length = 32) (hN : N.length = 12) (hKb : IsB K) (hNb : IsB N) (c : Int) (hc : W32 c) (B : List Int) (a : Option Addr) (n cap : Nat) (hbig : n ≤ 281474976710656) (w : World) (hA : Lb w a n cap B) :
    Calls Try.prog 14 #[.agg (kc K), .int .u32 c, .agg (kc N), .slice a n cap] w (Xd K N c B w) := by
  have hn := hA.len
  obtain ⟨T, hT⟩ : ∃ T, T = Xd K N c B w := ⟨_, rfl⟩
  rw [← hT]
  unfold Xd at hT
  rw [hn] at hT
  replace hT := hide hT
  replace hA := hide hA
  obtain ⟨SK, hSK⟩ : ∃ S, S = kc K := ⟨_, rfl⟩
  obtain ⟨SN, hSN⟩ : ∃ S, S = kc N := ⟨_, rfl⟩
  rw [← hSK, ← hSN]
  replace hSK := hide hSK
  replace hSN := hide hSN
  replace hKb := hide hKb
  replace hNb := hide hNb
  replace hc := hide hc
  replace hn := hide hn
  go_enter Try.func14, Try.ntmps14
  go_upto_region 1 with fail
  have hB := ((Bl.nil w).new SK 23).new SN 25
  simp only [size_alloc, List.nil_append, List.cons_append] at hB
  generalize World.alloc _ _ = u at *
  rw [unhide hSK, unhide hSN] at hB
  refine wp_region_lit ?_
  refine list_val (.slice a n cap) (by kernel_rfl) (by kernel_rfl) ?_
  simp only [Act.put, List.setIfInBounds_toArray, List.set_cons_zero, List.set_cons_succ, List.getElem_toArray, List.getElem_cons_zero, List.getElem_cons_succ]
  refine list_val (.int .i64 n) (by kernel_rfl) (by kernel_rfl) ?_
  simp only [Act.put, List.setIfInBounds_toArray, List.set_cons_zero, List.set_cons_succ, List.getElem_toArray, List.getElem_cons_zero, List.getElem_cons_succ]
  refine wpList_make_room u rfl (.tmp 17) (.tmp 17) rfl n n n n rfl rfl rfl rfl (Nat.le_refl _) hbig ?_
  simp only [Act.put, List.setIfInBounds_toArray, List.set_cons_zero, List.set_cons_succ, List.getElem_toArray, List.getElem_cons_zero, List.getElem_cons_succ]
  replace hB := hB.new (kc (List.replicate n 0)) 5
  simp only [List.nil_append, List.cons_append] at hB
  generalize World.alloc _ _ = u1 at *
  generalize u.heap.size = g2 at *
  replace hB := hide hB
  iterate 1 (refine wpList_step fun K hK => ?_; replace hK := hide hK; go_simp; refine unhide hK _ _ ?_; clear hK K)
  refine wpList_nil ?_
  go_upto_region 2 with fail
  replace hB := unhide hB
  refine wp_region_lit ?_
  refine list_val (.agg (kc K)) (by kernel_rfl) (exec_arr _ 23 (.tmp 4) rfl (w.heap.size) (by kernel_rfl) (kc K) 23 _ (hB.get 0 (x := ⟨w.heap.size, kc K, 23⟩) rfl) Try.underlying23 rfl (by rw [Try.infoKey, kc_size, hK])) ?_
  simp only [Act.put, List.setIfInBounds_toArray, List.set_cons_zero, List.set_cons_succ, List.getElem_toArray, List.getElem_cons_zero, List.getElem_cons_succ]
  refine list_val (.agg (kc N)) (by kernel_rfl) (exec_arr _ 25 (.tmp 6) rfl (w.heap.size + 1) (by kernel_rfl) (kc N) 25 _ (hB.get 1 (x := ⟨w.heap.size + 1, kc N, 25⟩) rfl) Try.underlying25 rfl (by rw [Try.infoN, kc_size, hN])) ?_
  simp only [Act.put, List.setIfInBounds_toArray, List.set_cons_zero, List.set_cons_succ, List.getElem_toArray, List.getElem_cons_zero, List.getElem_cons_succ]
  refine list_call 21 #[.agg (kc K), .agg (kc N)] (by kernel_rfl) (by kernel_rfl) ((begin_ok K N hK hN (unhide hKb) (unhide hNb) _).mono ?_)
  rintro r u2 ⟨rfl, hg⟩
  refine ⟨_, rfl, ?_⟩
  replace hB := hB.more hg
  clear hg
  simp only [Act.put, List.setIfInBounds_toArray, List.set_cons_zero, List.set_cons_succ, List.getElem_toArray, List.getElem_cons_zero, List.getElem_cons_succ]
  have hGl := bg_len K N
  obtain ⟨A, hAe⟩ : ∃ A, A = bg K N := ⟨_, rfl⟩
  rw [← hAe] at hGl ⊢
  replace hAe := hide hAe
  replace hB := hide hB
  iterate 1 (refine wpList_step fun K hK => ?_; replace hK := hide hK; go_simp; refine unhide hK _ _ ?_; clear hK K)
  replace hB := (unhide hB).new #[.int .u32 0, .int .u32 0, .int .u32 0, .int .u32 0, .int .u32 0, .int .u32 0, .int .u32 0, .int .u32 0, .int .u32 0, .int .u32 0, .int .u32 0, .int .u32 0, .int .u32 0, .int .u32 0, .int .u32 0, .int .u32 0] 53
  simp only [List.nil_append, List.cons_append] at hB
  generalize World.alloc _ _ = u3 at *
  generalize u2.heap.size = h3 at *
  replace hB : Bl w [⟨w.heap.size, kc K, 23⟩, ⟨w.heap.size + 1, kc N, 25⟩, ⟨g2, kc (List.replicate n 0), 5⟩, ⟨h3, uc Z16, 53⟩] u3 := hB
  refine list_store 53 (.tmp 10) (.tmp 21) (h3) (uc A) 53 (uc Z16) (by kernel_rfl) rfl (by kernel_rfl) (by kernel_rfl) (hB.get 3 (x := ⟨h3, uc Z16, 53⟩) rfl) (by rw [Try.info16, uc_size, hGl]) ((show (uc Z16).size = 16 from rfl).trans ((uc_size _).trans hGl).symm) (uc_one _) ?_
  replace hB := hB.set 3 (x := ⟨h3, uc Z16, 53⟩) rfl (uc A)
  simp only [List.set_cons_zero, List.set_cons_succ] at hB
  generalize World.setRow _ _ _ = u4 at *
  simp only [Act.put, List.setIfInBounds_toArray, List.set_cons_zero, List.set_cons_succ, List.getElem_toArray, List.getElem_cons_zero, List.getElem_cons_succ]
  refine wpList_nil ?_
  replace hB := hide hB
  go_wp2_with fail
  obtain ⟨Z, hZ⟩ : ∃ Z, Z = List.replicate n (0 : Int) := ⟨_, rfl⟩
  have hZl : Z.length = n := by rw [hZ]; simp
  rw [← hZ] at hB
  replace hZ := hide hZ
  go_loopw [11, 12] (fun i e wr => ∃ k q : Nat, ∃ m : List Int, Hid (q = 64 * k) ∧ q ≤ n + 63 ∧ i = .int .i64 q ∧ e = .int .u32 (cn c k) ∧ Hid (m = fil (xf K N c B) (min q n) Z) ∧ Hid (Bl w [⟨w.heap.size, kc K, 23⟩, ⟨w.heap.size + 1, kc N, 25⟩, ⟨g2, kc m, 5⟩, ⟨h3, uc A, 53⟩] wr)) (fun i _ _ => n + 64 - (intOf i).toNat)
  case atStart => exact ⟨0, 0, Z, rfl, by omega, rfl, by rw [cn_zero c (unhide hc)], by rw [Nat.min_eq_left (Nat.zero_le _), fil_zero]; exact rfl, hB⟩
  case round =>
  clear hB
  obtain ⟨k, q, m, hq, hqn, rfl, rfl, hm, hB⟩ := hrel
  have hml : m.length = n := by rw [unhide hm, fil_len _ _ _ (by omega)]; exact hZl
  by_cases hl : q < n
  · have qI : (q : Int) < (n : Int) := by omega
    obtain ⟨bp, bo, rfl, hat⟩ : ∃ bp bo, a = some ⟨bp, bo, none⟩ ∧ At w bp bo B := by
      rcases (unhide hA).sl with h | h
      · have := unhide hn
        rw [h] at this
        simp at this
        omega
      · exact h
    generalize hck : cn c k = ck
    replace hck := hide hck
    go_upto_region 6 with fail
    replace hB := unhide hB
    refine wp_region_lit ?_
    refine list_val (.agg (uc A)) (by kernel_rfl) (exec_arr _ 53 (.tmp 10) rfl (h3) (by kernel_rfl) (uc A) 53 _ (hB.get 3 (x := ⟨h3, uc A, 53⟩) rfl) Try.underlying53 rfl (by rw [Try.info16, uc_size, hGl])) ?_
    simp only [Act.put, List.setIfInBounds_toArray, List.set_cons_zero, List.set_cons_succ, List.getElem_toArray, List.getElem_cons_zero, List.getElem_cons_succ]
    refine list_val (.int .u32 ck) (by kernel_rfl) (by kernel_rfl) ?_
    simp only [Act.put, List.setIfInBounds_toArray, List.set_cons_zero, List.set_cons_succ, List.getElem_toArray, List.getElem_cons_zero, List.getElem_cons_succ]
    refine list_call 22 #[.agg (uc A), .int .u32 ck] (by kernel_rfl) (by kernel_rfl) ((wblock_ok A hGl ck _).mono ?_)
    rintro r u2 ⟨rfl, hg⟩
    refine ⟨_, rfl, ?_⟩
    replace hB := hB.more hg
    clear hg
    simp only [Act.put, List.setIfInBounds_toArray, List.set_cons_zero, List.set_cons_succ, List.getElem_toArray, List.getElem_cons_zero, List.getElem_cons_succ]
    have hDl := wb_len A ck
    obtain ⟨D, hD⟩ : ∃ D, D = wb A ck := ⟨_, rfl⟩
    rw [← hD] at hDl ⊢
    replace hD : Hid (D = bk K N (cn c k)) := by rw [hD, unhide hAe, unhide hck]; exact rfl
    replace hB := hide hB
    iterate 1 (refine wpList_step fun K hK => ?_; replace hK := hide hK; go_simp; refine unhide hK _ _ ?_; clear hK K)
    replace hB := (unhide hB).new #[.int .u8 0, .int .u8 0, .int .u8 0, .int .u8 0, .int .u8 0, .int .u8 0, .int .u8 0, .int .u8 0, .int .u8 0, .int .u8 0, .int .u8 0, .int .u8 0, .int .u8 0, .int .u8 0, .int .u8 0, .int .u8 0, .int .u8 0, .int .u8 0, .int .u8 0, .int .u8 0, .int .u8 0, .int .u8 0, .int .u8 0, .int .u8 0, .int .u8 0, .int .u8 0, .int .u8 0, .int .u8 0, .int .u8 0, .int .u8 0, .int .u8 0, .int .u8 0, .int .u8 0, .int .u8 0, .int .u8 0, .int .u8 0, .int .u8 0, .int .u8 0, .int .u8 0, .int .u8 0, .int .u8 0, .int .u8 0, .int .u8 0, .int .u8 0, .int .u8 0, .int .u8 0, .int .u8 0, .int .u8 0, .int .u8 0, .int .u8 0, .int .u8 0, .int .u8 0, .int .u8 0, .int .u8 0, .int .u8 0, .int .u8 0, .int .u8 0, .int .u8 0, .int .u8 0, .int .u8 0, .int .u8 0, .int .u8 0, .int .u8 0, .int .u8 0] 55
    simp only [List.nil_append, List.cons_append] at hB
    generalize World.alloc _ _ = u3 at *
    generalize u2.heap.size = h4 at *
    replace hB : Bl w [⟨w.heap.size, kc K, 23⟩, ⟨w.heap.size + 1, kc N, 25⟩, ⟨g2, kc m, 5⟩, ⟨h3, uc A, 53⟩, ⟨h4, kc Z64, 55⟩] u3 := hB
    refine list_store 55 (.tmp 13) (.tmp 33) (h4) (kc D) 55 (kc Z64) (by kernel_rfl) rfl (by kernel_rfl) (by kernel_rfl) (hB.get 4 (x := ⟨h4, kc Z64, 55⟩) rfl) (by rw [Try.info64, kc_size, hDl]) ((show (kc Z64).size = 64 from rfl).trans ((kc_size _).trans hDl).symm) (kc_one _) ?_
    replace hB := hB.set 4 (x := ⟨h4, kc Z64, 55⟩) rfl (kc D)
    simp only [List.set_cons_zero, List.set_cons_succ] at hB
    generalize World.setRow _ _ _ = u4 at *
    simp only [Act.put, List.setIfInBounds_toArray, List.set_cons_zero, List.set_cons_succ, List.getElem_toArray, List.getElem_cons_zero, List.getElem_cons_succ]
    refine wpList_nil ?_
    replace hB := hide hB
    clear u3 u2
    obtain ⟨q64, hq64⟩ : ∃ x, x = q + 64 := ⟨_, rfl⟩
    obtain ⟨e, he⟩ : ∃ x, x = min q64 n := ⟨_, rfl⟩
    obtain ⟨p, hp⟩ : ∃ x, x = e - q := ⟨_, rfl⟩
    have i1 : (q : Int) + 64 = (q64 : Int) := by omega
    have i2 : IntKind.i64.wrap (q64 : Int) = (q64 : Int) := by rw [IntKind.wrap_i64]; omega
    have i3 : (if (n : Int) < (q64 : Int) then (n : Int) else (q64 : Int)) = (e : Int) := by split <;> omega
    have i4 : (if n < q64 then (n : Int) else (q64 : Int)) = (e : Int) := by split <;> omega
    have i5 : q ≤ e := by omega
    have i6 : e ≤ n := by omega
    have i7 : (e : Int) ≤ (n : Int) := by omega
    have i8 : (q : Int) ≤ (e : Int) := by omega
    have i9 : e - q = p := hp.symm
    replace hp := hide hp
    replace he := hide he
    replace hq64 := hide hq64
    go_upto_region 7 with fail
    go_wp2_with fail
    have j1 : e ≤ q64 := by have := unhide he; omega
    go_loopw [44] (fun i wr => ∃ j : Nat, ∃ m : List Int, j ≤ p ∧ i = .int .i64 j ∧ Hid (m = fil (xf K N c B) (q + j) Z) ∧ Hid (Bl w [⟨w.heap.size, kc K, 23⟩, ⟨w.heap.size + 1, kc N, 25⟩, ⟨g2, kc m, 5⟩, ⟨h3, uc A, 53⟩, ⟨h4, kc D, 55⟩] wr)) (fun i _ => p - (intOf i).toNat)
    case atStart => exact ⟨0, m, by omega, rfl, by rw [unhide hm, Nat.min_eq_left (by omega)]; exact rfl, hB⟩
    case round =>
    clear hB hm hml m
    obtain ⟨j, m, hj, rfl, hm, hB⟩ := hrel
    have hml : m.length = n := by rw [unhide hm, fil_len _ _ _ (by omega)]; exact hZl
    by_cases hjl : j < p
    · obtain ⟨t, ht⟩ : ∃ t, t = q + j := ⟨_, rfl⟩
      have c1 := (hat.gr (unhide hB).gr) t (by rw [unhide hn]; omega)
      have c2 := kc_cell ((unhide hB).get 4 (x := ⟨h4, kc D, 55⟩) rfl) j (by have := unhide hq64; omega)
      have c3 := kc_cell ((unhide hB).get 2 (x := ⟨g2, kc m, 5⟩) rfl) (q + j) (by omega)
      have fz := froz_of (i := q + j) ((unhide hB).get 2 (x := ⟨g2, kc m, 5⟩) rfl)
      generalize m.getD (q + j) 0 = z at c3
      have hx : xf K N c B (q + j) = xb (B.getD t 0) (D.getD j 0) := by
        have h64 := unhide hq64
        have hqk := unhide hq
        unfold xf sf
        rw [unhide hD, ← ht, show t / 64 = k from by omega, show t % 64 = j from by omega]
      have hm2 : Hid (m.set (q + j) (xb (B.getD t 0) (D.getD j 0)) = fil (xf K N c B) (q + (j + 1)) Z) := by
        rw [unhide hm, ← hx]
        exact fil_set _ _ _ (by omega)
      have hB2 := (unhide hB).drew.cell 2 (x := ⟨g2, kc m, 5⟩) rfl (q + j) (.int .u8 (xb (B.getD t 0) (D.getD j 0)))
      simp only [List.set_cons_zero, List.set_cons_succ, kc_set] at hB2
      clear hx
      generalize B.getD t 0 = x at *
      generalize D.getD j 0 = y at *
      replace hB2 := hide hB2
      have k1 : (j : Int) < (p : Int) := by omega
      have k2 : (j : Int) < 64 := by have := unhide hq64; omega
      have k3 : j < 64 := by omega
      have k4 : (t : Int) < (n : Int) := by omega
      have k5 : t < n := by omega
      have k6 : (q : Int) + (j : Int) = (t : Int) := by omega
      have k7 : IntKind.i64.wrap (t : Int) = (t : Int) := by rw [IntKind.wrap_i64]; omega
      have k8 : 0 ≤ (t : Int) := by omega
      replace ht := hide ht
      go_wp2_with fail
      go_still_tail 13, (by kernel_rfl)
      go_wp2_with fail
      go_roundw
      case rel => exact ⟨j + 1, _, by omega, by go_num, hm2, hB2⟩
      case measure => simp [intOf]; omega
    · have ej : j = p := by omega
      subst ej
      have hcs : (ck + 1) % 4294967296 = cn c (k + 1) := by rw [← unhide hck]; exact cn_succ c k
      have hB2 : Hid (Bl w [⟨w.heap.size, kc K, 23⟩, ⟨w.heap.size + 1, kc N, 25⟩, ⟨g2, kc m, 5⟩, ⟨h3, uc A, 53⟩] wr) := Bl.left (L := [⟨w.heap.size, kc K, 23⟩, ⟨w.heap.size + 1, kc N, 25⟩, ⟨g2, kc m, 5⟩, ⟨h3, uc A, 53⟩]) (M := [⟨h4, kc D, 55⟩]) (unhide hB)
      have hm2 : Hid (m = fil (xf K N c B) (min q64 n) Z) := by rw [unhide hm, ← unhide he, show q + j = e from by omega]; exact rfl
      have hq2 : Hid (q64 = 64 * (k + 1)) := by have h1 := unhide hq; have h2 := unhide hq64; exact (show q64 = 64 * (k + 1) by omega)
      have hq3 : q64 ≤ n + 63 := by have := unhide hq64; omega
      have hq5 := unhide hq64
      replace hq5 : q < q64 := by omega
      clear hB hm hjl
      go_wp2_with fail

      go_roundw
      case rel => exact ⟨k + 1, q64, m, hq2, hq3, rfl, by rw [hcs], hm2, hB2⟩
      case measure => simp [intOf]; omega
  · have hM : m = xl K N c B := by
      rw [unhide hm, Nat.min_eq_right (by omega), ← hZl, fil_all, hZl, ← unhide hn]
      exact rfl
    have hP : Hid (∃ g, Ending.returned (.slice (some ⟨g2, 0, none⟩) n n) = .returned (.slice (some ⟨g, 0, none⟩) n n) ∧ w.heap.size ≤ g ∧ wr.heap[g]? = some (.cells (kc (xl K N c B)) 5 (0, 0)) ∧ Gr w wr) := ⟨g2, rfl, (unhide hB).own 2 (x := ⟨g2, kc m, 5⟩) rfl, (by rw [← hM]; exact (unhide hB).get 2 (x := ⟨g2, kc m, 5⟩) rfl), (unhide hB).gr⟩
    clear hM hB hm
    have qI : ¬ (q : Int) < (n : Int) := by omega
    go_wp2_with fail
    rw [unhide hT]
    exact unhide hP
end Go.Proofs.Ytdekjbdkpchbjab
