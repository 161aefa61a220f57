/-
  What narrowed answers.
-/
import Derived.Test.YtpmgmpihmpifgaaDoorVLow
import Derived.Deep.RegionHeld
namespace Go.Proofs.YtpmgmpihmpifgaaDoor.Cv
open Go.RowKit
set_option maxRecDepth 100000

/-- fit for over -/
def Ov (h l : Int) : Prop := W2 h l ∧ num2 h l < 41538374868278621028243970633760768
theorem over_at (h l : Int) (hw : Hid (Ov h l)) (w : World) :
    Calls Tryd.prog 100 #[.agg #[.int .u64 h, .int .u64 l]] w (fun r w' => r = .returned (.int .u64 (num2 h l / 2251799813685248)) ∧ Gr w w') := over_ok h l (unhide hw).1 (unhide hw).2 w

theorem set5c {v : World} {b k o : Nat} {x0 x1 x2 x3 x4 y : Value} (hne : k ≠ b) (h : v.cell? ⟨k, o, none⟩ = some y) :
    (((((v.setCell ⟨b, 0, none⟩ x0).setCell ⟨b, 1, none⟩ x1).setCell ⟨b, 2, none⟩ x2).setCell ⟨b, 3, none⟩ x3).setCell ⟨b, 4, none⟩ x4).cell? ⟨k, o, none⟩ = some y := by
  rw [← h]
  refine World.cell?_of_block ?_
  exact (Below.heap_setCell _ ⟨b, 4, none⟩ _ k hne).trans ((Below.heap_setCell _ ⟨b, 3, none⟩ _ k hne).trans ((Below.heap_setCell _ ⟨b, 2, none⟩ _ k hne).trans ((Below.heap_setCell _ ⟨b, 1, none⟩ _ k hne).trans (Below.heap_setCell _ ⟨b, 0, none⟩ _ k hne))))

theorem six (w : World) (o0 o1 o2 o3 o4 o5 : Obj) (u : World) (h : (((((w.alloc o0).alloc o1).alloc o2).alloc o3).alloc o4).alloc o5 = u) :
    u.heap[w.heap.size]? = some o0 ∧ u.heap[w.heap.size + 1]? = some o1 ∧ u.heap[w.heap.size + 1 + 1]? = some o2 ∧ u.heap[w.heap.size + 1 + 1 + 1]? = some o3 ∧ u.heap[w.heap.size + 1 + 1 + 1 + 1]? = some o4 ∧ u.heap[w.heap.size + 1 + 1 + 1 + 1 + 1]? = some o5 := by
  rw [← h]
  refine ⟨?_, ?_, ?_, ?_, ?_, ?_⟩ <;> (simp only [blk_alloc, size_alloc]; repeat (first | rw [if_pos trivial] | rw [if_pos (by omega)] | rw [if_neg (by omega)]))

theorem narrow_val (a b c d e : Int) :
    val (a % 2251799813685248 + e / 2251799813685248 * 19) (b % 2251799813685248 + a / 2251799813685248) (c % 2251799813685248 + b / 2251799813685248) (d % 2251799813685248 + c / 2251799813685248) (e % 2251799813685248 + d / 2251799813685248) % pp = val a b c d e % pp := by
  unfold val pp
  omega
theorem low_num (h l : Int) (_ : W2 h l) : l % 2251799813685248 = num2 h l % 2251799813685248 := by unfold num2; omega

set_option maxHeartbeats 8000000 in
theorem narrowed_ok (ah al bh bl ch cl dh dl eh el a b c d e : Int) (ha : W2 ah al) (hb : W2 bh bl) (hc : W2 ch cl) (hd : W2 dh dl) (he : W2 eh el)
    (na : num2 ah al = a) (nb : num2 bh bl = b) (nc : num2 ch cl = c) (nd : num2 dh dl = d) (ne : num2 eh el = e)
    (la : a < 2596148429267413814265248164610048) (lb : b < 2596148429267413814265248164610048) (lc : c < 2596148429267413814265248164610048) (ld : d < 2596148429267413814265248164610048) (le : e < 162259276829213363391578010288128) (w : World) :
    Calls Tryd.prog 81 #[two ah al, two bh bl, two ch cl, two dh dl, two eh el] w (Reck (val a b c d e) w) := by
  have oa : Hid (Ov ah al) := hide ⟨ha, by omega⟩
  have ob : Hid (Ov bh bl) := hide ⟨hb, by omega⟩
  have oc : Hid (Ov ch cl) := hide ⟨hc, by omega⟩
  have od : Hid (Ov dh dl) := hide ⟨hd, by omega⟩
  have oe : Hid (Ov eh el) := hide ⟨he, by omega⟩
  have a0 : 0 ≤ a := by unfold num2 W2 at *; omega
  have b0 : 0 ≤ b := by unfold num2 W2 at *; omega
  have c0 : 0 ≤ c := by unfold num2 W2 at *; omega
  have d0 : 0 ≤ d := by unfold num2 W2 at *; omega
  have e0 : 0 ≤ e := by unfold num2 W2 at *; omega
  have ma : bits .and .u64 al 2251799813685247 = a % 2251799813685248 := by rw [mask51 al ha.2.1 ha.2.2, low_num ah al ha, na]
  have mb : bits .and .u64 bl 2251799813685247 = b % 2251799813685248 := by rw [mask51 bl hb.2.1 hb.2.2, low_num bh bl hb, nb]
  have mc : bits .and .u64 cl 2251799813685247 = c % 2251799813685248 := by rw [mask51 cl hc.2.1 hc.2.2, low_num ch cl hc, nc]
  have md : bits .and .u64 dl 2251799813685247 = d % 2251799813685248 := by rw [mask51 dl hd.2.1 hd.2.2, low_num dh dl hd, nd]
  have me : bits .and .u64 el 2251799813685247 = e % 2251799813685248 := by rw [mask51 el he.2.1 he.2.2, low_num eh el he, ne]
  have x0 := wrap_id (e / 2251799813685248 * 19) (by omega) (by omega)
  have x1 := wrap_id (a % 2251799813685248 + e / 2251799813685248 * 19) (by omega) (by omega)
  have x2 := wrap_id (b % 2251799813685248 + a / 2251799813685248) (by omega) (by omega)
  have x3 := wrap_id (c % 2251799813685248 + b / 2251799813685248) (by omega) (by omega)
  have x4 := wrap_id (d % 2251799813685248 + c / 2251799813685248) (by omega) (by omega)
  have x5 := wrap_id (e % 2251799813685248 + d / 2251799813685248) (by omega) (by omega)
  have ca := carried_ok (a % 2251799813685248 + e / 2251799813685248 * 19) (b % 2251799813685248 + a / 2251799813685248) (c % 2251799813685248 + b / 2251799813685248) (d % 2251799813685248 + c / 2251799813685248) (e % 2251799813685248 + d / 2251799813685248) (by omega) (by omega) (by omega) (by omega) (by omega)
  have cb := ca
  clear ca
  have ca : ∀ w, Calls Tryd.prog 80 #[.int .u64 (a % 2251799813685248 + e / 2251799813685248 * 19), .int .u64 (b % 2251799813685248 + a / 2251799813685248), .int .u64 (c % 2251799813685248 + b / 2251799813685248), .int .u64 (d % 2251799813685248 + c / 2251799813685248), .int .u64 (e % 2251799813685248 + d / 2251799813685248)] w (Reck (val a b c d e) w) := fun w => (cb w).mono (fun r w' h => h.same (narrow_val a b c d e))
  clear cb ha hb hc hd he
  replace ca := hide ca
  clear a0 b0 c0 d0 e0 la lb lc ld le
  unfold two
  go_enter Tryd.func81, Tryd.ntmps81
  go_wp2_with fail
  generalize hW : World.alloc _ _ = u
  have hg0 : Gr w u := by rw [← hW]; exact ((((((Gr.refl _).alloc _).alloc _).alloc _).alloc _).alloc _).alloc _
  obtain ⟨B0, B1, B2, B3, B4, B5⟩ := six w _ _ _ _ _ _ u hW
  have hS0 : (u.cell? ⟨w.heap.size, 0, none⟩ = some (.int .u64 ah) ∧ u.cell? ⟨w.heap.size, 1, none⟩ = some (.int .u64 al) ∧ u.cell? ⟨w.heap.size + 1, 0, none⟩ = some (.int .u64 bh) ∧ u.cell? ⟨w.heap.size + 1, 1, none⟩ = some (.int .u64 bl) ∧ u.cell? ⟨w.heap.size + 1 + 1, 0, none⟩ = some (.int .u64 ch) ∧ u.cell? ⟨w.heap.size + 1 + 1, 1, none⟩ = some (.int .u64 cl) ∧ u.cell? ⟨w.heap.size + 1 + 1 + 1, 0, none⟩ = some (.int .u64 dh) ∧ u.cell? ⟨w.heap.size + 1 + 1 + 1, 1, none⟩ = some (.int .u64 dl) ∧ u.cell? ⟨w.heap.size + 1 + 1 + 1 + 1, 0, none⟩ = some (.int .u64 eh) ∧ u.cell? ⟨w.heap.size + 1 + 1 + 1 + 1, 1, none⟩ = some (.int .u64 el) ∧ Hid (Res w (w.heap.size + 1 + 1 + 1 + 1 + 1) 5 89 u)) := ⟨cell_of B0 rfl, cell_of B0 rfl, cell_of B1 rfl, cell_of B1 rfl, cell_of B2 rfl, cell_of B2 rfl, cell_of B3 rfl, cell_of B3 rfl, cell_of B4 rfl, cell_of B4 rfl, hide ⟨hg0, by omega, _, rfl, B5⟩⟩
  clear hW
  have keepS : ∀ u v : World, Gr u v → (u.cell? ⟨w.heap.size, 0, none⟩ = some (.int .u64 ah) ∧ u.cell? ⟨w.heap.size, 1, none⟩ = some (.int .u64 al) ∧ u.cell? ⟨w.heap.size + 1, 0, none⟩ = some (.int .u64 bh) ∧ u.cell? ⟨w.heap.size + 1, 1, none⟩ = some (.int .u64 bl) ∧ u.cell? ⟨w.heap.size + 1 + 1, 0, none⟩ = some (.int .u64 ch) ∧ u.cell? ⟨w.heap.size + 1 + 1, 1, none⟩ = some (.int .u64 cl) ∧ u.cell? ⟨w.heap.size + 1 + 1 + 1, 0, none⟩ = some (.int .u64 dh) ∧ u.cell? ⟨w.heap.size + 1 + 1 + 1, 1, none⟩ = some (.int .u64 dl) ∧ u.cell? ⟨w.heap.size + 1 + 1 + 1 + 1, 0, none⟩ = some (.int .u64 eh) ∧ u.cell? ⟨w.heap.size + 1 + 1 + 1 + 1, 1, none⟩ = some (.int .u64 el) ∧ Hid (Res w (w.heap.size + 1 + 1 + 1 + 1 + 1) 5 89 u)) → (v.cell? ⟨w.heap.size, 0, none⟩ = some (.int .u64 ah) ∧ v.cell? ⟨w.heap.size, 1, none⟩ = some (.int .u64 al) ∧ v.cell? ⟨w.heap.size + 1, 0, none⟩ = some (.int .u64 bh) ∧ v.cell? ⟨w.heap.size + 1, 1, none⟩ = some (.int .u64 bl) ∧ v.cell? ⟨w.heap.size + 1 + 1, 0, none⟩ = some (.int .u64 ch) ∧ v.cell? ⟨w.heap.size + 1 + 1, 1, none⟩ = some (.int .u64 cl) ∧ v.cell? ⟨w.heap.size + 1 + 1 + 1, 0, none⟩ = some (.int .u64 dh) ∧ v.cell? ⟨w.heap.size + 1 + 1 + 1, 1, none⟩ = some (.int .u64 dl) ∧ v.cell? ⟨w.heap.size + 1 + 1 + 1 + 1, 0, none⟩ = some (.int .u64 eh) ∧ v.cell? ⟨w.heap.size + 1 + 1 + 1 + 1, 1, none⟩ = some (.int .u64 el) ∧ Hid (Res w (w.heap.size + 1 + 1 + 1 + 1 + 1) 5 89 v)) := fun u v g h => ⟨g.cell h.1, g.cell h.2.1, g.cell h.2.2.1, g.cell h.2.2.2.1, g.cell h.2.2.2.2.1, g.cell h.2.2.2.2.2.1, g.cell h.2.2.2.2.2.2.1, g.cell h.2.2.2.2.2.2.2.1, g.cell h.2.2.2.2.2.2.2.2.1, g.cell h.2.2.2.2.2.2.2.2.2.1, hide ((unhide h.2.2.2.2.2.2.2.2.2.2).gr g)⟩
  replace keepS := hide keepS
  go_region_held (fun v => (v.cell? ⟨w.heap.size, 0, none⟩ = some (.int .u64 ah) ∧ v.cell? ⟨w.heap.size, 1, none⟩ = some (.int .u64 al) ∧ v.cell? ⟨w.heap.size + 1, 0, none⟩ = some (.int .u64 bh) ∧ v.cell? ⟨w.heap.size + 1, 1, none⟩ = some (.int .u64 bl) ∧ v.cell? ⟨w.heap.size + 1 + 1, 0, none⟩ = some (.int .u64 ch) ∧ v.cell? ⟨w.heap.size + 1 + 1, 1, none⟩ = some (.int .u64 cl) ∧ v.cell? ⟨w.heap.size + 1 + 1 + 1, 0, none⟩ = some (.int .u64 dh) ∧ v.cell? ⟨w.heap.size + 1 + 1 + 1, 1, none⟩ = some (.int .u64 dl) ∧ v.cell? ⟨w.heap.size + 1 + 1 + 1 + 1, 0, none⟩ = some (.int .u64 eh) ∧ v.cell? ⟨w.heap.size + 1 + 1 + 1 + 1, 1, none⟩ = some (.int .u64 el) ∧ Hid (Res w (w.heap.size + 1 + 1 + 1 + 1 + 1) 5 89 v))) (first | exact unhide keepS _ _ (by assumption) (by assumption) | exact unhide keepS _ _ (Gr.refl _).drew (by assumption) | exact ⟨set5c (by omega) hS.1, set5c (by omega) hS.2.1, set5c (by omega) hS.2.2.1, set5c (by omega) hS.2.2.2.1, set5c (by omega) hS.2.2.2.2.1, set5c (by omega) hS.2.2.2.2.2.1, set5c (by omega) hS.2.2.2.2.2.2.1, set5c (by omega) hS.2.2.2.2.2.2.2.1, set5c (by omega) hS.2.2.2.2.2.2.2.2.1, set5c (by omega) hS.2.2.2.2.2.2.2.2.2.1, hF⟩)
    (first
      | (go_at_call 80; refine (unhide ca _).mono ?_; rintro r w' ⟨y0, y1, y2, y3, y4, rfl, hR, hg⟩; have hS := unhide keepS _ _ hg (by assumption); replace hR := hide hR; have hE := unhide hS.2.2.2.2.2.2.2.2.2.2; obtain ⟨q0, hq0⟩ := hE.cell 0 (by decide); obtain ⟨q1, hq1⟩ := hE.cell 1 (by decide); obtain ⟨q2, hq2⟩ := hE.cell 2 (by decide); obtain ⟨q3, hq3⟩ := hE.cell 3 (by decide); obtain ⟨q4, hq4⟩ := hE.cell 4 (by decide); have z0 := hE.froz 0; have z1 := hE.froz 1; have z2 := hE.froz 2; have z3 := hE.froz 3; have z4 := hE.froz 4; have hF := hide (((((hE.set 0 (.int .u64 y0)).set 1 (.int .u64 y1)).set 2 (.int .u64 y2)).set 3 (.int .u64 y3)).set 4 (.int .u64 y4)); unfold five)
      | (go_at_call 100; refine (over_at _ _ (by assumption) _).mono ?_; rintro r w' ⟨rfl, hg⟩))
  all_goals go_wp2_with fail
  all_goals refine bodyPost_ret (v := five y0 y1 y2 y3 y4) ?_ rfl ?_
  · simp [results, Tryd.results81, go_sem, five, hq0, hq1, hq2, hq3, hq4]
  · exact ⟨_, _, _, _, _, rfl, unhide hR, (unhide hF).1⟩
end Go.Proofs.YtpmgmpihmpifgaaDoor.Cv
