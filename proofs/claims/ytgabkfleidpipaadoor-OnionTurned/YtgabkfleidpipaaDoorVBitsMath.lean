/-
  Plain facts: bits of keys that do not count.
-/
import Derived.Test.YtgabkfleidpipaaDoorVComm
namespace Go.Proofs.YtgabkfleidpipaaDoor.Cv
open Go.RowKit
set_option maxRecDepth 100000

theorem kc_inj {k l : List Int} (h : kc k = kc l) : k = l := by
  unfold kc at h
  have h2 := congrArg Array.toList h
  simp only at h2
  exact List.map_inj_right (fun x y e => by simpa using e) |>.1 h2
theorem and192r (t : Int) (h : 0 ≤ t ∧ t < 256) : ∃ k : Fin 4, bits .and .u8 t 192 = ((k.val * 64 : Nat) : Int) := by
  obtain ⟨n, rfl⟩ := Int.eq_ofNat_of_zero_le h.1
  have : ∀ n : Fin 256, bits .and .u8 (n.val : Int) 192 = ((n.val / 64 * 64 : Nat) : Int) := by decide +kernel
  exact ⟨⟨n / 64, by omega⟩, this ⟨n, by omega⟩⟩
theorem and128r (t : Int) (h : 0 ≤ t ∧ t < 256) : ∃ k : Fin 2, bits .and .u8 t 128 = ((k.val * 128 : Nat) : Int) := by
  obtain ⟨n, rfl⟩ := Int.eq_ofNat_of_zero_le h.1
  have : ∀ n : Fin 256, bits .and .u8 (n.val : Int) 128 = ((n.val / 128 * 128 : Nat) : Int) := by decide +kernel
  exact ⟨⟨n / 128, by omega⟩, this ⟨n, by omega⟩⟩
theorem xor7 (x t : Int) (hx : 0 ≤ x ∧ x < 256) (ht : 0 ≤ t ∧ t < 256) : (0 ≤ bits .xor .u8 x (t % 8) ∧ bits .xor .u8 x (t % 8) < 256) ∧ bits .xor .u8 x (t % 8) / 8 = x / 8 := by
  obtain ⟨n, rfl⟩ := Int.eq_ofNat_of_zero_le hx.1
  obtain ⟨k, rfl⟩ := Int.eq_ofNat_of_zero_le ht.1
  have e : (k : Int) % 8 = ((k % 8 : Nat) : Int) := by omega
  rw [e]
  have : ∀ (n : Fin 256) (k : Fin 8), (0 ≤ bits .xor .u8 (n.val : Int) (k.val : Int) ∧ bits .xor .u8 (n.val : Int) (k.val : Int) < 256) ∧ bits .xor .u8 (n.val : Int) (k.val : Int) / 8 = (n.val : Int) / 8 := by decide +kernel
  exact this ⟨n, by omega⟩ ⟨k % 8, by omega⟩
theorem xor192 (x t : Int) (hx : 0 ≤ x ∧ x < 256) (ht : 0 ≤ t ∧ t < 256) : (0 ≤ bits .xor .u8 x (bits .and .u8 t 192) ∧ bits .xor .u8 x (bits .and .u8 t 192) < 256) ∧ bits .xor .u8 x (bits .and .u8 t 192) % 64 = x % 64 := by
  obtain ⟨k, hk⟩ := and192r t ht
  obtain ⟨n, rfl⟩ := Int.eq_ofNat_of_zero_le hx.1
  rw [hk]
  have : ∀ (n : Fin 256) (k : Fin 4), (0 ≤ bits .xor .u8 (n.val : Int) ((k.val * 64 : Nat) : Int) ∧ bits .xor .u8 (n.val : Int) ((k.val * 64 : Nat) : Int) < 256) ∧ bits .xor .u8 (n.val : Int) ((k.val * 64 : Nat) : Int) % 64 = (n.val : Int) % 64 := by decide +kernel
  exact this ⟨n, by omega⟩ k
theorem xor128 (x t : Int) (hx : 0 ≤ x ∧ x < 256) (ht : 0 ≤ t ∧ t < 256) : (0 ≤ bits .xor .u8 x (bits .and .u8 t 128) ∧ bits .xor .u8 x (bits .and .u8 t 128) < 256) ∧ bits .xor .u8 x (bits .and .u8 t 128) % 128 = x % 128 := by
  obtain ⟨k, hk⟩ := and128r t ht
  obtain ⟨n, rfl⟩ := Int.eq_ofNat_of_zero_le hx.1
  rw [hk]
  have : ∀ (n : Fin 256) (k : Fin 2), (0 ≤ bits .xor .u8 (n.val : Int) ((k.val * 128 : Nat) : Int) ∧ bits .xor .u8 (n.val : Int) ((k.val * 128 : Nat) : Int) < 256) ∧ bits .xor .u8 (n.val : Int) ((k.val * 128 : Nat) : Int) % 128 = (n.val : Int) % 128 := by decide +kernel
  exact this ⟨n, by omega⟩ k

theorem kc_set (l : List Int) (i : Nat) (x : Int) : (kc l).setIfInBounds i (.int .u8 x) = kc (l.set i x) := by
  unfold kc
  rw [List.setIfInBounds_toArray, List.map_set]
theorem digs_byte (n : Int) {x : Int} (h : x ∈ digs n 32) : 0 ≤ x ∧ x < 256 := by
  unfold digs at h
  obtain ⟨j, hj, rfl⟩ := List.mem_map.1 h
  split <;> omega
theorem set_byte {l : List Int} (h : ∀ x ∈ l, 0 ≤ x ∧ x < 256) (i : Nat) (y : Int) (hy : 0 ≤ y ∧ y < 256) : ∀ x ∈ l.set i y, 0 ≤ x ∧ x < 256 := by
  intro x hx
  rcases List.mem_or_eq_of_mem_set hx with h1 | h1
  · exact h x h1
  · rw [h1]
    exact hy
theorem cl_lt (M : Nat) : cl M < 57896044618658097711785492504343953926634992332820282019728792003956564819968 := by unfold cl; omega
/-- a key that is turned in clamped bits alone -/
theorem turn_key (K : Nat) (a b : Int) (ha : 0 ≤ a ∧ a < 256) (hb : 0 ≤ b ∧ b < 256) (ea : a / 8 = (K : Int) / 256 ^ 0 % 256 / 8) (eb : b % 64 = (K : Int) / 256 ^ 31 % 256 % 64) :
    ∃ K' : Nat, ((kc (digs (K : Int) 32)).setIfInBounds 0 (.int .u8 a)).setIfInBounds 31 (.int .u8 b) = kc (digs (K' : Int) 32) ∧ cl K' = cl K := by
  rw [kc_set, kc_set]
  obtain ⟨n, hn, hl⟩ := key_num (((digs (K : Int) 32).set 0 a).set 31 b) (by rw [List.length_set, List.length_set, digs_len]) (set_byte (set_byte (fun x hx => digs_byte _ hx) _ _ ha) _ _ hb)
  obtain ⟨K', rfl⟩ := Int.eq_ofNat_of_zero_le hn.1
  refine ⟨K', by rw [hl], ?_⟩
  have h0 : (K' : Int) / 256 ^ 0 % 256 = a := by
    rw [← digs_getD _ 0 (by omega), ← hl]
    simp [List.getD, digs_len]
  have h31 : (K' : Int) / 256 ^ 31 % 256 = b := by
    rw [← digs_getD _ 31 (by omega), ← hl]
    simp [List.getD, digs_len]
  have h1 := clamp_cells K'
  have h2 := clamp_cells K
  rw [h0, h31, ← hl, kc_set, kc_set] at h1
  rw [kc_set, kc_set] at h2
  rw [ea, eb] at h1
  have e : ((((digs (K : Int) 32).set 0 a).set 31 b).set 0 ((K : Int) / 256 ^ 0 % 256 / 8 * 8)).set 31 ((K : Int) / 256 ^ 31 % 256 % 64 + 64) = ((digs (K : Int) 32).set 0 ((K : Int) / 256 ^ 0 % 256 / 8 * 8)).set 31 ((K : Int) / 256 ^ 31 % 256 % 64 + 64) := by
    rw [List.set_comm (i := 31) (j := 0) _ _ (by omega), List.set_set, List.set_set]
  rw [e, h2] at h1
  have h3 := digs_inj _ _ ⟨by omega, by have := cl_lt K; omega⟩ ⟨by omega, by have := cl_lt K'; omega⟩ (kc_inj h1)
  omega
set_option maxHeartbeats 1000000 in
theorem mod_digit (n i : Nat) (h : i < 31) : ((n % 452312848583266388373324160190187140051835877600158453279131187530910662656 : Nat) : Int) / 256 ^ i % 256 = (n : Int) / 256 ^ i % 256 := by
  have e : ((n % 452312848583266388373324160190187140051835877600158453279131187530910662656 : Nat) : Int) = (n : Int) % 452312848583266388373324160190187140051835877600158453279131187530910662656 := by omega
  rw [e]
  generalize (n : Int) = m
  rcases (show i = 0 ∨ i = 1 ∨ i = 2 ∨ i = 3 ∨ i = 4 ∨ i = 5 ∨ i = 6 ∨ i = 7 ∨ i = 8 ∨ i = 9 ∨ i = 10 ∨ i = 11 ∨ i = 12 ∨ i = 13 ∨ i = 14 ∨ i = 15 ∨ i = 16 ∨ i = 17 ∨ i = 18 ∨ i = 19 ∨ i = 20 ∨ i = 21 ∨ i = 22 ∨ i = 23 ∨ i = 24 ∨ i = 25 ∨ i = 26 ∨ i = 27 ∨ i = 28 ∨ i = 29 ∨ i = 30 by omega) with rfl | rfl | rfl | rfl | rfl | rfl | rfl | rfl | rfl | rfl | rfl | rfl | rfl | rfl | rfl | rfl | rfl | rfl | rfl | rfl | rfl | rfl | rfl | rfl | rfl | rfl | rfl | rfl | rfl | rfl | rfl
  · rw [show (256 : Int) ^ 0 = 1 from by decide]
    omega
  · rw [show (256 : Int) ^ 1 = 256 from by decide]
    omega
  · rw [show (256 : Int) ^ 2 = 65536 from by decide]
    omega
  · rw [show (256 : Int) ^ 3 = 16777216 from by decide]
    omega
  · rw [show (256 : Int) ^ 4 = 4294967296 from by decide]
    omega
  · rw [show (256 : Int) ^ 5 = 1099511627776 from by decide]
    omega
  · rw [show (256 : Int) ^ 6 = 281474976710656 from by decide]
    omega
  · rw [show (256 : Int) ^ 7 = 72057594037927936 from by decide]
    omega
  · rw [show (256 : Int) ^ 8 = 18446744073709551616 from by decide]
    omega
  · rw [show (256 : Int) ^ 9 = 4722366482869645213696 from by decide]
    omega
  · rw [show (256 : Int) ^ 10 = 1208925819614629174706176 from by decide]
    omega
  · rw [show (256 : Int) ^ 11 = 309485009821345068724781056 from by decide]
    omega
  · rw [show (256 : Int) ^ 12 = 79228162514264337593543950336 from by decide]
    omega
  · rw [show (256 : Int) ^ 13 = 20282409603651670423947251286016 from by decide]
    omega
  · rw [show (256 : Int) ^ 14 = 5192296858534827628530496329220096 from by decide]
    omega
  · rw [show (256 : Int) ^ 15 = 1329227995784915872903807060280344576 from by decide]
    omega
  · rw [show (256 : Int) ^ 16 = 340282366920938463463374607431768211456 from by decide]
    omega
  · rw [show (256 : Int) ^ 17 = 87112285931760246646623899502532662132736 from by decide]
    omega
  · rw [show (256 : Int) ^ 18 = 22300745198530623141535718272648361505980416 from by decide]
    omega
  · rw [show (256 : Int) ^ 19 = 5708990770823839524233143877797980545530986496 from by decide]
    omega
  · rw [show (256 : Int) ^ 20 = 1461501637330902918203684832716283019655932542976 from by decide]
    omega
  · rw [show (256 : Int) ^ 21 = 374144419156711147060143317175368453031918731001856 from by decide]
    omega
  · rw [show (256 : Int) ^ 22 = 95780971304118053647396689196894323976171195136475136 from by decide]
    omega
  · rw [show (256 : Int) ^ 23 = 24519928653854221733733552434404946937899825954937634816 from by decide]
    omega
  · rw [show (256 : Int) ^ 24 = 6277101735386680763835789423207666416102355444464034512896 from by decide]
    omega
  · rw [show (256 : Int) ^ 25 = 1606938044258990275541962092341162602522202993782792835301376 from by decide]
    omega
  · rw [show (256 : Int) ^ 26 = 411376139330301510538742295639337626245683966408394965837152256 from by decide]
    omega
  · rw [show (256 : Int) ^ 27 = 105312291668557186697918027683670432318895095400549111254310977536 from by decide]
    omega
  · rw [show (256 : Int) ^ 28 = 26959946667150639794667015087019630673637144422540572481103610249216 from by decide]
    omega
  · rw [show (256 : Int) ^ 29 = 6901746346790563787434755862277025452451108972170386555162524223799296 from by decide]
    omega
  · rw [show (256 : Int) ^ 30 = 1766847064778384329583297500742918515827483896875618958121606201292619776 from by decide]
    omega
theorem mod_top (n : Nat) : ((n % 452312848583266388373324160190187140051835877600158453279131187530910662656 : Nat) : Int) / 256 ^ 31 % 256 = 0 := by
  rw [show (256 : Int) ^ 31 = 452312848583266388373324160190187140051835877600158453279131187530910662656 from by decide]
  omega
theorem digs_eq {n m : Int} (h : ∀ i, i < 32 → n / 256 ^ i % 256 = m / 256 ^ i % 256) : digs n 32 = digs m 32 := by
  unfold digs
  apply List.map_congr_left
  intro i hi
  have hi' : i < 32 := List.mem_range.1 hi
  rw [if_pos hi', if_pos hi', h i hi']
/-- a key that is turned in its highest bit alone -/
theorem turn_place (U : Nat) (b : Int) (hb : 0 ≤ b ∧ b < 256) (eb : b % 128 = (U : Int) / 256 ^ 31 % 256 % 128) :
    ∃ U' : Nat, U' < 115792089237316195423570985008687907853269984665640564039457584007913129639936 ∧ (kc (digs (U : Int) 32)).setIfInBounds 31 (.int .u8 b) = kc (digs (U' : Int) 32) ∧ U' % 57896044618658097711785492504343953926634992332820282019728792003956564819968 = U % 57896044618658097711785492504343953926634992332820282019728792003956564819968 := by
  rw [kc_set]
  obtain ⟨n, hn, hl⟩ := key_num ((digs (U : Int) 32).set 31 b) (by rw [List.length_set, digs_len]) (set_byte (fun x hx => digs_byte _ hx) _ _ hb)
  obtain ⟨U', rfl⟩ := Int.eq_ofNat_of_zero_le hn.1
  refine ⟨U', by have := hn.2; omega, by rw [hl], ?_⟩
  have h31 : (U' : Int) / 256 ^ 31 % 256 = b := by
    rw [← digs_getD _ 31 (by omega), ← hl]
    simp [List.getD, digs_len]
  have hlow : ∀ i, i < 31 → (U' : Int) / 256 ^ i % 256 = (U : Int) / 256 ^ i % 256 := by
    intro i hi
    rw [← digs_getD _ i (by omega), ← hl, ← digs_getD _ i (by omega)]
    simp only [List.getD, List.getElem?_set_ne (show 31 ≠ i by omega)]
  have h1 : U' % 452312848583266388373324160190187140051835877600158453279131187530910662656 = U % 452312848583266388373324160190187140051835877600158453279131187530910662656 := by
    have := digs_inj ((U' % 452312848583266388373324160190187140051835877600158453279131187530910662656 : Nat) : Int) ((U % 452312848583266388373324160190187140051835877600158453279131187530910662656 : Nat) : Int) ⟨by omega, by omega⟩ ⟨by omega, by omega⟩ (digs_eq fun i hi => by
      rcases Nat.lt_or_ge i 31 with h | h
      · rw [mod_digit _ i h, mod_digit _ i h, hlow i h]
      · obtain rfl : i = 31 := by omega
        rw [mod_top, mod_top])
    omega
  rw [show (256 : Int) ^ 31 = 452312848583266388373324160190187140051835877600158453279131187530910662656 from by decide] at h31 eb
  omega
end Go.Proofs.YtgabkfleidpipaaDoor.Cv
