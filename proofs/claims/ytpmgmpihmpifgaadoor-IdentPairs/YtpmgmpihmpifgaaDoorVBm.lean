/-
  The bytes of the number of five limbs.
-/
import Derived.Test.YtpmgmpihmpifgaaDoorVKey
namespace Go.Proofs.YtpmgmpihmpifgaaDoor.Cv
open Go.RowKit

/-- five digits, each below 2^51, of the number v -/
def Dg (y0 y1 y2 y3 y4 v : Int) : Prop := ((0 ≤ y0 ∧ y0 < 2251799813685248) ∧ (0 ≤ y1 ∧ y1 < 2251799813685248) ∧ (0 ≤ y2 ∧ y2 < 2251799813685248) ∧ (0 ≤ y3 ∧ y3 < 2251799813685248) ∧ (0 ≤ y4 ∧ y4 < 2251799813685248)) ∧ val y0 y1 y2 y3 y4 = v

theorem bm0 {y0 y1 y2 y3 y4 v : Int} (h : Dg y0 y1 y2 y3 y4 v) : bits .or .u64 (y0) (IntKind.u64.wrap (y1 * 2251799813685248)) % 256 = v / 256 ^ 0 % 256 := by
  rw [show (256 : Int) ^ 0 = 1 from rfl]
  obtain ⟨⟨b0, b1, b2, b3, b4⟩, hv⟩ := h
  unfold val at hv
  rw [or_byte 51 2251799813685248 8192 (y0) y1 (by decide) (by omega) (by decide) (by decide) (by decide) (by omega), ← hv]
  omega
theorem bm1 {y0 y1 y2 y3 y4 v : Int} (h : Dg y0 y1 y2 y3 y4 v) : bits .or .u64 (y0 / 256) (IntKind.u64.wrap (y1 * 8796093022208)) % 256 = v / 256 ^ 1 % 256 := by
  rw [show (256 : Int) ^ 1 = 256 from by decide]
  obtain ⟨⟨b0, b1, b2, b3, b4⟩, hv⟩ := h
  unfold val at hv
  rw [or_byte 43 8796093022208 2097152 (y0 / 256) y1 (by decide) (by omega) (by decide) (by decide) (by decide) (by omega), ← hv]
  omega
theorem bm2 {y0 y1 y2 y3 y4 v : Int} (h : Dg y0 y1 y2 y3 y4 v) : bits .or .u64 (y0 / 65536) (IntKind.u64.wrap (y1 * 34359738368)) % 256 = v / 256 ^ 2 % 256 := by
  rw [show (256 : Int) ^ 2 = 65536 from by decide]
  obtain ⟨⟨b0, b1, b2, b3, b4⟩, hv⟩ := h
  unfold val at hv
  rw [or_byte 35 34359738368 536870912 (y0 / 65536) y1 (by decide) (by omega) (by decide) (by decide) (by decide) (by omega), ← hv]
  omega
theorem bm3 {y0 y1 y2 y3 y4 v : Int} (h : Dg y0 y1 y2 y3 y4 v) : bits .or .u64 (y0 / 16777216) (IntKind.u64.wrap (y1 * 134217728)) % 256 = v / 256 ^ 3 % 256 := by
  rw [show (256 : Int) ^ 3 = 16777216 from by decide]
  obtain ⟨⟨b0, b1, b2, b3, b4⟩, hv⟩ := h
  unfold val at hv
  rw [or_byte 27 134217728 137438953472 (y0 / 16777216) y1 (by decide) (by omega) (by decide) (by decide) (by decide) (by omega), ← hv]
  omega
theorem bm4 {y0 y1 y2 y3 y4 v : Int} (h : Dg y0 y1 y2 y3 y4 v) : bits .or .u64 (y0 / 4294967296) (IntKind.u64.wrap (y1 * 524288)) % 256 = v / 256 ^ 4 % 256 := by
  rw [show (256 : Int) ^ 4 = 4294967296 from by decide]
  obtain ⟨⟨b0, b1, b2, b3, b4⟩, hv⟩ := h
  unfold val at hv
  rw [or_byte 19 524288 35184372088832 (y0 / 4294967296) y1 (by decide) (by omega) (by decide) (by decide) (by decide) (by omega), ← hv]
  omega
theorem bm5 {y0 y1 y2 y3 y4 v : Int} (h : Dg y0 y1 y2 y3 y4 v) : bits .or .u64 (y0 / 1099511627776) (IntKind.u64.wrap (y1 * 2048)) % 256 = v / 256 ^ 5 % 256 := by
  rw [show (256 : Int) ^ 5 = 1099511627776 from by decide]
  obtain ⟨⟨b0, b1, b2, b3, b4⟩, hv⟩ := h
  unfold val at hv
  rw [or_byte 11 2048 9007199254740992 (y0 / 1099511627776) y1 (by decide) (by omega) (by decide) (by decide) (by decide) (by omega), ← hv]
  omega
theorem bm6 {y0 y1 y2 y3 y4 v : Int} (h : Dg y0 y1 y2 y3 y4 v) : bits .or .u64 (y0 / 281474976710656) (IntKind.u64.wrap (y1 * 8)) % 256 = v / 256 ^ 6 % 256 := by
  rw [show (256 : Int) ^ 6 = 281474976710656 from by decide]
  obtain ⟨⟨b0, b1, b2, b3, b4⟩, hv⟩ := h
  unfold val at hv
  rw [or_byte 3 8 2305843009213693952 (y0 / 281474976710656) y1 (by decide) (by omega) (by decide) (by decide) (by decide) (by omega), ← hv]
  omega
theorem bm7 {y0 y1 y2 y3 y4 v : Int} (h : Dg y0 y1 y2 y3 y4 v) : bits .or .u64 (y1 / 32) (IntKind.u64.wrap (y2 * 70368744177664)) % 256 = v / 256 ^ 7 % 256 := by
  rw [show (256 : Int) ^ 7 = 72057594037927936 from by decide]
  obtain ⟨⟨b0, b1, b2, b3, b4⟩, hv⟩ := h
  unfold val at hv
  rw [or_byte 46 70368744177664 262144 (y1 / 32) y2 (by decide) (by omega) (by decide) (by decide) (by decide) (by omega), ← hv]
  omega
theorem bm8 {y0 y1 y2 y3 y4 v : Int} (h : Dg y0 y1 y2 y3 y4 v) : bits .or .u64 (y1 / 8192) (IntKind.u64.wrap (y2 * 274877906944)) % 256 = v / 256 ^ 8 % 256 := by
  rw [show (256 : Int) ^ 8 = 18446744073709551616 from by decide]
  obtain ⟨⟨b0, b1, b2, b3, b4⟩, hv⟩ := h
  unfold val at hv
  rw [or_byte 38 274877906944 67108864 (y1 / 8192) y2 (by decide) (by omega) (by decide) (by decide) (by decide) (by omega), ← hv]
  omega
theorem bm9 {y0 y1 y2 y3 y4 v : Int} (h : Dg y0 y1 y2 y3 y4 v) : bits .or .u64 (y1 / 2097152) (IntKind.u64.wrap (y2 * 1073741824)) % 256 = v / 256 ^ 9 % 256 := by
  rw [show (256 : Int) ^ 9 = 4722366482869645213696 from by decide]
  obtain ⟨⟨b0, b1, b2, b3, b4⟩, hv⟩ := h
  unfold val at hv
  rw [or_byte 30 1073741824 17179869184 (y1 / 2097152) y2 (by decide) (by omega) (by decide) (by decide) (by decide) (by omega), ← hv]
  omega
theorem bm10 {y0 y1 y2 y3 y4 v : Int} (h : Dg y0 y1 y2 y3 y4 v) : bits .or .u64 (y1 / 536870912) (IntKind.u64.wrap (y2 * 4194304)) % 256 = v / 256 ^ 10 % 256 := by
  rw [show (256 : Int) ^ 10 = 1208925819614629174706176 from by decide]
  obtain ⟨⟨b0, b1, b2, b3, b4⟩, hv⟩ := h
  unfold val at hv
  rw [or_byte 22 4194304 4398046511104 (y1 / 536870912) y2 (by decide) (by omega) (by decide) (by decide) (by decide) (by omega), ← hv]
  omega
theorem bm11 {y0 y1 y2 y3 y4 v : Int} (h : Dg y0 y1 y2 y3 y4 v) : bits .or .u64 (y1 / 137438953472) (IntKind.u64.wrap (y2 * 16384)) % 256 = v / 256 ^ 11 % 256 := by
  rw [show (256 : Int) ^ 11 = 309485009821345068724781056 from by decide]
  obtain ⟨⟨b0, b1, b2, b3, b4⟩, hv⟩ := h
  unfold val at hv
  rw [or_byte 14 16384 1125899906842624 (y1 / 137438953472) y2 (by decide) (by omega) (by decide) (by decide) (by decide) (by omega), ← hv]
  omega
theorem bm12 {y0 y1 y2 y3 y4 v : Int} (h : Dg y0 y1 y2 y3 y4 v) : bits .or .u64 (y1 / 35184372088832) (IntKind.u64.wrap (y2 * 64)) % 256 = v / 256 ^ 12 % 256 := by
  rw [show (256 : Int) ^ 12 = 79228162514264337593543950336 from by decide]
  obtain ⟨⟨b0, b1, b2, b3, b4⟩, hv⟩ := h
  unfold val at hv
  rw [or_byte 6 64 288230376151711744 (y1 / 35184372088832) y2 (by decide) (by omega) (by decide) (by decide) (by decide) (by omega), ← hv]
  omega
theorem bm13 {y0 y1 y2 y3 y4 v : Int} (h : Dg y0 y1 y2 y3 y4 v) : bits .or .u64 (y2 / 4) (IntKind.u64.wrap (y3 * 562949953421312)) % 256 = v / 256 ^ 13 % 256 := by
  rw [show (256 : Int) ^ 13 = 20282409603651670423947251286016 from by decide]
  obtain ⟨⟨b0, b1, b2, b3, b4⟩, hv⟩ := h
  unfold val at hv
  rw [or_byte 49 562949953421312 32768 (y2 / 4) y3 (by decide) (by omega) (by decide) (by decide) (by decide) (by omega), ← hv]
  omega
theorem bm14 {y0 y1 y2 y3 y4 v : Int} (h : Dg y0 y1 y2 y3 y4 v) : bits .or .u64 (y2 / 1024) (IntKind.u64.wrap (y3 * 2199023255552)) % 256 = v / 256 ^ 14 % 256 := by
  rw [show (256 : Int) ^ 14 = 5192296858534827628530496329220096 from by decide]
  obtain ⟨⟨b0, b1, b2, b3, b4⟩, hv⟩ := h
  unfold val at hv
  rw [or_byte 41 2199023255552 8388608 (y2 / 1024) y3 (by decide) (by omega) (by decide) (by decide) (by decide) (by omega), ← hv]
  omega
theorem bm15 {y0 y1 y2 y3 y4 v : Int} (h : Dg y0 y1 y2 y3 y4 v) : bits .or .u64 (y2 / 262144) (IntKind.u64.wrap (y3 * 8589934592)) % 256 = v / 256 ^ 15 % 256 := by
  rw [show (256 : Int) ^ 15 = 1329227995784915872903807060280344576 from by decide]
  obtain ⟨⟨b0, b1, b2, b3, b4⟩, hv⟩ := h
  unfold val at hv
  rw [or_byte 33 8589934592 2147483648 (y2 / 262144) y3 (by decide) (by omega) (by decide) (by decide) (by decide) (by omega), ← hv]
  omega
theorem bm16 {y0 y1 y2 y3 y4 v : Int} (h : Dg y0 y1 y2 y3 y4 v) : bits .or .u64 (y2 / 67108864) (IntKind.u64.wrap (y3 * 33554432)) % 256 = v / 256 ^ 16 % 256 := by
  rw [show (256 : Int) ^ 16 = 340282366920938463463374607431768211456 from by decide]
  obtain ⟨⟨b0, b1, b2, b3, b4⟩, hv⟩ := h
  unfold val at hv
  rw [or_byte 25 33554432 549755813888 (y2 / 67108864) y3 (by decide) (by omega) (by decide) (by decide) (by decide) (by omega), ← hv]
  omega
theorem bm17 {y0 y1 y2 y3 y4 v : Int} (h : Dg y0 y1 y2 y3 y4 v) : bits .or .u64 (y2 / 17179869184) (IntKind.u64.wrap (y3 * 131072)) % 256 = v / 256 ^ 17 % 256 := by
  rw [show (256 : Int) ^ 17 = 87112285931760246646623899502532662132736 from by decide]
  obtain ⟨⟨b0, b1, b2, b3, b4⟩, hv⟩ := h
  unfold val at hv
  rw [or_byte 17 131072 140737488355328 (y2 / 17179869184) y3 (by decide) (by omega) (by decide) (by decide) (by decide) (by omega), ← hv]
  omega
theorem bm18 {y0 y1 y2 y3 y4 v : Int} (h : Dg y0 y1 y2 y3 y4 v) : bits .or .u64 (y2 / 4398046511104) (IntKind.u64.wrap (y3 * 512)) % 256 = v / 256 ^ 18 % 256 := by
  rw [show (256 : Int) ^ 18 = 22300745198530623141535718272648361505980416 from by decide]
  obtain ⟨⟨b0, b1, b2, b3, b4⟩, hv⟩ := h
  unfold val at hv
  rw [or_byte 9 512 36028797018963968 (y2 / 4398046511104) y3 (by decide) (by omega) (by decide) (by decide) (by decide) (by omega), ← hv]
  omega
theorem bm19 {y0 y1 y2 y3 y4 v : Int} (h : Dg y0 y1 y2 y3 y4 v) : bits .or .u64 (y2 / 1125899906842624) (IntKind.u64.wrap (y3 * 2)) % 256 = v / 256 ^ 19 % 256 := by
  rw [show (256 : Int) ^ 19 = 5708990770823839524233143877797980545530986496 from by decide]
  obtain ⟨⟨b0, b1, b2, b3, b4⟩, hv⟩ := h
  unfold val at hv
  rw [or_byte 1 2 9223372036854775808 (y2 / 1125899906842624) y3 (by decide) (by omega) (by decide) (by decide) (by decide) (by omega), ← hv]
  omega
theorem bm20 {y0 y1 y2 y3 y4 v : Int} (h : Dg y0 y1 y2 y3 y4 v) : bits .or .u64 (y3 / 128) (IntKind.u64.wrap (y4 * 17592186044416)) % 256 = v / 256 ^ 20 % 256 := by
  rw [show (256 : Int) ^ 20 = 1461501637330902918203684832716283019655932542976 from by decide]
  obtain ⟨⟨b0, b1, b2, b3, b4⟩, hv⟩ := h
  unfold val at hv
  rw [or_byte 44 17592186044416 1048576 (y3 / 128) y4 (by decide) (by omega) (by decide) (by decide) (by decide) (by omega), ← hv]
  omega
theorem bm21 {y0 y1 y2 y3 y4 v : Int} (h : Dg y0 y1 y2 y3 y4 v) : bits .or .u64 (y3 / 32768) (IntKind.u64.wrap (y4 * 68719476736)) % 256 = v / 256 ^ 21 % 256 := by
  rw [show (256 : Int) ^ 21 = 374144419156711147060143317175368453031918731001856 from by decide]
  obtain ⟨⟨b0, b1, b2, b3, b4⟩, hv⟩ := h
  unfold val at hv
  rw [or_byte 36 68719476736 268435456 (y3 / 32768) y4 (by decide) (by omega) (by decide) (by decide) (by decide) (by omega), ← hv]
  omega
theorem bm22 {y0 y1 y2 y3 y4 v : Int} (h : Dg y0 y1 y2 y3 y4 v) : bits .or .u64 (y3 / 8388608) (IntKind.u64.wrap (y4 * 268435456)) % 256 = v / 256 ^ 22 % 256 := by
  rw [show (256 : Int) ^ 22 = 95780971304118053647396689196894323976171195136475136 from by decide]
  obtain ⟨⟨b0, b1, b2, b3, b4⟩, hv⟩ := h
  unfold val at hv
  rw [or_byte 28 268435456 68719476736 (y3 / 8388608) y4 (by decide) (by omega) (by decide) (by decide) (by decide) (by omega), ← hv]
  omega
theorem bm23 {y0 y1 y2 y3 y4 v : Int} (h : Dg y0 y1 y2 y3 y4 v) : bits .or .u64 (y3 / 2147483648) (IntKind.u64.wrap (y4 * 1048576)) % 256 = v / 256 ^ 23 % 256 := by
  rw [show (256 : Int) ^ 23 = 24519928653854221733733552434404946937899825954937634816 from by decide]
  obtain ⟨⟨b0, b1, b2, b3, b4⟩, hv⟩ := h
  unfold val at hv
  rw [or_byte 20 1048576 17592186044416 (y3 / 2147483648) y4 (by decide) (by omega) (by decide) (by decide) (by decide) (by omega), ← hv]
  omega
theorem bm24 {y0 y1 y2 y3 y4 v : Int} (h : Dg y0 y1 y2 y3 y4 v) : bits .or .u64 (y3 / 549755813888) (IntKind.u64.wrap (y4 * 4096)) % 256 = v / 256 ^ 24 % 256 := by
  rw [show (256 : Int) ^ 24 = 6277101735386680763835789423207666416102355444464034512896 from by decide]
  obtain ⟨⟨b0, b1, b2, b3, b4⟩, hv⟩ := h
  unfold val at hv
  rw [or_byte 12 4096 4503599627370496 (y3 / 549755813888) y4 (by decide) (by omega) (by decide) (by decide) (by decide) (by omega), ← hv]
  omega
theorem bm25 {y0 y1 y2 y3 y4 v : Int} (h : Dg y0 y1 y2 y3 y4 v) : bits .or .u64 (y3 / 140737488355328) (IntKind.u64.wrap (y4 * 16)) % 256 = v / 256 ^ 25 % 256 := by
  rw [show (256 : Int) ^ 25 = 1606938044258990275541962092341162602522202993782792835301376 from by decide]
  obtain ⟨⟨b0, b1, b2, b3, b4⟩, hv⟩ := h
  unfold val at hv
  rw [or_byte 4 16 1152921504606846976 (y3 / 140737488355328) y4 (by decide) (by omega) (by decide) (by decide) (by decide) (by omega), ← hv]
  omega
theorem bm26 {y0 y1 y2 y3 y4 v : Int} (h : Dg y0 y1 y2 y3 y4 v) : y4 / 16 % 256 = v / 256 ^ 26 % 256 := by
  rw [show (256 : Int) ^ 26 = 411376139330301510538742295639337626245683966408394965837152256 from by decide]
  obtain ⟨⟨b0, b1, b2, b3, b4⟩, hv⟩ := h
  unfold val at hv
  rw [← hv]
  omega
theorem bm27 {y0 y1 y2 y3 y4 v : Int} (h : Dg y0 y1 y2 y3 y4 v) : y4 / 4096 % 256 = v / 256 ^ 27 % 256 := by
  rw [show (256 : Int) ^ 27 = 105312291668557186697918027683670432318895095400549111254310977536 from by decide]
  obtain ⟨⟨b0, b1, b2, b3, b4⟩, hv⟩ := h
  unfold val at hv
  rw [← hv]
  omega
theorem bm28 {y0 y1 y2 y3 y4 v : Int} (h : Dg y0 y1 y2 y3 y4 v) : y4 / 1048576 % 256 = v / 256 ^ 28 % 256 := by
  rw [show (256 : Int) ^ 28 = 26959946667150639794667015087019630673637144422540572481103610249216 from by decide]
  obtain ⟨⟨b0, b1, b2, b3, b4⟩, hv⟩ := h
  unfold val at hv
  rw [← hv]
  omega
theorem bm29 {y0 y1 y2 y3 y4 v : Int} (h : Dg y0 y1 y2 y3 y4 v) : y4 / 268435456 % 256 = v / 256 ^ 29 % 256 := by
  rw [show (256 : Int) ^ 29 = 6901746346790563787434755862277025452451108972170386555162524223799296 from by decide]
  obtain ⟨⟨b0, b1, b2, b3, b4⟩, hv⟩ := h
  unfold val at hv
  rw [← hv]
  omega
theorem bm30 {y0 y1 y2 y3 y4 v : Int} (h : Dg y0 y1 y2 y3 y4 v) : y4 / 68719476736 % 256 = v / 256 ^ 30 % 256 := by
  rw [show (256 : Int) ^ 30 = 1766847064778384329583297500742918515827483896875618958121606201292619776 from by decide]
  obtain ⟨⟨b0, b1, b2, b3, b4⟩, hv⟩ := h
  unfold val at hv
  rw [← hv]
  omega
theorem bm31 {y0 y1 y2 y3 y4 v : Int} (h : Dg y0 y1 y2 y3 y4 v) : y4 / 17592186044416 % 256 = v / 256 ^ 31 % 256 := by
  rw [show (256 : Int) ^ 31 = 452312848583266388373324160190187140051835877600158453279131187530910662656 from by decide]
  obtain ⟨⟨b0, b1, b2, b3, b4⟩, hv⟩ := h
  unfold val at hv
  rw [← hv]
  omega
end Go.Proofs.YtpmgmpihmpifgaaDoor.Cv
