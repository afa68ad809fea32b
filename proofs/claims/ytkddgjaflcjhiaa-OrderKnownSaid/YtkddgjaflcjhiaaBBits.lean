/-
  The contract of math/bits.Len64: how many bits a number of 64 bits has. No condition.
-/
import Derived.Test.YtkddgjaflcjhiaaRet
import Derived.Lib.BitFns
import Derived.Lib.Small
import Derived.Lib.Strings
import Derived.Lib.Slices
import Derived.Lib.Walk
namespace Go.Proofs.Ytkddgjaflcjhiaa
open Go.ChangeShapes Go.WideShapes Go.ChangeAt Go.RowKit
set_option linter.unusedVariables false
set_option linter.unusedSimpArgs false

theorem tab_get (i : Int) (h : i.toNat < Lib.len8tab.size) : ((Lib.len8tab[i.toNat]'h).toNat : Int) = Lib.len8 i := by
  simp only [Lib.len8, ByteArray.getElem?_lt' _ _ h, Option.getD_some]
theorem tab_in (i : Int) (h0 : 0 ≤ i) (h1 : i < 256) (h : ¬ (0 ≤ i ∧ i < (Lib.len8tab.size : Int))) : False := by
  rw [Lib.len8tab_size] at h; omega
theorem tab_in' (i : Int) (h1 : i < 256) (h : ¬ i < (Lib.len8tab.size : Int)) : False := by
  rw [Lib.len8tab_size] at h; omega
set_option maxHeartbeats 4000000 in
set_option maxRecDepth 100000 in
theorem bitLen_w (x : Int) (h0 : 0 ≤ x) (h1 : x ≤ 18446744073709551615) (w : World) :
    Calls Try.prog 44 #[.int .u64 x] w fun e w' => e = .returned (.int .i64 (Lib.bitLen x.toNat)) ∧ w = w' := by
  go_enter Try.func44, Try.ntmps44
  go_wp2
  all_goals first
    | (exfalso; refine tab_in _ ?_ ?_ (by assumption) <;> omega)
    | (exfalso; refine tab_in' _ ?_ (by assumption) <;> omega)
    | (go_ret; refine ⟨ret_int ?_, rfl⟩)
  all_goals first
    | (have l := Lib.bitLen_le8' (x / 4294967296 / 65536 / 256) (by omega) (by omega); have s := Lib.bitLen_shift56 x.toNat (by omega) (by omega); rw [tab_get (x / 4294967296 / 65536 / 256), Lib.len8_of (x / 4294967296 / 65536 / 256) (by omega) (by omega), show (x / 4294967296 / 65536 / 256).toNat = x.toNat / 72057594037927936 by omega]; rw [show (x / 4294967296 / 65536 / 256).toNat = x.toNat / 72057594037927936 by omega] at l; unfold wrap64; omega)
    | (have l := Lib.bitLen_le8' (x / 4294967296 / 65536) (by omega) (by omega); have s := Lib.bitLen_shift48 x.toNat (by omega) (by omega); rw [tab_get (x / 4294967296 / 65536), Lib.len8_of (x / 4294967296 / 65536) (by omega) (by omega), show (x / 4294967296 / 65536).toNat = x.toNat / 281474976710656 by omega]; rw [show (x / 4294967296 / 65536).toNat = x.toNat / 281474976710656 by omega] at l; unfold wrap64; omega)
    | (have l := Lib.bitLen_le8' (x / 4294967296 / 256) (by omega) (by omega); have s := Lib.bitLen_shift40 x.toNat (by omega) (by omega); rw [tab_get (x / 4294967296 / 256), Lib.len8_of (x / 4294967296 / 256) (by omega) (by omega), show (x / 4294967296 / 256).toNat = x.toNat / 1099511627776 by omega]; rw [show (x / 4294967296 / 256).toNat = x.toNat / 1099511627776 by omega] at l; unfold wrap64; omega)
    | (have l := Lib.bitLen_le8' (x / 4294967296) (by omega) (by omega); have s := Lib.bitLen_shift32 x.toNat (by omega) (by omega); rw [tab_get (x / 4294967296), Lib.len8_of (x / 4294967296) (by omega) (by omega), show (x / 4294967296).toNat = x.toNat / 4294967296 by omega]; rw [show (x / 4294967296).toNat = x.toNat / 4294967296 by omega] at l; unfold wrap64; omega)
    | (have l := Lib.bitLen_le8' (x / 65536 / 256) (by omega) (by omega); have s := Lib.bitLen_shift24 x.toNat (by omega) (by omega); rw [tab_get (x / 65536 / 256), Lib.len8_of (x / 65536 / 256) (by omega) (by omega), show (x / 65536 / 256).toNat = x.toNat / 16777216 by omega]; rw [show (x / 65536 / 256).toNat = x.toNat / 16777216 by omega] at l; unfold wrap64; omega)
    | (have l := Lib.bitLen_le8' (x / 65536) (by omega) (by omega); have s := Lib.bitLen_shift16 x.toNat (by omega) (by omega); rw [tab_get (x / 65536), Lib.len8_of (x / 65536) (by omega) (by omega), show (x / 65536).toNat = x.toNat / 65536 by omega]; rw [show (x / 65536).toNat = x.toNat / 65536 by omega] at l; unfold wrap64; omega)
    | (have l := Lib.bitLen_le8' (x / 256) (by omega) (by omega); have s := Lib.bitLen_shift8 x.toNat (by omega) (by omega); rw [tab_get (x / 256), Lib.len8_of (x / 256) (by omega) (by omega), show (x / 256).toNat = x.toNat / 256 by omega]; rw [show (x / 256).toNat = x.toNat / 256 by omega] at l; unfold wrap64; omega)
    | (have l := Lib.bitLen_le8' x (by omega) (by omega); rw [tab_get x, Lib.len8_of x (by omega) (by omega)]; unfold wrap64; omega)
end Go.Proofs.Ytkddgjaflcjhiaa
