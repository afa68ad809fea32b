/-
  Contracts of capdec's word (its fields, its numbers); what a word of layer 9 is, as the document says it, as a function on numbers. No condition.
-/
import Derived.Test.YtlfeandnpflaaaaDoorIRead
namespace Go.Proofs.YtlfeandnpflaaaaDoor
open Go.ChangeShapes Go.WideShapes Go.ChangeAt Go.RowKit
set_option linter.unusedVariables false
set_option linter.unusedSimpArgs false

theorem wrapsu (n : Int) (h0 : 0 ≤ n) (h1 : n < 2 ^ 32) : IntKind.u32.wrap n = n := by rw [IntKind.wrap_u32]; omega
theorem andu (k : Nat) (m n : Int) (hm : (2 : Int) ^ k = m) (hn : n + 1 = m) (hk : k ≤ 32) (x : Int) (h0 : 0 ≤ x) (h1 : x < 4294967296) : bits .and .u32 x n = x % m := by
  have e : n = 2 ^ k - 1 := by omega
  subst hm e; exact bits_mask .u32 32 (by decide) wrapsu k hk x h0 (by omega)
theorem dop_w (x : Int) (x0 : 0 ≤ x) (x1 : x < 4294967296) (w : World) :
    Calls Tryd.prog 50 #[.int .u32 x] w fun e w' => e = .returned (.int .i64 (fl x 1 128)) ∧ w = w' := by
  go_enter Tryd.func50, Tryd.ntmps50
  go_wp2
  go_ret
  exact ⟨ret_int (by unfold fl; first | (rw [andu 7 128 127 (by decide) (by omega) (by omega) _ (by omega) (by omega)]; unfold wrap64; omega) | rw [andu 7 128 127 (by decide) (by omega) (by omega) _ (by omega) (by omega), Int.ediv_one]; unfold wrap64; omega), rfl⟩
theorem drd_w (x : Int) (x0 : 0 ≤ x) (x1 : x < 4294967296) (w : World) :
    Calls Tryd.prog 51 #[.int .u32 x] w fun e w' => e = .returned (.int .i64 (fl x 128 32)) ∧ w = w' := by
  go_enter Tryd.func51, Tryd.ntmps51
  go_wp2
  go_ret
  exact ⟨ret_int (by unfold fl; first | (rw [andu 5 32 31 (by decide) (by omega) (by omega) _ (by omega) (by omega)]; unfold wrap64; omega) | rw [andu 5 32 31 (by decide) (by omega) (by omega) _ (by omega) (by omega), Int.ediv_one]; unfold wrap64; omega), rfl⟩
theorem df3_w (x : Int) (x0 : 0 ≤ x) (x1 : x < 4294967296) (w : World) :
    Calls Tryd.prog 54 #[.int .u32 x] w fun e w' => e = .returned (.int .i64 (fl x 4096 8)) ∧ w = w' := by
  go_enter Tryd.func54, Tryd.ntmps54
  go_wp2
  go_ret
  exact ⟨ret_int (by unfold fl; first | (rw [andu 3 8 7 (by decide) (by omega) (by omega) _ (by omega) (by omega)]; unfold wrap64; omega) | rw [andu 3 8 7 (by decide) (by omega) (by omega) _ (by omega) (by omega), Int.ediv_one]; unfold wrap64; omega), rfl⟩
theorem drs1_w (x : Int) (x0 : 0 ≤ x) (x1 : x < 4294967296) (w : World) :
    Calls Tryd.prog 52 #[.int .u32 x] w fun e w' => e = .returned (.int .i64 (fl x 32768 32)) ∧ w = w' := by
  go_enter Tryd.func52, Tryd.ntmps52
  go_wp2
  go_ret
  exact ⟨ret_int (by unfold fl; first | (rw [andu 5 32 31 (by decide) (by omega) (by omega) _ (by omega) (by omega)]; unfold wrap64; omega) | rw [andu 5 32 31 (by decide) (by omega) (by omega) _ (by omega) (by omega), Int.ediv_one]; unfold wrap64; omega), rfl⟩
theorem drs2_w (x : Int) (x0 : 0 ≤ x) (x1 : x < 4294967296) (w : World) :
    Calls Tryd.prog 55 #[.int .u32 x] w fun e w' => e = .returned (.int .i64 (fl x 1048576 32)) ∧ w = w' := by
  go_enter Tryd.func55, Tryd.ntmps55
  go_wp2
  go_ret
  exact ⟨ret_int (by unfold fl; first | (rw [andu 5 32 31 (by decide) (by omega) (by omega) _ (by omega) (by omega)]; unfold wrap64; omega) | rw [andu 5 32 31 (by decide) (by omega) (by omega) _ (by omega) (by omega), Int.ediv_one]; unfold wrap64; omega), rfl⟩
theorem df7_w (x : Int) (x0 : 0 ≤ x) (x1 : x < 4294967296) (w : World) :
    Calls Tryd.prog 97 #[.int .u32 x] w fun e w' => e = .returned (.int .i64 (fl x 33554432 128)) ∧ w = w' := by
  go_enter Tryd.func97, Tryd.ntmps97
  go_wp2
  go_ret
  exact ⟨ret_int (by unfold fl; first | (rw [andu 7 128 127 (by decide) (by omega) (by omega) _ (by omega) (by omega)]; unfold wrap64; omega) | rw [andu 7 128 127 (by decide) (by omega) (by omega) _ (by omega) (by omega), Int.ediv_one]; unfold wrap64; omega), rfl⟩
theorem dfield_31_20 (x : Int) (x0 : 0 ≤ x) (x1 : x < 4294967296) (w : World) :
    Calls Tryd.prog 92 #[.int .u32 x, .int .u64 31, .int .u64 20] w fun e w' => e = .returned (.int .i64 (fl x 1048576 4096)) ∧ w = w' := by
  go_enter Tryd.func92, Tryd.ntmps92
  go_wp2
  go_ret
  exact ⟨ret_int (by unfold fl; rw [andu 12 4096 4095 (by decide) (by omega) (by omega) _ (by omega) (by omega)]; unfold wrap64; omega), rfl⟩
theorem dimmI_w (x : Int) (x0 : 0 ≤ x) (x1 : x < 4294967296) (w : World) :
    Calls Tryd.prog 53 #[.int .u32 x] w fun e w' => e = .returned (.int .i64 (iI x)) ∧ w = w' := by
  go_enter Tryd.func53, Tryd.ntmps53
  go_wp2
  go_ret
  exact ⟨ret_int (iI_eq x x0 x1), rfl⟩
theorem diS_eq (x : Int) (x0 : 0 ≤ x) (x1 : x < 4294967296) : bits .or .i64 (wrap64 (wrap64 (wrap32 x / 33554432) * 32)) (fl x 128 32) = iS x := by
  rw [← iS_eq x x0 x1, show x * 1048576 % 4294967296 / 134217728 = fl x 128 32 by unfold fl; omega]
theorem dimmS_w (x : Int) (x0 : 0 ≤ x) (x1 : x < 4294967296) (w : World) :
    Calls Tryd.prog 56 #[.int .u32 x] w fun e w' => e = .returned (.int .i64 (iS x)) ∧ w = w' := by
  go_enter Tryd.func56, Tryd.ntmps56
  go_wp2
  go_ret
  exact ⟨ret_int (by rw [andu 5 32 31 (by decide) (by omega) (by omega) _ (by omega) (by omega), show wrap64 (x / 128 % 32) = fl x 128 32 by unfold wrap64 fl; omega]; exact diS_eq x x0 x1), rfl⟩
/-- What may be asked of one; what may be done with two; how may be stored. -/
def getB (n : Int) : Bool := decide (n ≤ 11) || n == 15 || n == 17 || n == 24
def twoB (n : Int) : Bool := n == 8 || n == 9 || n == 11 || n == 12 || n == 13 || n == 14 || n == 15 || n == 16 || n == 17 || n == 18 || n == 19 || n == 20 || n == 29 || n == 30 || n == 32
def stoB (n : Int) : Bool := decide (n ≤ 3) || n == 7 || n == 8 || n == 9 || n == 10 || n == 11 || n == 15
def dsOne (x : Int) : Option Ins := if (fl x 1048576 32) = 12 then some ⟨26, 0, (fl x 128 32), (fl x 32768 32), 0, 0, 0, false, false⟩
  else if getB (fl x 1048576 32) then some ⟨23, (fl x 1048576 32), (fl x 128 32), (fl x 32768 32), 0, 0, 0, false, false⟩ else none
def dsLoad (x : Int) : Option Ins := if (fl x 1048576 32) < 16 then some ⟨28, 0, (fl x 128 32), (fl x 32768 32), 0, 0, (fl x 1048576 32) % 8, false, decide (8 ≤ (fl x 1048576 32))⟩ else none
def dsStore (x : Int) : Option Ins := if stoB (fl x 128 32) then some ⟨29, 0, 0, (fl x 32768 32), (fl x 1048576 32), 0, (fl x 128 32) % 8, false, decide (8 ≤ (fl x 128 32))⟩ else none
def dsReg (x : Int) : Option Ins :=
  if (fl x 33554432 128) = 1 then some ⟨27, 0, (fl x 128 32), (fl x 32768 32), 0, (fl x 1048576 32), 0, false, false⟩
  else if twoB (fl x 33554432 128) then some ⟨24, (fl x 33554432 128), (fl x 128 32), (fl x 32768 32), (fl x 1048576 32), 0, 0, false, false⟩
  else if (fl x 33554432 128) = 124 then dsStore x else if (fl x 33554432 128) = 125 then dsLoad x else if (fl x 33554432 128) = 127 then dsOne x else none
def dsCap (x : Int) : Option Ins :=
  if (fl x 4096 8) = 0 then dsReg x
  else if (fl x 4096 8) = 1 then some ⟨25, 1, (fl x 128 32), (fl x 32768 32), 0, iI x, 0, false, false⟩
  else if (fl x 4096 8) = 2 then some ⟨25, 2, (fl x 128 32), (fl x 32768 32), 0, fl x 1048576 4096, 0, false, false⟩ else none
def dspec (x : Int) : Option Ins :=
  if (fl x 1 128) = 15 then (if (fl x 4096 8) = 2 then some ⟨6, 0, (fl x 128 32), (fl x 32768 32), 0, iI x, 7, false, false⟩ else none)
  else if (fl x 1 128) = 35 then (if (fl x 4096 8) = 4 then some ⟨7, 0, 0, (fl x 32768 32), (fl x 1048576 32), iS x, 7, false, false⟩ else none)
  else if (fl x 1 128) = 91 then dsCap x else none
end Go.Proofs.YtlfeandnpflaaaaDoor
