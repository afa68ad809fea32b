/-
  What the library's table for trailing noughts holds when a call begins (the rows list it, the cards tie it), and math/bits.TrailingZeros64 over it. No condition.
-/
import Derived.Test.YteebmikjikjhmaaDoorKp
import Derived.Lib.LaidTab
import Derived.MakeChecks
import Derived.Lib.TrailingZeros
import Derived.Laws.Bits64b
namespace Go.Proofs.YteebmikjikjhmaaDoor
open Go.ChangeShapes Go.WideShapes Go.ChangeAt Go.RowKit
set_option linter.unusedVariables false
set_option linter.unusedSimpArgs false
/-- The table, as integers. -/
def dbT : List Int := [0, 1, 56, 2, 57, 49, 28, 3, 61, 58, 42, 50, 38, 29, 17, 4, 62, 47, 59, 36, 45, 43, 51, 22, 53, 39, 33, 30, 24, 18, 12, 5, 63, 55, 48, 27, 60, 41, 37, 16, 46, 35, 44, 21, 52, 32, 23, 11, 54, 26, 40, 15, 34, 20, 31, 10, 25, 14, 19, 9, 13, 8, 7, 6]
/-- The table's cells. -/
structure Tb (w : World) : Prop where
  cell : ∀ i : Nat, i < 64 → w.cell? ⟨0, i, none⟩ = some (.int .u8 (dbT.getD i 0))
  lt : 0 < w.heap.size
theorem tab_size {w : World} {b o : Nat} {v : Value} (h : w.cell? ⟨b, o, none⟩ = some v) : b < w.heap.size := by
  rcases Nat.lt_or_ge b w.heap.size with l | l
  · exact l
  · simp [World.cell?, Array.getElem?_eq_none l] at h
theorem Tb.below {w w' : World} (h : Tb w) (k : Below w.heap.size w w') : Tb w' :=
  ⟨fun i hi => (k.cell (p := ⟨_, i, none⟩) h.lt).trans (h.cell i hi), Nat.lt_of_lt_of_le h.lt k.size⟩
theorem Tb.h1 {w w' : World} (h : Hid (Tb w)) (k : Hid (Below w.heap.size w w')) : Tb w' := h.out.below k.out
theorem tb_of_tab {W : World} {name : String} (hg : Tryd.prog.globalNamed name = some 0) (h : laidMet Tryd.prog [(name, Lib.tabData .u8 dbT)] W) : Tb W := by
  have t := Lib.tabIs_of_head hg (by kernel_rfl) Tryd.underlying67 Tryd.underlying5 (by kernel_rfl) (by kernel_rfl) h
  have c : ∀ i : Nat, i < 64 → W.cell? ⟨0, i, none⟩ = some (.int .u8 (dbT.getD i 0)) := fun i hi => t.cell hg i (by simpa [dbT] using hi)
  exact ⟨c, tab_size (c 0 (by decide))⟩
theorem tb_of_laid {W : World} {l : List (String × DataW Unit)} (e : l = [("math/bits.deBruijn64tab", Lib.tabData .u8 dbT)]) (h : laidMetH Tryd.prog l W) : Tb W := by
  rw [MakeChecks.laidMetH_plain _ _ _ (by rw [e]; rfl), e] at h
  exact tb_of_tab (by kernel_rfl) h
theorem tz_key (x a : Nat) (hx : x < 18446744073709551616) (hx0 : x ≠ 0) (hlow : x &&& (18446744073709551616 - x) = a) :
    IntKind.u64.wrap (bits BinOp.and IntKind.u64 (x : Int) (IntKind.u64.wrap (-(x : Int))) * 285870213051353865) / 288230376151711744 = ((a * 285870213051353865 % 18446744073709551616 / 288230376151711744 : Nat) : Int) := by
  have e1 : IntKind.u64.wrap (-(x : Int)) = ((18446744073709551616 - x : Nat) : Int) := by rw [IntKind.wrap_u64]; omega
  rw [e1, bits_and_u64_nat x _ hx (by omega), hlow, IntKind.wrap_u64]
  omega
theorem dbT_nat : ∀ i, i < 64 → dbT.getD i 0 = ((Lib.deBruijn64tab.getD i 0 : Nat) : Int) := by decide +kernel
theorem tz_core (x k idx : Nat) (w : World) (hx0 : ((x : Int) == 0) = false)
    (key : IntKind.u64.wrap (bits BinOp.and IntKind.u64 (x : Int) (IntKind.u64.wrap (-(x : Int))) * 285870213051353865) / 288230376151711744 = (idx : Int))
    (hi : idx < 64) (hk : k < 64) (hcell : w.cell? ⟨0, idx, none⟩ = some (.int .u8 k)) :
    Calls Tryd.prog 36 #[.int .u64 x] w fun e w' => e = .returned (.int .i64 k) ∧ w = w' := by
  go_enter Tryd.func36, Tryd.ntmps36
  go_wp2_with (simp only [key])
  go_ret
  exact ⟨rfl, rfl⟩
/-- TrailingZeros64, of any number but 0. -/
theorem tz_w (x : Nat) (hx : x < 18446744073709551616) (h0 : x ≠ 0) (w : World) (h : Tb w) :
    Calls Tryd.prog 36 #[.int .u64 x] w fun e w' => e = .returned (.int .i64 ((Lib.ctz 64 x : Nat) : Int)) ∧ w = w' := by
  obtain ⟨hlow, hk⟩ := Lib.lowest_bit 64 x h0 hx
  obtain ⟨hi, htab⟩ := Lib.deBruijn64_at _ hk
  refine tz_core x _ _ w (by simpa using h0) (tz_key x _ hx h0 hlow) hi hk ?_
  rw [h.cell _ hi, dbT_nat _ hi, htab]
end Go.Proofs.YteebmikjikjhmaaDoor
