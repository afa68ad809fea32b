/-
  What the table of the widths' sizes holds when a call begins (the rows list it, the cards tie it to the program's text), and the contract of word.Size over it: for any width its bytes, or 0; the world stays.
-/
import Derived.Test.YtglhfdamgblhdaaDoorWord
import Derived.Lib.LaidTab
import Derived.MakeChecks
namespace Go.Proofs.YtglhfdamgblhdaaDoor
open Go.ChangeShapes Go.WideShapes Go.ChangeAt Go.RowKit
set_option linter.unusedVariables false
set_option linter.unusedSimpArgs false
/-- The table's cells. -/
def SzAt (w : World) : Prop := ∀ i : Nat, i < 8 → w.cell? ⟨0, i, none⟩ = some (.int .i64 ([1, 2, 4, 8, 1, 2, 4, 16].getD i 0))
theorem sz_of_tab {W : World} {name : String} (hg : Tryd.prog.globalNamed name = some 0) (h : laidMet Tryd.prog [(name, Lib.tabData .i64 [1, 2, 4, 8, 1, 2, 4, 16])] W) : SzAt W := by
  have t := Lib.tabIs_of_head hg (by kernel_rfl) Tryd.underlying36 Tryd.underlying3 (by kernel_rfl) (by kernel_rfl) h
  exact fun i hi => t.cell hg i (by simpa using hi)

theorem sz_of_laid {W : World} (h : laidMetH Tryd.prog Rows.wordExtendsRow.laid W) : SzAt W := by
  rw [MakeChecks.laidMetH_plain _ _ _ (by kernel_rfl)] at h
  exact sz_of_tab (by kernel_rfl) (show laidMet Tryd.prog [(_, Lib.tabData .i64 [1, 2, 4, 8, 1, 2, 4, 16])] W from h)
theorem size_w (i : Int) (w : World) (h : SzAt w) :
    Calls Tryd.prog 8 #[.int .i64 i] w fun e w' => e = .returned (.int .i64 (sizeV i)) ∧ w = w' := by
  by_cases hn : i < 0
  · go_enter Tryd.func8, Tryd.ntmps8
    go_wp2
    go_ret
    exact ⟨ret_int (by unfold sizeV; repeat' split
                       all_goals omega), rfl⟩
  · by_cases hb : 8 ≤ i
    · have hn' : ¬ i < 0 := hn
      go_enter Tryd.func8, Tryd.ntmps8
      go_wp2
      go_ret
      exact ⟨ret_int (by unfold sizeV; repeat' split
                         all_goals omega), rfl⟩
    · obtain ⟨k, rfl⟩ := Int.eq_ofNat_of_zero_le (show 0 ≤ i by omega)
      have hk : k < 8 := by omega
      have hc := h k hk
      clear h hb hn
      rcases (show k = 0 ∨ k = 1 ∨ k = 2 ∨ k = 3 ∨ k = 4 ∨ k = 5 ∨ k = 6 ∨ k = 7 by omega) with rfl | rfl | rfl | rfl | rfl | rfl | rfl | rfl
      all_goals
        simp only [List.getD_cons_zero, List.getD_cons_succ, Int.cast_ofNat_Int] at hc ⊢
        go_enter Tryd.func8, Tryd.ntmps8
        go_wp2
        go_ret
        exact ⟨rfl, rfl⟩
end Go.Proofs.YtglhfdamgblhdaaDoor
