/-
  Any branch is taken, or not, as the document says; any width has its bytes, and its numbers: as WordBranch asks of any numbers. The condition: the table of the widths' sizes reads as the program's text lays it (the card ties it).
-/
import Derived.Test.YtglhfdamgblhdaaDoorSize
import Derived.Test.YtglhfdamgblhdaaDoorWLaw
import Derived.Test.YtglhfdamgblhdaaDoorWRefB
namespace Go.Proofs.YtglhfdamgblhdaaDoor.wordBranch
open Go.ChangeShapes Go.WideShapes Go.ChangeAt Go.RowKit
set_option linter.unusedVariables false
set_option linter.unusedSimpArgs false
theorem own : ownKnob Tryd.prog.godebug = none := by kernel_rfl
theorem walk (a0 : Int) (a1 : Int) (a2 : Int) (w0 : (Lit.int .i64 a0).wf = true) (w1 : (Lit.int .u64 a1).wf = true) (w2 : (Lit.int .u64 a2).wf = true) (w : World) (hz : SzAt w) :
    Calls Tryd.prog 3 #[.int .i64 a0, .int .u64 a1, .int .u64 a2] w fun e w' => e = .returned (.bool true) ∧ Grown w w' := by
  have hm0 : IntKind.u64.min = 0 := rfl
  have hm1 : IntKind.u64.max = 18446744073709551615 := rfl
  clear w0
  simp only [Lit.wf, Bool.and_eq_true, decide_eq_true_eq, hm0, hm1] at w1 w2
  obtain ⟨h10, h11⟩ := w1
  obtain ⟨h20, h21⟩ := w2
  have H := Lib.hid hz
  clear hz hm0 hm1
  go_enter Tryd.func3, Tryd.ntmps3
  go_wp2_with (first | (go_at_call 6; refine (br_w _ _ _ (by omega) (by omega) (by omega) (by omega) _).mono ?_; rintro e w' ⟨rfl, rfl⟩) | (go_at_call 7; refine (rbr_w _ _ _ (by omega) (by omega) (by omega) (by omega) _).mono ?_; rintro e w' ⟨rfl, rfl⟩) | (go_at_call 8; refine (size_w _ _ H.out).mono ?_; rintro e w' ⟨rfl, rfl⟩) | (go_at_call 9; refine (rsize_w _ _).mono ?_; rintro e w1 ⟨rfl, hg1⟩) | (go_at_call 10; refine (ext_w _ _ (by omega) (by omega) _).mono ?_; rintro e w' ⟨rfl, rfl⟩) | (go_at_call 11; refine (rext_w _ _ (by omega) (by omega) _).mono ?_; rintro e w2 ⟨rfl, hg2⟩) | (go_at_call 12; refine (known_w _).mono ?_; rintro e w' ⟨rfl, rfl⟩))
  go_ret
  exact ⟨rfl, grown_then hg1 hg2⟩
end Go.Proofs.YtglhfdamgblhdaaDoor.wordBranch
