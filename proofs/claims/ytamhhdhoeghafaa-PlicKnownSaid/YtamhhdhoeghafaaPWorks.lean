/-
  The statements' works: the greater priority is claimed first, and not again. No condition but what the calls lean on.
-/
import Derived.Test.YtamhhdhoeghafaaPAt
namespace Go.Proofs.Ytamhhdhoeghafaa
open Go.ChangeShapes Go.WideShapes Go.ChangeAt Go.RowKit
set_option linter.unusedVariables false
set_option linter.unusedSimpArgs false
def wS0 : PS := PS.new
theorem wk0 : wS0.Ok := PS.new_ok
def wS1 : PS := wS0.stS 4 4 3
theorem wk1 : wS1.Ok := wk0.stS _ _ _
def wS2 : PS := wS1.stS 8 4 5
theorem wk2 : wS2.Ok := wk1.stS _ _ _
def wS3 : PS := wS2.stS 8192 4 7
theorem wk3 : wS3.Ok := wk2.stS _ _ _
def wS4 : PS := wS3.lines 6
theorem wk4 : wS4.Ok := wk3.lines _
theorem wf5 : wS4.pend 0 = true := by decide +kernel
theorem wf6 : wS4.pend 1 = false := by decide +kernel
theorem wf7 : wS4.ldV 2097156 4 = 2 := by decide +kernel
def wS5 : PS := wS4.ldS 2097156 4
theorem wk5 : wS5.Ok := wk4.ldS _ _
theorem wf8 : wS5.ldV 2097156 4 = 1 := by decide +kernel
def wS6 : PS := wS5.ldS 2097156 4
theorem wk6 : wS6.Ok := wk5.ldS _ _
theorem wf9 : wS6.ldV 2097156 4 = 0 := by decide +kernel
def wS7 : PS := wS6.ldS 2097156 4
theorem wk7 : wS7.Ok := wk6.ldS _ _
def wS8 : PS := wS7.lines 6
theorem wk8 : wS8.Ok := wk7.lines _
theorem wf11 : wS8.pend 0 = false := by decide +kernel
def wS9 : PS := wS8.stS 2097156 4 2
theorem wk9 : wS9.Ok := wk8.stS _ _ _
theorem wf13 : wS9.pend 0 = false := by decide +kernel
def wS10 : PS := wS9.lines 6
theorem wk10 : wS10.Ok := wk9.lines _
theorem wf15 : wS10.pend 0 = true := by decide +kernel
theorem wf16 : wS10.ldV 8192 4 = 6 := by decide +kernel
set_option maxRecDepth 4000 in
set_option maxHeartbeats 8000000 in
theorem works12_w (w : World) (tb : PTb w) : Calls Try.prog 8 #[] w fun e w' => e = .returned (.bool true) ∧ Below w.heap.size w w' := by
  have HTB := Lib.hid tb
  clear tb
  go_enter Try.func8, Try.ntmps8
  go_wp2_with (first | (go_at_call 9; (with_reducible refine (cpnew_w _ HTB.out).mono ?_); rintro e' w0 ⟨g, rfl, m0, b0⟩; have hs0 := b0.size; have HM0 := Lib.hid (show Pl w0 w.heap.size w0.heap.size g wS0 from m0); have HB0 := Lib.hid b0; clear m0 b0) | (go_at_call 15; (with_reducible refine (cpstore_at HM0.out wk0 (PTb.h1 HTB HB0) 4 4 3 true wS1 (by decide) rfl (by decide) (by decide) (by decide) (by decide) (by decide) (by decide)).mono ?_); rintro e' w1 ⟨rfl, m1, f1⟩; have hs1 := f1.size; have HM1 := Lib.hid m1; have HB1 := Lib.hid (HB0.out.trans (f1.lows HB0.out.size (Nat.le_refl _))); clear m1 f1) | (go_at_call 15; (with_reducible refine (cpstore_at HM1.out wk1 (PTb.h1 HTB HB1) 8 4 5 true wS2 (by decide) rfl (by decide) (by decide) (by decide) (by decide) (by decide) (by decide)).mono ?_); rintro e' w2 ⟨rfl, m2, f2⟩; have hs2 := f2.size; have HM2 := Lib.hid m2; have HB2 := Lib.hid (HB1.out.trans (f2.lows HB1.out.size (Nat.le_refl _))); clear m2 f2) | (go_at_call 15; (with_reducible refine (cpstore_at HM2.out wk2 (PTb.h1 HTB HB2) 8192 4 7 true wS3 (by decide) rfl (by decide) (by decide) (by decide) (by decide) (by decide) (by decide)).mono ?_); rintro e' w3 ⟨rfl, m3, f3⟩; have hs3 := f3.size; have HM3 := Lib.hid m3; have HB3 := Lib.hid (HB2.out.trans (f3.lows HB2.out.size (Nat.le_refl _))); clear m3 f3) | (go_at_call 11; (with_reducible refine (cplines_at HM3.out wk3 (PTb.h1 HTB HB3) 6 wS4 rfl (by decide) (by decide)).mono ?_); rintro e' w4 ⟨rfl, m4, f4⟩; have hs4 := f4.size; have HM4 := Lib.hid m4; have HB4 := Lib.hid (HB3.out.trans (f4.lows HB3.out.size (Nat.le_refl _))); clear m4 f4) | (go_at_call 17; (with_reducible refine (cppend_at HM4.out wk4 (PTb.h1 HTB HB4) 0 true wf5 (by decide) (by decide)).mono ?_); rintro e' w5 ⟨rfl, m5, f5⟩; have hs5 := f5.size; have HM5 := Lib.hid m5; have HB5 := Lib.hid (HB4.out.trans (f5.lows HB4.out.size (Nat.le_refl _))); clear m5 f5) | (go_at_call 17; (with_reducible refine (cppend_at HM5.out wk4 (PTb.h1 HTB HB5) 1 false wf6 (by decide) (by decide)).mono ?_); rintro e' w6 ⟨rfl, m6, f6⟩; have hs6 := f6.size; have HM6 := Lib.hid m6; have HB6 := Lib.hid (HB5.out.trans (f6.lows HB5.out.size (Nat.le_refl _))); clear m6 f6) | (go_at_call 20; (with_reducible refine (of_w HM6.out wk4 (PTb.h1 HTB HB6) 2097156 2 wS5 wf7 rfl (by decide) (by decide)).mono ?_); rintro e' w7 ⟨rfl, m7, f7⟩; have hs7 := f7.size; have HM7 := Lib.hid m7; have HB7 := Lib.hid (HB6.out.trans (f7.lows HB6.out.size (Nat.le_refl _))); clear m7 f7) | (go_at_call 20; (with_reducible refine (of_w HM7.out wk5 (PTb.h1 HTB HB7) 2097156 1 wS6 wf8 rfl (by decide) (by decide)).mono ?_); rintro e' w8 ⟨rfl, m8, f8⟩; have hs8 := f8.size; have HM8 := Lib.hid m8; have HB8 := Lib.hid (HB7.out.trans (f8.lows HB7.out.size (Nat.le_refl _))); clear m8 f8) | (go_at_call 20; (with_reducible refine (of_w HM8.out wk6 (PTb.h1 HTB HB8) 2097156 0 wS7 wf9 rfl (by decide) (by decide)).mono ?_); rintro e' w9 ⟨rfl, m9, f9⟩; have hs9 := f9.size; have HM9 := Lib.hid m9; have HB9 := Lib.hid (HB8.out.trans (f9.lows HB8.out.size (Nat.le_refl _))); clear m9 f9) | (go_at_call 11; (with_reducible refine (cplines_at HM9.out wk7 (PTb.h1 HTB HB9) 6 wS8 rfl (by decide) (by decide)).mono ?_); rintro e' w10 ⟨rfl, m10, f10⟩; have hs10 := f10.size; have HM10 := Lib.hid m10; have HB10 := Lib.hid (HB9.out.trans (f10.lows HB9.out.size (Nat.le_refl _))); clear m10 f10) | (go_at_call 17; (with_reducible refine (cppend_at HM10.out wk8 (PTb.h1 HTB HB10) 0 false wf11 (by decide) (by decide)).mono ?_); rintro e' w11 ⟨rfl, m11, f11⟩; have hs11 := f11.size; have HM11 := Lib.hid m11; have HB11 := Lib.hid (HB10.out.trans (f11.lows HB10.out.size (Nat.le_refl _))); clear m11 f11) | (go_at_call 15; (with_reducible refine (cpstore_at HM11.out wk8 (PTb.h1 HTB HB11) 2097156 4 2 true wS9 (by decide) rfl (by decide) (by decide) (by decide) (by decide) (by decide) (by decide)).mono ?_); rintro e' w12 ⟨rfl, m12, f12⟩; have hs12 := f12.size; have HM12 := Lib.hid m12; have HB12 := Lib.hid (HB11.out.trans (f12.lows HB11.out.size (Nat.le_refl _))); clear m12 f12) | (go_at_call 17; (with_reducible refine (cppend_at HM12.out wk9 (PTb.h1 HTB HB12) 0 false wf13 (by decide) (by decide)).mono ?_); rintro e' w13 ⟨rfl, m13, f13⟩; have hs13 := f13.size; have HM13 := Lib.hid m13; have HB13 := Lib.hid (HB12.out.trans (f13.lows HB12.out.size (Nat.le_refl _))); clear m13 f13) | (go_at_call 11; (with_reducible refine (cplines_at HM13.out wk9 (PTb.h1 HTB HB13) 6 wS10 rfl (by decide) (by decide)).mono ?_); rintro e' w14 ⟨rfl, m14, f14⟩; have hs14 := f14.size; have HM14 := Lib.hid m14; have HB14 := Lib.hid (HB13.out.trans (f14.lows HB13.out.size (Nat.le_refl _))); clear m14 f14) | (go_at_call 17; (with_reducible refine (cppend_at HM14.out wk10 (PTb.h1 HTB HB14) 0 true wf15 (by decide) (by decide)).mono ?_); rintro e' w15 ⟨rfl, m15, f15⟩; have hs15 := f15.size; have HM15 := Lib.hid m15; have HB15 := Lib.hid (HB14.out.trans (f15.lows HB14.out.size (Nat.le_refl _))); clear m15 f15) | (go_at_call 20; (with_reducible refine (of_w HM15.out wk10 (PTb.h1 HTB HB15) 8192 6 wS10 wf16 (ldS_oth _ _ _ (by decide) (by decide)) (by decide) (by decide)).mono ?_); rintro e' w16 ⟨rfl, m16, f16⟩; have hs16 := f16.size; have HM16 := Lib.hid m16; have HB16 := Lib.hid (HB15.out.trans (f16.lows HB15.out.size (Nat.le_refl _))); clear m16 f16))
  go_ret
  exact ⟨rfl, HB16.out⟩
end Go.Proofs.Ytamhhdhoeghafaa
