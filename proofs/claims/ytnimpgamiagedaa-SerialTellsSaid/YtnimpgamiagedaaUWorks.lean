/-
  The statements' works: bytes are read in order, the last one that was written is told, the switch is turned off. No condition but what the calls lean on.
-/
import Derived.Test.YtnimpgamiagedaaUAt
namespace Go.Proofs.Ytnimpgamiagedaa
open Go.ChangeShapes Go.WideShapes Go.ChangeAt Go.RowKit
set_option linter.unusedVariables false
set_option linter.unusedSimpArgs false
/-- A UART of the program's, and a switch behind it. -/
structure UPw (W w : World) (hi g lo3 hi3 g3 : Nat) (S : US) (p : Bool) : Prop where
  u : Un w W.heap.size hi g S
  q : Pn w lo3 hi3 g3 p
  b : Below W.heap.size W w
  h : hi ≤ lo3
theorem UPw.uart {W w w' : World} {hi g lo3 hi3 g3 : Nat} {S S' : US} {p : Bool} (h : UPw W w hi g lo3 hi3 g3 S p) (m : Un w' W.heap.size hi g S') (f : Fr w w' (Rg W.heap.size hi)) : UPw W w' hi g lo3 hi3 g3 S' p :=
  ⟨m, h.q.fr f (fun i h1 h2 x => by have := h.h; unfold Rg at x; omega), h.b.trans (f.lows h.b.size (Nat.le_refl _)), h.h⟩
theorem UPw.power {W w w' : World} {hi g lo3 hi3 g3 : Nat} {S : US} {p q : Bool} (h : UPw W w hi g lo3 hi3 g3 S p) (m : Pn w' lo3 hi3 g3 q) (f : Fr w w' (Rg lo3 hi3)) : UPw W w' hi g lo3 hi3 g3 S q :=
  ⟨h.u.fr f (fun i h1 h2 x => by have := h.h; unfold Rg at x; omega), m, h.b.trans (f.lows h.b.size (by have := h.h; have := h.u.bot; have := h.u.gh; omega)), h.h⟩
def uS0 : US := US.new
theorem uk0 : uS0.Ok := US.new_ok
def uS1 : US := uS0.inp 7
theorem uk1 : uS1.Ok := uk0.inp _ (by decide) (by decide)
def uS2 : US := uS1.inp 8
theorem uk2 : uS2.Ok := uk1.inp _ (by decide) (by decide)
theorem uf3 : uS2.ldV 5 1 = 97 := by decide +kernel
def uS3 : US := uS2.ldS 5 1
theorem uk3 : uS3.Ok := uk2.ldS _ _
theorem uf4 : uS3.ldV 0 1 = 7 := by decide +kernel
def uS4 : US := uS3.ldS 0 1
theorem uk4 : uS4.Ok := uk3.ldS _ _
theorem uf5 : uS4.ldV 0 1 = 8 := by decide +kernel
def uS5 : US := uS4.ldS 0 1
theorem uk5 : uS5.Ok := uk4.ldS _ _
theorem uf6 : uS5.ldV 0 1 = 0 := by decide +kernel
def uS6 : US := uS5.ldS 0 1
theorem uk6 : uS6.Ok := uk5.ldS _ _
theorem uf7 : uS6.ldV 5 1 = 96 := by decide +kernel
def uS7 : US := uS6.ldS 5 1
theorem uk7 : uS7.Ok := uk6.ldS _ _
theorem uf8 : uS7.told = -1 := by decide +kernel
def uS8 : US := uS7.out
theorem uk8 : uS8.Ok := uk7.out
def uS9 : US := uS8.stS 0 1 41
theorem uk9 : uS9.Ok := uk8.stS _ _ _
def uS10 : US := uS9.stS 0 1 298
theorem uk10 : uS10.Ok := uk9.stS _ _ _
theorem uf14 : uS10.told = 42 := by decide +kernel
def uS11 : US := uS10.out
theorem uk11 : uS11.Ok := uk10.out
theorem uf15 : uS11.told = -1 := by decide +kernel
def uS12 : US := uS11.out
theorem uk12 : uS12.Ok := uk11.out
set_option maxRecDepth 4000 in
set_option maxHeartbeats 8000000 in
theorem works14_w (w : World) (tb : UTb w) : Calls Try.prog 8 #[] w fun e w' => e = .returned (.bool true) ∧ Below w.heap.size w w' := by
  have HTB := Lib.hid tb
  clear tb
  go_enter Try.func8, Try.ntmps8
  go_wp2_with (first | (go_at_call 9; (with_reducible refine (cunew_w _ HTB.out).mono ?_); rintro e' w0 ⟨g, rfl, m0, b0⟩; have hs0 := b0.size; have H0 := Lib.hid (show OneU w w0 w0.heap.size g uS0 from ⟨m0, b0⟩); clear m0 b0) | (go_at_call 13; (with_reducible refine (cuin_at H0.out.o uk0 (UTb.h1 HTB (Lib.hid H0.out.b)) 7 true uS1 (by decide) rfl (by decide) (by decide)).mono ?_); rintro e' w1 ⟨rfl, m1, f1⟩; have hs1 := f1.size; have H1 := Lib.hid (H0.out.code m1 f1); clear m1 f1) | (go_at_call 13; (with_reducible refine (cuin_at H1.out.o uk1 (UTb.h1 HTB (Lib.hid H1.out.b)) 8 true uS2 (by decide) rfl (by decide) (by decide)).mono ?_); rintro e' w2 ⟨rfl, m2, f2⟩; have hs2 := f2.size; have H2 := Lib.hid (H1.out.code m2 f2); clear m2 f2) | (go_at_call 30; (with_reducible refine (ofU_w H2.out.o uk2 (UTb.h1 HTB (Lib.hid H2.out.b)) 5 97 uS3 uf3 rfl (by decide) (by decide)).mono ?_); rintro e' w3 ⟨rfl, m3, f3⟩; have hs3 := f3.size; have H3 := Lib.hid (H2.out.code m3 f3); clear m3 f3) | (go_at_call 30; (with_reducible refine (ofU_w H3.out.o uk3 (UTb.h1 HTB (Lib.hid H3.out.b)) 0 7 uS4 uf4 rfl (by decide) (by decide)).mono ?_); rintro e' w4 ⟨rfl, m4, f4⟩; have hs4 := f4.size; have H4 := Lib.hid (H3.out.code m4 f4); clear m4 f4) | (go_at_call 30; (with_reducible refine (ofU_w H4.out.o uk4 (UTb.h1 HTB (Lib.hid H4.out.b)) 0 8 uS5 uf5 rfl (by decide) (by decide)).mono ?_); rintro e' w5 ⟨rfl, m5, f5⟩; have hs5 := f5.size; have H5 := Lib.hid (H4.out.code m5 f5); clear m5 f5) | (go_at_call 30; (with_reducible refine (ofU_w H5.out.o uk5 (UTb.h1 HTB (Lib.hid H5.out.b)) 0 0 uS6 uf6 rfl (by decide) (by decide)).mono ?_); rintro e' w6 ⟨rfl, m6, f6⟩; have hs6 := f6.size; have H6 := Lib.hid (H5.out.code m6 f6); clear m6 f6) | (go_at_call 30; (with_reducible refine (ofU_w H6.out.o uk6 (UTb.h1 HTB (Lib.hid H6.out.b)) 5 96 uS7 uf7 rfl (by decide) (by decide)).mono ?_); rintro e' w7 ⟨rfl, m7, f7⟩; have hs7 := f7.size; have H7 := Lib.hid (H6.out.code m7 f7); clear m7 f7) | (go_at_call 15; (with_reducible refine (cuout_at H7.out.o uk7 (UTb.h1 HTB (Lib.hid H7.out.b)) (-1) uS8 uf8 rfl).mono ?_); rintro e' w8 ⟨rfl, m8, f8⟩; have hs8 := f8.size; have H8 := Lib.hid (H7.out.code m8 f8); clear m8 f8) | (go_at_call 19; (with_reducible refine (custore_at H8.out.o uk8 (UTb.h1 HTB (Lib.hid H8.out.b)) 0 1 41 true uS9 (by decide) rfl (by decide) (by decide) (by decide) (by decide) (by decide) (by decide)).mono ?_); rintro e' w9 ⟨rfl, m9, f9⟩; have hs9 := f9.size; have H9 := Lib.hid (H8.out.code m9 f9); clear m9 f9) | (go_at_call 19; (with_reducible refine (custore_at H9.out.o uk9 (UTb.h1 HTB (Lib.hid H9.out.b)) 0 1 298 true uS10 (by decide) rfl (by decide) (by decide) (by decide) (by decide) (by decide) (by decide)).mono ?_); rintro e' w10 ⟨rfl, m10, f10⟩; have hs10 := f10.size; have H10 := Lib.hid (H9.out.code m10 f10); clear m10 f10) | (go_at_call 11; (with_reducible refine (cpwnew_w _ (UTb.h1 HTB (Lib.hid H10.out.b))).mono ?_); rintro e' w11 ⟨g3, rfl, m11, b11⟩; have hs11 := b11.size; have H11 := Lib.hid (UPw.mk (H10.out.o.below b11) m11 (H10.out.b.trans (b11.mono H10.out.b.size)) (H10.out.o.top)); clear m11 b11) | (go_at_call 27; (with_reducible refine (cpwoff_w H11.out.q (UTb.h1 HTB (Lib.hid H11.out.b)) ).mono ?_); rintro e' w12 ⟨rfl, m12, f12⟩; have hs12 := f12.size; have H12 := Lib.hid (H11.out.power m12 f12); clear m12 f12) | (go_at_call 23; (with_reducible refine (cpwstore_at H12.out.q (UTb.h1 HTB (Lib.hid H12.out.b)) 0 4 21845 true true (by decide) (by decide) (by decide) (by decide) (by decide) (by decide) (by decide) (by decide)).mono ?_); rintro e' w13 ⟨rfl, m13, f13⟩; have hs13 := f13.size; have H13 := Lib.hid (H12.out.power m13 f13); clear m13 f13) | (go_at_call 15; (with_reducible refine (cuout_at H13.out.u uk10 (UTb.h1 HTB (Lib.hid H13.out.b)) (42) uS11 uf14 rfl).mono ?_); rintro e' w14 ⟨rfl, m14, f14⟩; have hs14 := f14.size; have H14 := Lib.hid (H13.out.uart m14 f14); clear m14 f14) | (go_at_call 15; (with_reducible refine (cuout_at H14.out.u uk11 (UTb.h1 HTB (Lib.hid H14.out.b)) (-1) uS12 uf15 rfl).mono ?_); rintro e' w15 ⟨rfl, m15, f15⟩; have hs15 := f15.size; have H15 := Lib.hid (H14.out.uart m15 f15); clear m15 f15) | (go_at_call 27; (with_reducible refine (cpwoff_w H15.out.q (UTb.h1 HTB (Lib.hid H15.out.b)) ).mono ?_); rintro e' w16 ⟨rfl, m16, f16⟩; have hs16 := f16.size; have H16 := Lib.hid (H15.out.power m16 f16); clear m16 f16))
  go_ret
  exact ⟨rfl, H16.out.b⟩
end Go.Proofs.Ytnimpgamiagedaa
