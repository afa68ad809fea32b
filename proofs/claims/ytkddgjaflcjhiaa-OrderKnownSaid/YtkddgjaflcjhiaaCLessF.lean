/-
  Contracts of the law's own 'less': has a capability no more bounds and permissions than another one? And what Move, Bound, Less leave is a subset. Bounds' fields are in their places.
-/
import Derived.Test.YtkddgjaflcjhiaaCSub
import Derived.Test.YtkddgjaflcjhiaaCPerm
import Derived.Test.YtkddgjaflcjhiaaCMove
import Derived.Test.YtkddgjaflcjhiaaCBound
namespace Go.Proofs.Ytkddgjaflcjhiaa
open Go.ChangeShapes Go.WideShapes Go.ChangeAt Go.RowKit
set_option linter.unusedVariables false
set_option linter.unusedSimpArgs false

theorem range_iff (b t : Int) (o : Bool) (c u : Int) (p : Bool) : rangeB b t o c u p = true ↔ b = c ∧ t = u ∧ o = p := by unfold rangeB; simp
theorem within_refl (b t : Int) (o : Bool) : withinB b t o b t o = true := by
  simp only [withinB, ltB, Bool.and_eq_true, Bool.not_eq_true', decide_eq_true_eq, decide_eq_false_iff_not]; omega
theorem within_trans (b t : Int) (o : Bool) (c u : Int) (p : Bool) (d v : Int) (q : Bool) (h : withinB b t o c u p = true) (k : withinB c u p d v q = true) : withinB b t o d v q = true := by
  simp only [withinB, ltB, Bool.and_eq_true, Bool.not_eq_true', decide_eq_true_eq, decide_eq_false_iff_not] at *; omega
theorem wi_refl (e b t : Int) (g : Bool) (a : Int) : wiB e b t g a e b t g a = true := within_refl _ _ _
theorem wi_trans (e b t : Int) (g : Bool) (a : Int) (e1 b1 t1 : Int) (g1 : Bool) (a1 : Int) (e2 b2 t2 : Int) (g2 : Bool) (a2 : Int) (h : wiB e b t g a e1 b1 t1 g1 a1 = true) (k : wiB e1 b1 t1 g1 a1 e2 b2 t2 g2 a2 = true) : wiB e b t g a e2 b2 t2 g2 a2 = true :=
  within_trans _ _ _ _ _ _ _ _ _ k h
theorem fits_eq (e b t : Int) (g : Bool) (a x : Int) (h : fitsV e b t g a x = true) : ofB e b x = ofB e b a ∧ ofT e b t g x = ofT e b t g a ∧ ofO e b t g x = ofO e b t g a := by
  unfold fitsV at h; exact (range_iff _ _ _ _ _ _).1 h
theorem fits_wi (e b t : Int) (g : Bool) (a x : Int) (h : fitsV e b t g a x = true) : wiB e b t g a e b t g x = true := by
  obtain ⟨h1, h2, h3⟩ := fits_eq e b t g a x h
  unfold wiB; rw [h1, h2, h3]; exact within_refl _ _ _
end Go.Proofs.Ytkddgjaflcjhiaa
