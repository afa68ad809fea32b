/-
  What '==' says of two capabilities: whether all nine fields are the same. No condition.
-/
import Derived.Test.YtkddgjaflcjhiaaKp
namespace Go.Proofs.Ytkddgjaflcjhiaa
open Go.ChangeShapes Go.WideShapes Go.ChangeAt Go.RowKit
set_option linter.unusedVariables false
set_option linter.unusedSimpArgs false

def capB (ctg : Bool) (cpe cty cmo ce cb ct : Int) (cg : Bool) (ca : Int) (dtg : Bool) (dpe dty dmo de db dt : Int) (dg : Bool) (da : Int) : Bool :=
  decide (ctg = dtg ∧ cpe = dpe ∧ cty = dty ∧ cmo = dmo ∧ ce = de ∧ cb = db ∧ ct = dt ∧ cg = dg ∧ ca = da)
set_option maxHeartbeats 4000000 in
theorem cap_eql (ctg : Bool) (cpe cty cmo ce cb ct : Int) (cg : Bool) (ca : Int) (dtg : Bool) (dpe dty dmo de db dt : Int) (dg : Bool) (da : Int) (w : World) :
    (binOp .eql 25 (.agg #[ctg, cpe, cty, cmo, ce, cb, ct, cg, .int .u64 ca]) (.agg #[dtg, dpe, dty, dmo, de, db, dt, dg, .int .u64 da])).run Try.prog w = .ok (.bool (capB ctg cpe cty cmo ce cb ct cg ca dtg dpe dty dmo de db dt dg da)) w := by
  by_cases htg : ctg = dtg
  rotate_left
  · simp [go_sem, capB, htg]
  subst htg
  by_cases hpe : cpe = dpe
  rotate_left
  · simp [go_sem, capB, hpe]
  subst hpe
  by_cases hty : cty = dty
  rotate_left
  · simp [go_sem, capB, hty]
  subst hty
  by_cases hmo : cmo = dmo
  rotate_left
  · simp [go_sem, capB, hmo]
  subst hmo
  by_cases he : ce = de
  rotate_left
  · simp [go_sem, capB, he]
  subst he
  by_cases hb : cb = db
  rotate_left
  · simp [go_sem, capB, hb]
  subst hb
  by_cases ht : ct = dt
  rotate_left
  · simp [go_sem, capB, ht]
  subst ht
  by_cases hg : cg = dg
  rotate_left
  · simp [go_sem, capB, hg]
  subst hg
  by_cases ha : ca = da
  rotate_left
  · simp [go_sem, capB, ha]
  subst ha
  simp [go_sem, capB]
end Go.Proofs.Ytkddgjaflcjhiaa
