/-
  What '==' says of two capabilities: whether all nine fields are the same. No condition.
-/
import Derived.Test.YtikibfpfieoabaaKp
namespace Go.Proofs.Ytikibfpfieoabaa
open Go.ChangeShapes Go.WideShapes Go.ChangeAt Go.RowKit
set_option linter.unusedVariables false
set_option linter.unusedSimpArgs false

def capB (ctg : Bool) (cpe cty cmo ce cb ct : Int) (cg : Bool) (ca : Int) (dtg : Bool) (dpe dty dmo de db dt : Int) (dg : Bool) (da : Int) : Bool :=
  decide (ctg = dtg ∧ cpe = dpe ∧ cty = dty ∧ cmo = dmo ∧ ce = de ∧ cb = db ∧ ct = dt ∧ cg = dg ∧ ca = da)
set_option maxHeartbeats 4000000 in
theorem cap_eql (ctg : Bool) (cpe cty cmo ce cb ct : Int) (cg : Bool) (ca : Int) (dtg : Bool) (dpe dty dmo de db dt : Int) (dg : Bool) (da : Int) (w : World) :
    (binOp .eql 24 (.agg #[.bool ctg, .int .i64 cpe, .int .i64 cty, .int .i64 cmo, .int .i64 ce, .int .i64 cb, .int .i64 ct, .bool cg, .int .u64 ca]) (.agg #[.bool dtg, .int .i64 dpe, .int .i64 dty, .int .i64 dmo, .int .i64 de, .int .i64 db, .int .i64 dt, .bool dg, .int .u64 da])).run Try.prog w = .ok (.bool (capB ctg cpe cty cmo ce cb ct cg ca dtg dpe dty dmo de db dt dg da)) w := by
  by_cases htg : ctg = dtg
  rotate_left
  · simp [go_sem, capB, htg]
  subst htg
  by_cases hpe : cpe = dpe
  rotate_left
  · simp [go_sem, capB, hpe]
  subst hpe
  by_cases hty : cty = dty
  rotate_left
  · simp [go_sem, capB, hty]
  subst hty
  by_cases hmo : cmo = dmo
  rotate_left
  · simp [go_sem, capB, hmo]
  subst hmo
  by_cases he : ce = de
  rotate_left
  · simp [go_sem, capB, he]
  subst he
  by_cases hb : cb = db
  rotate_left
  · simp [go_sem, capB, hb]
  subst hb
  by_cases ht : ct = dt
  rotate_left
  · simp [go_sem, capB, ht]
  subst ht
  by_cases hg : cg = dg
  rotate_left
  · simp [go_sem, capB, hg]
  subst hg
  by_cases ha : ca = da
  rotate_left
  · simp [go_sem, capB, ha]
  subst ha
  simp [go_sem, capB]
end Go.Proofs.Ytikibfpfieoabaa
