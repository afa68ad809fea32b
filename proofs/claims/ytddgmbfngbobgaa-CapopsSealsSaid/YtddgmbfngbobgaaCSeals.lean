/-
  Seal and Unseal as the law of seals meets them: where they do, where they do not; a capability is the same as itself.
-/
import Derived.Test.YtddgmbfngbobgaaCKnown
namespace Go.Proofs.Ytddgmbfngbobgaa
open Go.ChangeShapes Go.WideShapes Go.ChangeAt Go.RowKit
set_option linter.unusedVariables false
set_option linter.unusedSimpArgs false
theorem seal_no (ctg : Bool) (cpe cty cmo ce cb ct : Int) (cg : Bool) (ca : Int) (dtg : Bool) (dpe dty dmo de db dt : Int) (dg : Bool) (da : Int) (h : Fld de db dt da) (hv : sealB ctg cty dtg dpe dty de db dt dg da = false) (w : World) :
    Calls Try.prog 27 #[.agg #[.bool ctg, .int .i64 cpe, .int .i64 cty, .int .i64 cmo, .int .i64 ce, .int .i64 cb, .int .i64 ct, .bool cg, .int .u64 ca], .agg #[.bool dtg, .int .i64 dpe, .int .i64 dty, .int .i64 dmo, .int .i64 de, .int .i64 db, .int .i64 dt, .bool dg, .int .u64 da]] w fun e' w' => e' = .returned (.agg #[.bool false, .int .i64 cpe, .int .i64 cty, .int .i64 cmo, .int .i64 ce, .int .i64 cb, .int .i64 ct, .bool cg, .int .u64 ca]) ∧ Kp w w' :=
  seal_w _ _ _ _ _ _ _ _ _ _ _ _ _ _ _ _ _ _ h false hv w
theorem seal_yes (ctg : Bool) (cpe cty cmo ce cb ct : Int) (cg : Bool) (ca : Int) (dtg : Bool) (dpe dty dmo de db dt : Int) (dg : Bool) (da : Int) (h : Fld de db dt da) (hv : sealB ctg cty dtg dpe dty de db dt dg da = true) (w : World) :
    Calls Try.prog 27 #[.agg #[.bool ctg, .int .i64 cpe, .int .i64 cty, .int .i64 cmo, .int .i64 ce, .int .i64 cb, .int .i64 ct, .bool cg, .int .u64 ca], .agg #[.bool dtg, .int .i64 dpe, .int .i64 dty, .int .i64 dmo, .int .i64 de, .int .i64 db, .int .i64 dt, .bool dg, .int .u64 da]] w fun e' w' => e' = .returned (.agg #[.bool true, .int .i64 cpe, .int .i64 da, .int .i64 cmo, .int .i64 ce, .int .i64 cb, .int .i64 ct, .bool cg, .int .u64 ca]) ∧ Kp w w' :=
  seal_w _ _ _ _ _ _ _ _ _ _ _ _ _ _ _ _ _ _ h true hv w
theorem unseal_no (ctg : Bool) (cpe cty cmo ce cb ct : Int) (cg : Bool) (ca : Int) (dtg : Bool) (dpe dty dmo de db dt : Int) (dg : Bool) (da : Int) (h : Fld de db dt da) (y0 : 0 ≤ cty) (y1 : cty < 262144) (hv : unsB ctg cty dtg dpe dty de db dt dg da = false) (w : World) :
    Calls Try.prog 29 #[.agg #[.bool ctg, .int .i64 cpe, .int .i64 cty, .int .i64 cmo, .int .i64 ce, .int .i64 cb, .int .i64 ct, .bool cg, .int .u64 ca], .agg #[.bool dtg, .int .i64 dpe, .int .i64 dty, .int .i64 dmo, .int .i64 de, .int .i64 db, .int .i64 dt, .bool dg, .int .u64 da]] w fun e' w' => e' = .returned (.agg #[.bool false, .int .i64 cpe, .int .i64 cty, .int .i64 cmo, .int .i64 ce, .int .i64 cb, .int .i64 ct, .bool cg, .int .u64 ca]) ∧ Kp w w' :=
  unseal_w _ _ _ _ _ _ _ _ _ _ _ _ _ _ _ _ _ _ h y0 y1 false hv w
theorem unseal_yes (ctg : Bool) (cpe cty cmo ce cb ct : Int) (cg : Bool) (ca : Int) (dtg : Bool) (dpe dty dmo de db dt : Int) (dg : Bool) (da : Int) (h : Fld de db dt da) (y0 : 0 ≤ cty) (y1 : cty < 262144) (hv : unsB ctg cty dtg dpe dty de db dt dg da = true) (P : Int) (hP : unpV true dpe cpe = P) (w : World) :
    Calls Try.prog 29 #[.agg #[.bool ctg, .int .i64 cpe, .int .i64 cty, .int .i64 cmo, .int .i64 ce, .int .i64 cb, .int .i64 ct, .bool cg, .int .u64 ca], .agg #[.bool dtg, .int .i64 dpe, .int .i64 dty, .int .i64 dmo, .int .i64 de, .int .i64 db, .int .i64 dt, .bool dg, .int .u64 da]] w fun e' w' => e' = .returned (.agg #[.bool true, .int .i64 P, .int .i64 262143, .int .i64 cmo, .int .i64 ce, .int .i64 cb, .int .i64 ct, .bool cg, .int .u64 ca]) ∧ Kp w w' := by
  subst hP
  exact unseal_w _ _ _ _ _ _ _ _ _ _ _ _ _ _ _ _ _ _ h y0 y1 true hv w
theorem cap_same (tg : Bool) (pe ty mo e b t : Int) (g : Bool) (a : Int) (w : World) : (binOp .eql 24 (.agg #[.bool tg, .int .i64 pe, .int .i64 ty, .int .i64 mo, .int .i64 e, .int .i64 b, .int .i64 t, .bool g, .int .u64 a]) (.agg #[.bool tg, .int .i64 pe, .int .i64 ty, .int .i64 mo, .int .i64 e, .int .i64 b, .int .i64 t, .bool g, .int .u64 a])).run Try.prog w = .ok (.bool true) w := by
  rw [cap_eql]; simp [capB]
end Go.Proofs.Ytddgmbfngbobgaa
