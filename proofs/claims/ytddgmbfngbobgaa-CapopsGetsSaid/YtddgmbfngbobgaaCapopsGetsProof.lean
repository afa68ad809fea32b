/-
  CapopsGets returns true for every input, and leaves its arguments as they were: the step from the walk (CapopsGets) to the given statement, after the given shell, with structs by value opened and shut. No condition.
-/
import Derived.Test.YtddgmbfngbobgaaCapopsGets
import Derived.Test.YtddgmbfngbobgaaAgg9
import Derived.WalkKit
import Derived.ProofKit
import Derived.OpenShut
import Derived.ChangeSame
import Derived.JoinedOf
import Derived.JoinedAt
import Derived.RowKit3
import Derived.Lib.SmallJoins
namespace Go.Proofs.Ytddgmbfngbobgaa.capopsGets
open Go.ChangeShapes Go.WideShapes Go.ChangeAt Go.RowKit Go.Joins
set_option linter.unusedVariables false
set_option linter.unusedSimpArgs false
theorem cellsT0 : Try.prog.cellsOf 24 = 9 := by kernel_rfl
set_option maxHeartbeats 2000000 in
set_option maxRecDepth 100000 in
theorem lifted (os : Os) (started : os.Started) (H : Type) (enc : TypeId × Value → H) :
    ReturnsInHanded {} Try.checked os 5 .any (Rows.capopsGetsSpec.pre6 enc Try.prog Try.f5 Rows.capopsGetsRow.domain false) (Rows.capopsGetsSpec.post enc Try.prog Try.f5 false true false false) := by
  refine returnsInHanded_of_change (C := Try.checked) own started (by kernel_rfl) Try.func5
    (ChangeSpec.witness6 (enc := enc) (C := Try.checked) false ⟨#[], #[.int .i64 0, .agg #[.bool false, .int .i64 0, .int .i64 0, .int .i64 0, .int .i64 0, .int .i64 0, .int .i64 0, .bool false, .int .u64 0]], []⟩ 8 (by kernel_rfl) (by kernel_rfl) (by kernel_rfl) (by kernel_rfl)) ?_
  intro W base args ds gs before hval0 hW hcnd _
  have hval : ∀ (j : Nat) t v, Try.f5.params[j]? = some t → args[j]? = some v → Value.okWide Try.prog W .any base t v := hval0
  have hW' := hW
  obtain ⟨p, q, hA0, hV, rfl, hfz, hnd⟩ := hW
  have hA : DataW.TrodAll enc Try.prog W 0 (fun _ => true) true Try.f5.params.toList args.toList ds p := hA0
  rw [Try.params5] at hA hval
  obtain ⟨v0, vs0, d0, ds0, p0, q0, hargs, rfl, rfl, h0, r0⟩ := trodAll_cons hA
  obtain ⟨v1, vs1, d1, ds1, p1, q1, rfl, rfl, rfl, h1, r1⟩ := trodAll_cons r0
  obtain ⟨rfl, rfl, rfl⟩ := trodAll_nil r1
  obtain rfl : args = #[v0, v1] := by cases args; simp_all
  obtain ⟨rfl, rfl⟩ := trodVars_none hV
  obtain ⟨a0, rfl, rfl, rfl, w0⟩ := open_int Try.underlying3 (hval 0 3 v0 rfl rfl) h0
  obtain ⟨c1_0, c1_1, c1_2, c1_3, c1_4, c1_5, c1_6, c1_7, c1_8, y1_0, y1_1, y1_2, y1_3, y1_4, y1_5, y1_6, y1_7, y1_8, m1, rfl, rfl, rfl, hy1_0, hy1_1, hy1_2, hy1_3, hy1_4, hy1_5, hy1_6, hy1_7, hy1_8⟩ := open_agg9 Try.underlying24 (by kernel_rfl) cellsT0 (hval 1 24 v1 rfl rfl) h1
  obtain ⟨a1, e1_0, rfl⟩ := DataW.trod_bool Try.underlying4 hy1_0
  obtain ⟨a2, e1_1, rfl, w2⟩ := DataW.trod_int Try.underlying3 hy1_1
  obtain ⟨a3, e1_2, rfl, w3⟩ := DataW.trod_int Try.underlying3 hy1_2
  obtain ⟨a4, e1_3, rfl, w4⟩ := DataW.trod_int Try.underlying3 hy1_3
  obtain ⟨a5, e1_4, rfl, w5⟩ := DataW.trod_int Try.underlying3 hy1_4
  obtain ⟨a6, e1_5, rfl, w6⟩ := DataW.trod_int Try.underlying3 hy1_5
  obtain ⟨a7, e1_6, rfl, w7⟩ := DataW.trod_int Try.underlying3 hy1_6
  obtain ⟨a8, e1_7, rfl⟩ := DataW.trod_bool Try.underlying4 hy1_7
  obtain ⟨a9, e1_8, rfl, w9⟩ := DataW.trod_int Try.underlying22 hy1_8
  simp at e1_0 e1_1 e1_2 e1_3 e1_4 e1_5 e1_6 e1_7 e1_8
  subst e1_0 e1_1 e1_2 e1_3 e1_4 e1_5 e1_6 e1_7 e1_8
  clear hA0 hval0
  simp only [List.append_nil] at hW'
  have reads1 : ∀ (W' : World) (sp : Nat → Bool), DataW.Trod enc Try.prog W' 0 sp true 24 (.agg #[.bool a1, .int .i64 a2, .int .i64 a3, .int .i64 a4, .int .i64 a5, .int .i64 a6, .int .i64 a7, .bool a8, .int .u64 a9]) (.agg [.lit (.bool a1), .lit (.int .i64 a2), .lit (.int .i64 a3), .lit (.int .i64 a4), .lit (.int .i64 a5), .lit (.int .i64 a6), .lit (.int .i64 a7), .lit (.bool a8), .lit (.int .u64 a9)]) [] := fun W' sp =>
    shut_agg9 (y0 := (.lit (.bool a1), [])) (y1 := (.lit (.int .i64 a2), [])) (y2 := (.lit (.int .i64 a3), [])) (y3 := (.lit (.int .i64 a4), [])) (y4 := (.lit (.int .i64 a5), [])) (y5 := (.lit (.int .i64 a6), [])) (y6 := (.lit (.int .i64 a7), [])) (y7 := (.lit (.bool a8), [])) (y8 := (.lit (.int .u64 a9), [])) Try.underlying24 (by kernel_rfl) cellsT0 ⟨1, by simp [DataW.trod, Try.underlying4]⟩ ⟨1, by simp [DataW.trod, Try.underlying3, w2]⟩ ⟨1, by simp [DataW.trod, Try.underlying3, w3]⟩ ⟨1, by simp [DataW.trod, Try.underlying3, w4]⟩ ⟨1, by simp [DataW.trod, Try.underlying3, w5]⟩ ⟨1, by simp [DataW.trod, Try.underlying3, w6]⟩ ⟨1, by simp [DataW.trod, Try.underlying3, w7]⟩ ⟨1, by simp [DataW.trod, Try.underlying4]⟩ ⟨1, by simp [DataW.trod, Try.underlying22, w9]⟩
  refine (walk a0 a1 a2 a3 a4 a5 a6 a7 a8 a9 w0 w2 w3 w4 w5 w6 w7 w9 W).mono fun e W' ⟨he, hg⟩ => ?_
  subst he
  exact ⟨_, rfl, post_of_same (pa := []) (pv := []) hW' (fun _ _ _ => (trodAll_cons_mk (shut_bool Try.underlying4 _) trodAll_mk0)) (fun sp _ => (trodAll_cons_mk (shut_int Try.underlying3 w0) (trodAll_cons_mk (reads1 _ sp) trodAll_mk0))) (fun _ _ => rfl) rfl
    (hg.frame _) hg.2.1 (ok_one (by kernel_rfl) rfl (okWide_bool_mk Try.underlying4 _))⟩

theorem over : Rows.capopsGetsRow.holds Try.pinned (OpenSpec.ofChange Rows.capopsGetsSpec) :=
  OpenClaim.holds_of_wide 5 Try.f5 rfl rfl rfl rfl rfl rfl rfl ⟨rfl, rfl, rfl, rfl, rfl⟩ rfl rfl rfl rfl rfl (by kernel_rfl) Try.func5 (by kernel_rfl)
    (of_decide_eq_true (by kernel_rfl)) (by unfold Func.isWrapper; first | (rw [if_pos (by decide +kernel)]; kernel_rfl) | (rw [if_neg (by decide +kernel)]; exact ⟨rfl, rfl⟩))
    (fun os started H enc _ => lifted os started H enc)

/-- THE STATEMENT. -/
theorem proved : Rows.CapopsGetsSaid := over
#print axioms proved
end Go.Proofs.Ytddgmbfngbobgaa.capopsGets
