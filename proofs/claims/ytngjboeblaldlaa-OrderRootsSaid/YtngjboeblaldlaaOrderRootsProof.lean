/-
  OrderRoots returns true for every input, and leaves its arguments as they were: the step from the walk (OrderRoots) to the given statement, after the given shell, with structs by value opened and shut. No condition.
-/
import Derived.Test.YtngjboeblaldlaaOrderRoots
import Derived.Test.YtngjboeblaldlaaAgg9
import Derived.Test.YtngjboeblaldlaaOEnds
import Derived.WalkKit
import Derived.ProofKit
import Derived.OpenShut
import Derived.ChangeSame
import Derived.JoinedOf
import Derived.JoinedAt
import Derived.RowKit3
import Derived.Lib.SmallJoins
namespace Go.Proofs.Ytngjboeblaldlaa.orderRoots
open Go.ChangeShapes Go.WideShapes Go.ChangeAt Go.RowKit Go.Joins
set_option linter.unusedVariables false
set_option linter.unusedSimpArgs false
theorem cellsT0 : Try.prog.cellsOf 25 = 9 := by kernel_rfl
set_option maxHeartbeats 2000000 in
set_option maxRecDepth 100000 in
theorem lifted (os : Os) (started : os.Started) (H : Type) (enc : TypeId × Value → H) :
    ReturnsInHanded {} Try.checked os 7 .any (Rows.orderRootsSpec.pre6 enc Try.prog Try.f7 Rows.orderRootsRow.domain false) (Rows.orderRootsSpec.post enc Try.prog Try.f7 false true false false) := by
  refine returnsInHanded_of_change (C := Try.checked) own started (by kernel_rfl) Try.func7
    (ChangeSpec.witness6 (enc := enc) (C := Try.checked) false ⟨#[], #[.agg #[.bool false, .int .i64 0, .int .i64 0, .int .i64 0, .int .i64 0, .int .i64 0, .int .i64 0, .bool false, .int .u64 0], .int .u64 0], []⟩ 8 (by kernel_rfl) (by kernel_rfl) (by kernel_rfl) (by kernel_rfl)) ?_
  intro W base args ds gs before hval0 hW hcnd _
  have hval : ∀ (j : Nat) t v, Try.f7.params[j]? = some t → args[j]? = some v → Value.okWide Try.prog W .any base t v := hval0
  have hW' := hW
  obtain ⟨p, q, hA0, hV, rfl, hfz, hnd⟩ := hW
  have hA : DataW.TrodAll enc Try.prog W 0 (fun _ => true) true Try.f7.params.toList args.toList ds p := hA0
  rw [Try.params7] at hA hval
  obtain ⟨v0, vs0, d0, ds0, p0, q0, hargs, rfl, rfl, h0, r0⟩ := trodAll_cons hA
  obtain ⟨v1, vs1, d1, ds1, p1, q1, rfl, rfl, rfl, h1, r1⟩ := trodAll_cons r0
  obtain ⟨rfl, rfl, rfl⟩ := trodAll_nil r1
  obtain rfl : args = #[v0, v1] := by cases args; simp_all
  obtain ⟨rfl, rfl⟩ := trodVars_none hV
  obtain ⟨c0_0, c0_1, c0_2, c0_3, c0_4, c0_5, c0_6, c0_7, c0_8, y0_0, y0_1, y0_2, y0_3, y0_4, y0_5, y0_6, y0_7, y0_8, m0, rfl, rfl, rfl, hy0_0, hy0_1, hy0_2, hy0_3, hy0_4, hy0_5, hy0_6, hy0_7, hy0_8⟩ := open_agg9 Try.underlying25 (by kernel_rfl) cellsT0 (hval 0 25 v0 rfl rfl) h0
  obtain ⟨a0, e0_0, rfl⟩ := DataW.trod_bool Try.underlying4 hy0_0
  obtain ⟨a1, e0_1, rfl, w1⟩ := DataW.trod_int Try.underlying3 hy0_1
  obtain ⟨a2, e0_2, rfl, w2⟩ := DataW.trod_int Try.underlying3 hy0_2
  obtain ⟨a3, e0_3, rfl, w3⟩ := DataW.trod_int Try.underlying3 hy0_3
  obtain ⟨a4, e0_4, rfl, w4⟩ := DataW.trod_int Try.underlying3 hy0_4
  obtain ⟨a5, e0_5, rfl, w5⟩ := DataW.trod_int Try.underlying3 hy0_5
  obtain ⟨a6, e0_6, rfl, w6⟩ := DataW.trod_int Try.underlying3 hy0_6
  obtain ⟨a7, e0_7, rfl⟩ := DataW.trod_bool Try.underlying4 hy0_7
  obtain ⟨a8, e0_8, rfl, w8⟩ := DataW.trod_int Try.underlying23 hy0_8
  simp at e0_0 e0_1 e0_2 e0_3 e0_4 e0_5 e0_6 e0_7 e0_8
  subst e0_0 e0_1 e0_2 e0_3 e0_4 e0_5 e0_6 e0_7 e0_8
  obtain ⟨a9, rfl, rfl, rfl, w9⟩ := open_int Try.underlying23 (hval 1 23 v1 rfl rfl) h1
  clear hA0 hval0
  simp only [List.append_nil] at hW'
  have reads0 : ∀ (W' : World) (sp : Nat → Bool), DataW.Trod enc Try.prog W' 0 sp true 25 (.agg #[.bool a0, .int .i64 a1, .int .i64 a2, .int .i64 a3, .int .i64 a4, .int .i64 a5, .int .i64 a6, .bool a7, .int .u64 a8]) (.agg [.lit (.bool a0), .lit (.int .i64 a1), .lit (.int .i64 a2), .lit (.int .i64 a3), .lit (.int .i64 a4), .lit (.int .i64 a5), .lit (.int .i64 a6), .lit (.bool a7), .lit (.int .u64 a8)]) [] := fun W' sp =>
    shut_agg9 (y0 := (.lit (.bool a0), [])) (y1 := (.lit (.int .i64 a1), [])) (y2 := (.lit (.int .i64 a2), [])) (y3 := (.lit (.int .i64 a3), [])) (y4 := (.lit (.int .i64 a4), [])) (y5 := (.lit (.int .i64 a5), [])) (y6 := (.lit (.int .i64 a6), [])) (y7 := (.lit (.bool a7), [])) (y8 := (.lit (.int .u64 a8), [])) Try.underlying25 (by kernel_rfl) cellsT0 ⟨1, by simp [DataW.trod, Try.underlying4]⟩ ⟨1, by simp [DataW.trod, Try.underlying3, w1]⟩ ⟨1, by simp [DataW.trod, Try.underlying3, w2]⟩ ⟨1, by simp [DataW.trod, Try.underlying3, w3]⟩ ⟨1, by simp [DataW.trod, Try.underlying3, w4]⟩ ⟨1, by simp [DataW.trod, Try.underlying3, w5]⟩ ⟨1, by simp [DataW.trod, Try.underlying3, w6]⟩ ⟨1, by simp [DataW.trod, Try.underlying4]⟩ ⟨1, by simp [DataW.trod, Try.underlying23, w8]⟩
  refine (walk a0 a1 a2 a3 a4 a5 a6 a7 a8 a9 w1 w2 w3 w4 w5 w6 w8 w9 W).mono fun e W' ⟨he, hg⟩ => ?_
  subst he
  exact ⟨_, rfl, post_below (pa := []) (pv := []) hW' (fun _ _ _ => (trodAll_cons_mk (shut_bool Try.underlying4 _) trodAll_mk0)) (fun sp _ => (trodAll_cons_mk (reads0 _ sp) (trodAll_cons_mk (shut_int Try.underlying23 w9) trodAll_mk0))) (fun _ _ => rfl) rfl
    hg (ok_one (by kernel_rfl) rfl (okWide_bool_mk Try.underlying4 _))⟩

theorem over : Rows.orderRootsRow.holds Try.pinned (OpenSpec.ofChange Rows.orderRootsSpec) :=
  OpenClaim.holds_of_wide 7 Try.f7 rfl rfl rfl rfl rfl rfl rfl ⟨rfl, rfl, rfl, rfl, rfl⟩ rfl rfl rfl rfl rfl (by kernel_rfl) Try.func7 (by kernel_rfl)
    (of_decide_eq_true (by kernel_rfl)) (by unfold Func.isWrapper; first | (rw [if_pos (by decide +kernel)]; kernel_rfl) | (rw [if_neg (by decide +kernel)]; exact ⟨rfl, rfl⟩))
    (fun os started H enc _ => lifted os started H enc)

/-- THE STATEMENT. -/
theorem proved : Rows.OrderRootsSaid := over
#print axioms proved
end Go.Proofs.Ytngjboeblaldlaa.orderRoots
