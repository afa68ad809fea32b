/-
  BoundsWithin returns true for every input, and leaves its arguments as they were: the step from the walk (BoundsWithin) to the given statement, after the given shell, with structs by value opened and shut. No condition.
-/
import Derived.Test.YtiaklnbeklfnpaaBoundsWithin
import Derived.WalkKit
import Derived.ProofKit
import Derived.OpenShut
import Derived.ChangeSame
import Derived.JoinedOf
import Derived.JoinedAt
import Derived.RowKit3
import Derived.Lib.SmallJoins
namespace Go.Proofs.Ytiaklnbeklfnpaa.boundsWithin
open Go.ChangeShapes Go.WideShapes Go.ChangeAt Go.RowKit Go.Joins
set_option linter.unusedVariables false
set_option linter.unusedSimpArgs false
theorem cellsT0 : Try.prog.cellsOf 24 = 3 := by kernel_rfl
set_option maxHeartbeats 2000000 in
set_option maxRecDepth 100000 in
theorem lifted (os : Os) (started : os.Started) (H : Type) (enc : TypeId × Value → H) :
    ReturnsInHanded {} Try.checked os 3 .any (Rows.boundsWithinSpec.pre6 enc Try.prog Try.f3 Rows.boundsWithinRow.domain false) (Rows.boundsWithinSpec.post enc Try.prog Try.f3 false true false false) := by
  refine returnsInHanded_of_change (C := Try.checked) own started (by kernel_rfl) Try.func3
    (ChangeSpec.witness6 (enc := enc) (C := Try.checked) false ⟨#[], #[.agg #[.int .u64 0, .int .u64 0, .bool false], .agg #[.int .u64 0, .int .u64 0, .bool false], .agg #[.int .u64 0, .int .u64 0, .bool false], .int .u64 0, .int .i64 0], []⟩ 8 (by kernel_rfl) (by kernel_rfl) (by kernel_rfl) (by kernel_rfl)) ?_
  intro W base args ds gs before hval0 hW hcnd _
  have hval : ∀ (j : Nat) t v, Try.f3.params[j]? = some t → args[j]? = some v → Value.okWide Try.prog W .any base t v := hval0
  have hW' := hW
  obtain ⟨p, q, hA0, hV, rfl, hfz, hnd⟩ := hW
  have hA : DataW.TrodAll enc Try.prog W 0 (fun _ => true) true Try.f3.params.toList args.toList ds p := hA0
  rw [Try.params3] at hA hval
  obtain ⟨v0, vs0, d0, ds0, p0, q0, hargs, rfl, rfl, h0, r0⟩ := trodAll_cons hA
  obtain ⟨v1, vs1, d1, ds1, p1, q1, rfl, rfl, rfl, h1, r1⟩ := trodAll_cons r0
  obtain ⟨v2, vs2, d2, ds2, p2, q2, rfl, rfl, rfl, h2, r2⟩ := trodAll_cons r1
  obtain ⟨v3, vs3, d3, ds3, p3, q3, rfl, rfl, rfl, h3, r3⟩ := trodAll_cons r2
  obtain ⟨v4, vs4, d4, ds4, p4, q4, rfl, rfl, rfl, h4, r4⟩ := trodAll_cons r3
  obtain ⟨rfl, rfl, rfl⟩ := trodAll_nil r4
  obtain rfl : args = #[v0, v1, v2, v3, v4] := by cases args; simp_all
  obtain ⟨rfl, rfl⟩ := trodVars_none hV
  obtain ⟨c0_0, c0_1, c0_2, y0_0, y0_1, y0_2, m0, rfl, rfl, rfl, hy0_0, hy0_1, hy0_2⟩ := open_agg3 Try.underlying24 (by kernel_rfl) cellsT0 (hval 0 24 v0 rfl rfl) h0
  obtain ⟨a0, e0_0, rfl, w0⟩ := DataW.trod_int Try.underlying22 hy0_0
  obtain ⟨a1, e0_1, rfl, w1⟩ := DataW.trod_int Try.underlying22 hy0_1
  obtain ⟨a2, e0_2, rfl⟩ := DataW.trod_bool Try.underlying4 hy0_2
  simp at e0_0 e0_1 e0_2
  subst e0_0 e0_1 e0_2
  obtain ⟨c1_0, c1_1, c1_2, y1_0, y1_1, y1_2, m1, rfl, rfl, rfl, hy1_0, hy1_1, hy1_2⟩ := open_agg3 Try.underlying24 (by kernel_rfl) cellsT0 (hval 1 24 v1 rfl rfl) h1
  obtain ⟨a3, e1_0, rfl, w3⟩ := DataW.trod_int Try.underlying22 hy1_0
  obtain ⟨a4, e1_1, rfl, w4⟩ := DataW.trod_int Try.underlying22 hy1_1
  obtain ⟨a5, e1_2, rfl⟩ := DataW.trod_bool Try.underlying4 hy1_2
  simp at e1_0 e1_1 e1_2
  subst e1_0 e1_1 e1_2
  obtain ⟨c2_0, c2_1, c2_2, y2_0, y2_1, y2_2, m2, rfl, rfl, rfl, hy2_0, hy2_1, hy2_2⟩ := open_agg3 Try.underlying24 (by kernel_rfl) cellsT0 (hval 2 24 v2 rfl rfl) h2
  obtain ⟨a6, e2_0, rfl, w6⟩ := DataW.trod_int Try.underlying22 hy2_0
  obtain ⟨a7, e2_1, rfl, w7⟩ := DataW.trod_int Try.underlying22 hy2_1
  obtain ⟨a8, e2_2, rfl⟩ := DataW.trod_bool Try.underlying4 hy2_2
  simp at e2_0 e2_1 e2_2
  subst e2_0 e2_1 e2_2
  obtain ⟨a9, rfl, rfl, rfl, w9⟩ := open_int Try.underlying22 (hval 3 22 v3 rfl rfl) h3
  obtain ⟨a10, rfl, rfl, rfl, w10⟩ := open_int Try.underlying3 (hval 4 3 v4 rfl rfl) h4
  clear hA0 hval0
  simp only [List.append_nil] at hW'
  have reads0 : ∀ (W' : World) (sp : Nat → Bool), DataW.Trod enc Try.prog W' 0 sp true 24 (.agg #[.int .u64 a0, .int .u64 a1, .bool a2]) (.agg [.lit (.int .u64 a0), .lit (.int .u64 a1), .lit (.bool a2)]) [] := fun W' sp =>
    shut_agg3 (y0 := (.lit (.int .u64 a0), [])) (y1 := (.lit (.int .u64 a1), [])) (y2 := (.lit (.bool a2), [])) Try.underlying24 (by kernel_rfl) cellsT0 ⟨1, by simp [DataW.trod, Try.underlying22, w0]⟩ ⟨1, by simp [DataW.trod, Try.underlying22, w1]⟩ ⟨1, by simp [DataW.trod, Try.underlying4]⟩
  have reads1 : ∀ (W' : World) (sp : Nat → Bool), DataW.Trod enc Try.prog W' 0 sp true 24 (.agg #[.int .u64 a3, .int .u64 a4, .bool a5]) (.agg [.lit (.int .u64 a3), .lit (.int .u64 a4), .lit (.bool a5)]) [] := fun W' sp =>
    shut_agg3 (y0 := (.lit (.int .u64 a3), [])) (y1 := (.lit (.int .u64 a4), [])) (y2 := (.lit (.bool a5), [])) Try.underlying24 (by kernel_rfl) cellsT0 ⟨1, by simp [DataW.trod, Try.underlying22, w3]⟩ ⟨1, by simp [DataW.trod, Try.underlying22, w4]⟩ ⟨1, by simp [DataW.trod, Try.underlying4]⟩
  have reads2 : ∀ (W' : World) (sp : Nat → Bool), DataW.Trod enc Try.prog W' 0 sp true 24 (.agg #[.int .u64 a6, .int .u64 a7, .bool a8]) (.agg [.lit (.int .u64 a6), .lit (.int .u64 a7), .lit (.bool a8)]) [] := fun W' sp =>
    shut_agg3 (y0 := (.lit (.int .u64 a6), [])) (y1 := (.lit (.int .u64 a7), [])) (y2 := (.lit (.bool a8), [])) Try.underlying24 (by kernel_rfl) cellsT0 ⟨1, by simp [DataW.trod, Try.underlying22, w6]⟩ ⟨1, by simp [DataW.trod, Try.underlying22, w7]⟩ ⟨1, by simp [DataW.trod, Try.underlying4]⟩
  refine (walk a0 a1 a2 a3 a4 a5 a6 a7 a8 a9 a10 w0 w1 w3 w4 w6 w7 w9 w10 W).mono fun e W' ⟨he, hg⟩ => ?_
  subst he
  exact ⟨_, rfl, post_of_same (pa := []) (pv := []) hW' (fun _ _ _ => (trodAll_cons_mk (shut_bool Try.underlying4 _) trodAll_mk0)) (fun sp _ => (trodAll_cons_mk (reads0 _ sp) (trodAll_cons_mk (reads1 _ sp) (trodAll_cons_mk (reads2 _ sp) (trodAll_cons_mk (shut_int Try.underlying22 w9) (trodAll_cons_mk (shut_int Try.underlying3 w10) trodAll_mk0)))))) (fun _ _ => rfl) rfl
    (hg.frame _) hg.2.1 (ok_one (by kernel_rfl) rfl (okWide_bool_mk Try.underlying4 _))⟩

theorem over : Rows.boundsWithinRow.holds Try.pinned (OpenSpec.ofChange Rows.boundsWithinSpec) :=
  OpenClaim.holds_of_wide 3 Try.f3 rfl rfl rfl rfl rfl rfl rfl ⟨rfl, rfl, rfl, rfl, rfl⟩ rfl rfl rfl rfl rfl (by kernel_rfl) Try.func3 (by kernel_rfl)
    (of_decide_eq_true (by kernel_rfl)) (by unfold Func.isWrapper; first | (rw [if_pos (by decide +kernel)]; kernel_rfl) | (rw [if_neg (by decide +kernel)]; exact ⟨rfl, rfl⟩))
    (fun os started H enc _ => lifted os started H enc)

/-- THE STATEMENT. -/
theorem proved : Rows.BoundsWithinSaid := over
#print axioms proved
end Go.Proofs.Ytiaklnbeklfnpaa.boundsWithin
