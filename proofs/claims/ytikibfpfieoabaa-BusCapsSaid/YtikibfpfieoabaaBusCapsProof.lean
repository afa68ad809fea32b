/-
  BusCaps returns true for every input, and leaves its arguments as they were: the step from the walk (BusCaps) to the given statement, after the given shell, with structs by value opened and shut. No condition.
-/
import Derived.Test.YtikibfpfieoabaaBusCaps
import Derived.Test.YtikibfpfieoabaaAgg9
import Derived.Test.YtikibfpfieoabaaJPost
import Derived.WalkKit
import Derived.ProofKit
import Derived.OpenShut
import Derived.ChangeSame
import Derived.JoinedOf
import Derived.JoinedAt
import Derived.RowKit3
import Derived.Lib.SmallJoins
namespace Go.Proofs.Ytikibfpfieoabaa.busCaps
open Go.ChangeShapes Go.WideShapes Go.ChangeAt Go.RowKit Go.Joins
set_option linter.unusedVariables false
set_option linter.unusedSimpArgs false
theorem cellsT0 : Try.prog.cellsOf 24 = 9 := by kernel_rfl
theorem places {H : Type} {enc : TypeId × Value → H} {P : Program} {w : World} {b : Nat} {sp : Nat → Bool} {hd : Bool} {ts : List TypeId} {vs : List Value} {ds : List (DataW H)} {ps qs : List MemPlace} (h : DataW.TrodAll enc P w b sp hd ts vs ds ps) (e : ps = qs) : DataW.TrodAll enc P w b sp hd ts vs ds qs := e ▸ h
set_option maxHeartbeats 2000000 in
set_option maxRecDepth 100000 in
theorem lifted (os : Os) (started : os.Started) (H : Type) (enc : TypeId × Value → H) :
    ReturnsInHanded {} Try.checked os 3 .any (Rows.busCapsSpec.pre6 enc Try.prog Try.f3 Rows.busCapsRow.domain false) (Rows.busCapsSpec.post enc Try.prog Try.f3 false true false false) := by
  refine returnsInHanded_of_change (C := Try.checked) own started (by kernel_rfl) Try.func3
    (ChangeSpec.witness6 (enc := enc) (C := Try.checked) false ⟨#[], #[.agg #[.bool false, .int .i64 0, .int .i64 0, .int .i64 0, .int .i64 0, .int .i64 0, .int .i64 0, .bool false, .int .u64 0], .agg #[.bool false, .int .i64 0, .int .i64 0, .int .i64 0, .int .i64 0, .int .i64 0, .int .i64 0, .bool false, .int .u64 0], .int .u64 0, .int .u64 0, .int .u64 0], []⟩ 8 (by kernel_rfl) (by kernel_rfl) (by kernel_rfl) (by kernel_rfl)) ?_
  intro W base args ds gs before hval0 hW hcnd _
  have hval : ∀ (j : Nat) t v, Try.f3.params[j]? = some t → args[j]? = some v → Value.okWide Try.prog W .any base t v := hval0
  have hW' := hW
  obtain ⟨p, q, hA0, hV, rfl, hfz, hnd⟩ := hW
  have hA : DataW.TrodAll enc Try.prog W 0 (fun _ => true) true Try.f3.params.toList args.toList ds p := hA0
  rw [Try.params3] at hA hval
  obtain ⟨v0, vs0, d0, ds0, p0, q0, hargs, rfl, rfl, h0, r0⟩ := trodAll_cons hA
  obtain ⟨v1, vs1, d1, ds1, p1, q1, rfl, rfl, rfl, h1, r1⟩ := trodAll_cons r0
  obtain ⟨v2, vs2, d2, ds2, p2, q2, rfl, rfl, rfl, h2, r2⟩ := trodAll_cons r1
  obtain ⟨v3, vs3, d3, ds3, p3, q3, rfl, rfl, rfl, h3, r3⟩ := trodAll_cons r2
  obtain ⟨v4, vs4, d4, ds4, p4, q4, rfl, rfl, rfl, h4, r4⟩ := trodAll_cons r3
  obtain ⟨rfl, rfl, rfl⟩ := trodAll_nil r4
  obtain rfl : args = #[v0, v1, v2, v3, v4] := by cases args; simp_all
  obtain ⟨rfl, rfl⟩ := trodVars_none hV
  obtain ⟨c0_0, c0_1, c0_2, c0_3, c0_4, c0_5, c0_6, c0_7, c0_8, y0_0, y0_1, y0_2, y0_3, y0_4, y0_5, y0_6, y0_7, y0_8, m0, rfl, rfl, rfl, hy0_0, hy0_1, hy0_2, hy0_3, hy0_4, hy0_5, hy0_6, hy0_7, hy0_8⟩ := open_agg9 Try.underlying24 (by kernel_rfl) cellsT0 (hval 0 24 v0 rfl rfl) h0
  obtain ⟨a0, e0_0, rfl⟩ := DataW.trod_bool Try.underlying4 hy0_0
  obtain ⟨a1, e0_1, rfl, w1⟩ := DataW.trod_int Try.underlying3 hy0_1
  obtain ⟨a2, e0_2, rfl, w2⟩ := DataW.trod_int Try.underlying3 hy0_2
  obtain ⟨a3, e0_3, rfl, w3⟩ := DataW.trod_int Try.underlying3 hy0_3
  obtain ⟨a4, e0_4, rfl, w4⟩ := DataW.trod_int Try.underlying3 hy0_4
  obtain ⟨a5, e0_5, rfl, w5⟩ := DataW.trod_int Try.underlying3 hy0_5
  obtain ⟨a6, e0_6, rfl, w6⟩ := DataW.trod_int Try.underlying3 hy0_6
  obtain ⟨a7, e0_7, rfl⟩ := DataW.trod_bool Try.underlying4 hy0_7
  obtain ⟨a8, e0_8, rfl, w8⟩ := DataW.trod_int Try.underlying22 hy0_8
  simp at e0_0 e0_1 e0_2 e0_3 e0_4 e0_5 e0_6 e0_7 e0_8
  subst e0_0 e0_1 e0_2 e0_3 e0_4 e0_5 e0_6 e0_7 e0_8
  obtain ⟨c1_0, c1_1, c1_2, c1_3, c1_4, c1_5, c1_6, c1_7, c1_8, y1_0, y1_1, y1_2, y1_3, y1_4, y1_5, y1_6, y1_7, y1_8, m1, rfl, rfl, rfl, hy1_0, hy1_1, hy1_2, hy1_3, hy1_4, hy1_5, hy1_6, hy1_7, hy1_8⟩ := open_agg9 Try.underlying24 (by kernel_rfl) cellsT0 (hval 1 24 v1 rfl rfl) h1
  obtain ⟨a9, e1_0, rfl⟩ := DataW.trod_bool Try.underlying4 hy1_0
  obtain ⟨a10, e1_1, rfl, w10⟩ := DataW.trod_int Try.underlying3 hy1_1
  obtain ⟨a11, e1_2, rfl, w11⟩ := DataW.trod_int Try.underlying3 hy1_2
  obtain ⟨a12, e1_3, rfl, w12⟩ := DataW.trod_int Try.underlying3 hy1_3
  obtain ⟨a13, e1_4, rfl, w13⟩ := DataW.trod_int Try.underlying3 hy1_4
  obtain ⟨a14, e1_5, rfl, w14⟩ := DataW.trod_int Try.underlying3 hy1_5
  obtain ⟨a15, e1_6, rfl, w15⟩ := DataW.trod_int Try.underlying3 hy1_6
  obtain ⟨a16, e1_7, rfl⟩ := DataW.trod_bool Try.underlying4 hy1_7
  obtain ⟨a17, e1_8, rfl, w17⟩ := DataW.trod_int Try.underlying22 hy1_8
  simp at e1_0 e1_1 e1_2 e1_3 e1_4 e1_5 e1_6 e1_7 e1_8
  subst e1_0 e1_1 e1_2 e1_3 e1_4 e1_5 e1_6 e1_7 e1_8
  obtain ⟨a18, rfl, rfl, rfl, w18⟩ := open_int Try.underlying22 (hval 2 22 v2 rfl rfl) h2
  obtain ⟨a19, rfl, rfl, rfl, w19⟩ := open_int Try.underlying22 (hval 3 22 v3 rfl rfl) h3
  obtain ⟨a20, rfl, rfl, rfl, w20⟩ := open_int Try.underlying22 (hval 4 22 v4 rfl rfl) h4
  clear hA0 hval0
  simp only [List.append_nil] at hW'
  have reads0 : ∀ (W' : World) (sp : Nat → Bool), DataW.Trod enc Try.prog W' 0 sp true 24 (.agg #[.bool a0, .int .i64 a1, .int .i64 a2, .int .i64 a3, .int .i64 a4, .int .i64 a5, .int .i64 a6, .bool a7, .int .u64 a8]) (.agg [.lit (.bool a0), .lit (.int .i64 a1), .lit (.int .i64 a2), .lit (.int .i64 a3), .lit (.int .i64 a4), .lit (.int .i64 a5), .lit (.int .i64 a6), .lit (.bool a7), .lit (.int .u64 a8)]) [] := fun W' sp =>
    shut_agg9 (y0 := (.lit (.bool a0), [])) (y1 := (.lit (.int .i64 a1), [])) (y2 := (.lit (.int .i64 a2), [])) (y3 := (.lit (.int .i64 a3), [])) (y4 := (.lit (.int .i64 a4), [])) (y5 := (.lit (.int .i64 a5), [])) (y6 := (.lit (.int .i64 a6), [])) (y7 := (.lit (.bool a7), [])) (y8 := (.lit (.int .u64 a8), [])) Try.underlying24 (by kernel_rfl) cellsT0 ⟨1, by simp [DataW.trod, Try.underlying4]⟩ ⟨1, by simp [DataW.trod, Try.underlying3, w1]⟩ ⟨1, by simp [DataW.trod, Try.underlying3, w2]⟩ ⟨1, by simp [DataW.trod, Try.underlying3, w3]⟩ ⟨1, by simp [DataW.trod, Try.underlying3, w4]⟩ ⟨1, by simp [DataW.trod, Try.underlying3, w5]⟩ ⟨1, by simp [DataW.trod, Try.underlying3, w6]⟩ ⟨1, by simp [DataW.trod, Try.underlying4]⟩ ⟨1, by simp [DataW.trod, Try.underlying22, w8]⟩
  have reads1 : ∀ (W' : World) (sp : Nat → Bool), DataW.Trod enc Try.prog W' 0 sp true 24 (.agg #[.bool a9, .int .i64 a10, .int .i64 a11, .int .i64 a12, .int .i64 a13, .int .i64 a14, .int .i64 a15, .bool a16, .int .u64 a17]) (.agg [.lit (.bool a9), .lit (.int .i64 a10), .lit (.int .i64 a11), .lit (.int .i64 a12), .lit (.int .i64 a13), .lit (.int .i64 a14), .lit (.int .i64 a15), .lit (.bool a16), .lit (.int .u64 a17)]) [] := fun W' sp =>
    shut_agg9 (y0 := (.lit (.bool a9), [])) (y1 := (.lit (.int .i64 a10), [])) (y2 := (.lit (.int .i64 a11), [])) (y3 := (.lit (.int .i64 a12), [])) (y4 := (.lit (.int .i64 a13), [])) (y5 := (.lit (.int .i64 a14), [])) (y6 := (.lit (.int .i64 a15), [])) (y7 := (.lit (.bool a16), [])) (y8 := (.lit (.int .u64 a17), [])) Try.underlying24 (by kernel_rfl) cellsT0 ⟨1, by simp [DataW.trod, Try.underlying4]⟩ ⟨1, by simp [DataW.trod, Try.underlying3, w10]⟩ ⟨1, by simp [DataW.trod, Try.underlying3, w11]⟩ ⟨1, by simp [DataW.trod, Try.underlying3, w12]⟩ ⟨1, by simp [DataW.trod, Try.underlying3, w13]⟩ ⟨1, by simp [DataW.trod, Try.underlying3, w14]⟩ ⟨1, by simp [DataW.trod, Try.underlying3, w15]⟩ ⟨1, by simp [DataW.trod, Try.underlying4]⟩ ⟨1, by simp [DataW.trod, Try.underlying22, w17]⟩
  refine (walk  a0 a1 a2 a3 a4 a5 a6 a7 a8 a9 a10 a11 a12 a13 a14 a15 a16 a17 a18 a19 a20 w1 w2 w3 w4 w5 w6 w8 w10 w11 w12 w13 w14 w15 w17 w18 w19 w20 W ).mono fun e W' ⟨he, hg⟩ => ?_
  subst he
  exact ⟨_, rfl, post_belowJ (pa := []) (pv := []) hW' (fun _ _ _ => (trodAll_cons_mk (shut_bool Try.underlying4 _) trodAll_mk0)) (fun sp hsp => places (trodAll_cons_mk (reads0 _ sp) (trodAll_cons_mk (reads1 _ sp) (trodAll_cons_mk (shut_int Try.underlying22 w18) (trodAll_cons_mk (shut_int Try.underlying22 w19) (trodAll_cons_mk (shut_int Try.underlying22 w20) trodAll_mk0))))) (by simp)) (fun _ _ => rfl) (by simp)
    hg (ok_one (by kernel_rfl) rfl (okWide_bool_mk Try.underlying4 _))⟩

theorem over : Rows.busCapsRow.holds Try.pinned (OpenSpec.ofChange Rows.busCapsSpec) :=
  OpenClaim.holds_of_wide 3 Try.f3 rfl rfl rfl rfl rfl rfl rfl ⟨rfl, rfl, rfl, rfl, rfl⟩ rfl rfl rfl rfl rfl (by kernel_rfl) Try.func3 (by kernel_rfl)
    (of_decide_eq_true (by kernel_rfl)) (by unfold Func.isWrapper; first | (rw [if_pos (by decide +kernel)]; kernel_rfl) | (rw [if_neg (by decide +kernel)]; exact ⟨rfl, rfl⟩))
    (fun os started H enc _ => lifted os started H enc)

/-- THE STATEMENT. -/
theorem proved : Rows.BusCapsSaid := over
#print axioms proved
end Go.Proofs.Ytikibfpfieoabaa.busCaps
