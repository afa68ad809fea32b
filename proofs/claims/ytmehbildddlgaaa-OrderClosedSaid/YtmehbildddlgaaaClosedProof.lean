/-
  OrderClosed returns true for every input, and leaves its arguments as they were: the step from the walk (OrderClosed) to the given statement, after the given shell, with structs by value opened and shut. No condition.
-/
import Derived.Test.YtmehbildddlgaaaKB
import Derived.Test.YtmehbildddlgaaaAgg9
import Derived.Test.YtmehbildddlgaaaOHasL
import Derived.WalkKit
import Derived.ProofKit
import Derived.OpenShut
import Derived.ChangeSame
import Derived.JoinedOf
import Derived.JoinedAt
import Derived.RowKit3
import Derived.Lib.SmallJoins
namespace Go.Proofs.Ytmehbildddlgaaa.orderClosed
open Go.ChangeShapes Go.WideShapes Go.ChangeAt Go.RowKit Go.Joins
set_option linter.unusedVariables false
set_option linter.unusedSimpArgs false
theorem cellsT0 : Try.prog.cellsOf 25 = 9 := by kernel_rfl
theorem places {H : Type} {enc : TypeId × Value → H} {P : Program} {w : World} {b : Nat} {sp : Nat → Bool} {hd : Bool} {ts : List TypeId} {vs : List Value} {ds : List (DataW H)} {ps qs : List MemPlace} (h : DataW.TrodAll enc P w b sp hd ts vs ds ps) (e : ps = qs) : DataW.TrodAll enc P w b sp hd ts vs ds qs := e ▸ h
set_option maxHeartbeats 2000000 in
set_option maxRecDepth 100000 in
theorem lifted (os : Os) (started : os.Started) (H : Type) (enc : TypeId × Value → H) :
    ReturnsInHanded {} Try.checked os 4 .any (Rows.orderClosedSpec.pre6 enc Try.prog Try.f4 Rows.orderClosedRow.domain false) (Rows.orderClosedSpec.post enc Try.prog Try.f4 false true false false) := by
  refine returnsInHanded_of_change (C := Try.checked) own started (by kernel_rfl) Try.func4
    (ChangeSpec.witness6 (enc := enc) (C := Try.checked) false ⟨#[], #[.slice none 0 0, .agg #[.bool false, .int .i64 0, .int .i64 0, .int .i64 0, .int .i64 0, .int .i64 0, .int .i64 0, .bool false, .int .u64 0], .agg #[.bool false, .int .i64 0, .int .i64 0, .int .i64 0, .int .i64 0, .int .i64 0, .int .i64 0, .bool false, .int .u64 0], .agg #[.bool false, .int .i64 0, .int .i64 0, .int .i64 0, .int .i64 0, .int .i64 0, .int .i64 0, .bool false, .int .u64 0], .int .u64 0, .int .u64 0, .int .i64 0], []⟩ 8 (by kernel_rfl) (by kernel_rfl) (by kernel_rfl) (by kernel_rfl)) ?_
  intro W base args ds gs before hval0 hW hcnd _
  have hval : ∀ (j : Nat) t v, Try.f4.params[j]? = some t → args[j]? = some v → Value.okWide Try.prog W .any base t v := hval0
  have hW' := hW
  obtain ⟨p, q, hA0, hV, rfl, hfz, hnd⟩ := hW
  have hA : DataW.TrodAll enc Try.prog W 0 (fun _ => true) true Try.f4.params.toList args.toList ds p := hA0
  rw [Try.params4] at hA hval
  obtain ⟨v0, vs0, d0, ds0, p0, q0, hargs, rfl, rfl, h0, r0⟩ := trodAll_cons hA
  obtain ⟨v1, vs1, d1, ds1, p1, q1, rfl, rfl, rfl, h1, r1⟩ := trodAll_cons r0
  obtain ⟨v2, vs2, d2, ds2, p2, q2, rfl, rfl, rfl, h2, r2⟩ := trodAll_cons r1
  obtain ⟨v3, vs3, d3, ds3, p3, q3, rfl, rfl, rfl, h3, r3⟩ := trodAll_cons r2
  obtain ⟨v4, vs4, d4, ds4, p4, q4, rfl, rfl, rfl, h4, r4⟩ := trodAll_cons r3
  obtain ⟨v5, vs5, d5, ds5, p5, q5, rfl, rfl, rfl, h5, r5⟩ := trodAll_cons r4
  obtain ⟨v6, vs6, d6, ds6, p6, q6, rfl, rfl, rfl, h6, r6⟩ := trodAll_cons r5
  obtain ⟨rfl, rfl, rfl⟩ := trodAll_nil r6
  obtain rfl : args = #[v0, v1, v2, v3, v4, v5, v6] := by cases args; simp_all
  obtain ⟨rfl, rfl⟩ := trodVars_none hV
  obtain ⟨L0, A0, n0, rfl, hrd0, hraw0, hlen0⟩ := open_caps (hval 0 22 v0 rfl rfl) h0
  obtain ⟨c1_0, c1_1, c1_2, c1_3, c1_4, c1_5, c1_6, c1_7, c1_8, y1_0, y1_1, y1_2, y1_3, y1_4, y1_5, y1_6, y1_7, y1_8, m1, rfl, rfl, rfl, hy1_0, hy1_1, hy1_2, hy1_3, hy1_4, hy1_5, hy1_6, hy1_7, hy1_8⟩ := open_agg9 Try.underlying25 (by kernel_rfl) cellsT0 (hval 1 25 v1 rfl rfl) h1
  obtain ⟨a0, e1_0, rfl⟩ := DataW.trod_bool Try.underlying4 hy1_0
  obtain ⟨a1, e1_1, rfl, w1⟩ := DataW.trod_int Try.underlying3 hy1_1
  obtain ⟨a2, e1_2, rfl, w2⟩ := DataW.trod_int Try.underlying3 hy1_2
  obtain ⟨a3, e1_3, rfl, w3⟩ := DataW.trod_int Try.underlying3 hy1_3
  obtain ⟨a4, e1_4, rfl, w4⟩ := DataW.trod_int Try.underlying3 hy1_4
  obtain ⟨a5, e1_5, rfl, w5⟩ := DataW.trod_int Try.underlying3 hy1_5
  obtain ⟨a6, e1_6, rfl, w6⟩ := DataW.trod_int Try.underlying3 hy1_6
  obtain ⟨a7, e1_7, rfl⟩ := DataW.trod_bool Try.underlying4 hy1_7
  obtain ⟨a8, e1_8, rfl, w8⟩ := DataW.trod_int Try.underlying23 hy1_8
  simp at e1_0 e1_1 e1_2 e1_3 e1_4 e1_5 e1_6 e1_7 e1_8
  subst e1_0 e1_1 e1_2 e1_3 e1_4 e1_5 e1_6 e1_7 e1_8
  obtain ⟨c2_0, c2_1, c2_2, c2_3, c2_4, c2_5, c2_6, c2_7, c2_8, y2_0, y2_1, y2_2, y2_3, y2_4, y2_5, y2_6, y2_7, y2_8, m2, rfl, rfl, rfl, hy2_0, hy2_1, hy2_2, hy2_3, hy2_4, hy2_5, hy2_6, hy2_7, hy2_8⟩ := open_agg9 Try.underlying25 (by kernel_rfl) cellsT0 (hval 2 25 v2 rfl rfl) h2
  obtain ⟨a9, e2_0, rfl⟩ := DataW.trod_bool Try.underlying4 hy2_0
  obtain ⟨a10, e2_1, rfl, w10⟩ := DataW.trod_int Try.underlying3 hy2_1
  obtain ⟨a11, e2_2, rfl, w11⟩ := DataW.trod_int Try.underlying3 hy2_2
  obtain ⟨a12, e2_3, rfl, w12⟩ := DataW.trod_int Try.underlying3 hy2_3
  obtain ⟨a13, e2_4, rfl, w13⟩ := DataW.trod_int Try.underlying3 hy2_4
  obtain ⟨a14, e2_5, rfl, w14⟩ := DataW.trod_int Try.underlying3 hy2_5
  obtain ⟨a15, e2_6, rfl, w15⟩ := DataW.trod_int Try.underlying3 hy2_6
  obtain ⟨a16, e2_7, rfl⟩ := DataW.trod_bool Try.underlying4 hy2_7
  obtain ⟨a17, e2_8, rfl, w17⟩ := DataW.trod_int Try.underlying23 hy2_8
  simp at e2_0 e2_1 e2_2 e2_3 e2_4 e2_5 e2_6 e2_7 e2_8
  subst e2_0 e2_1 e2_2 e2_3 e2_4 e2_5 e2_6 e2_7 e2_8
  obtain ⟨c3_0, c3_1, c3_2, c3_3, c3_4, c3_5, c3_6, c3_7, c3_8, y3_0, y3_1, y3_2, y3_3, y3_4, y3_5, y3_6, y3_7, y3_8, m3, rfl, rfl, rfl, hy3_0, hy3_1, hy3_2, hy3_3, hy3_4, hy3_5, hy3_6, hy3_7, hy3_8⟩ := open_agg9 Try.underlying25 (by kernel_rfl) cellsT0 (hval 3 25 v3 rfl rfl) h3
  obtain ⟨a18, e3_0, rfl⟩ := DataW.trod_bool Try.underlying4 hy3_0
  obtain ⟨a19, e3_1, rfl, w19⟩ := DataW.trod_int Try.underlying3 hy3_1
  obtain ⟨a20, e3_2, rfl, w20⟩ := DataW.trod_int Try.underlying3 hy3_2
  obtain ⟨a21, e3_3, rfl, w21⟩ := DataW.trod_int Try.underlying3 hy3_3
  obtain ⟨a22, e3_4, rfl, w22⟩ := DataW.trod_int Try.underlying3 hy3_4
  obtain ⟨a23, e3_5, rfl, w23⟩ := DataW.trod_int Try.underlying3 hy3_5
  obtain ⟨a24, e3_6, rfl, w24⟩ := DataW.trod_int Try.underlying3 hy3_6
  obtain ⟨a25, e3_7, rfl⟩ := DataW.trod_bool Try.underlying4 hy3_7
  obtain ⟨a26, e3_8, rfl, w26⟩ := DataW.trod_int Try.underlying23 hy3_8
  simp at e3_0 e3_1 e3_2 e3_3 e3_4 e3_5 e3_6 e3_7 e3_8
  subst e3_0 e3_1 e3_2 e3_3 e3_4 e3_5 e3_6 e3_7 e3_8
  obtain ⟨a27, rfl, rfl, rfl, w27⟩ := open_int Try.underlying23 (hval 4 23 v4 rfl rfl) h4
  obtain ⟨a28, rfl, rfl, rfl, w28⟩ := open_int Try.underlying23 (hval 5 23 v5 rfl rfl) h5
  obtain ⟨a29, rfl, rfl, rfl, w29⟩ := open_int Try.underlying3 (hval 6 3 v6 rfl rfl) h6
  clear hA0 hval0
  simp only [List.append_nil] at hW'
  have reads1 : ∀ (W' : World) (sp : Nat → Bool), DataW.Trod enc Try.prog W' 0 sp true 25 (.agg #[.bool a0, .int .i64 a1, .int .i64 a2, .int .i64 a3, .int .i64 a4, .int .i64 a5, .int .i64 a6, .bool a7, .int .u64 a8]) (.agg [.lit (.bool a0), .lit (.int .i64 a1), .lit (.int .i64 a2), .lit (.int .i64 a3), .lit (.int .i64 a4), .lit (.int .i64 a5), .lit (.int .i64 a6), .lit (.bool a7), .lit (.int .u64 a8)]) [] := fun W' sp =>
    shut_agg9 (y0 := (.lit (.bool a0), [])) (y1 := (.lit (.int .i64 a1), [])) (y2 := (.lit (.int .i64 a2), [])) (y3 := (.lit (.int .i64 a3), [])) (y4 := (.lit (.int .i64 a4), [])) (y5 := (.lit (.int .i64 a5), [])) (y6 := (.lit (.int .i64 a6), [])) (y7 := (.lit (.bool a7), [])) (y8 := (.lit (.int .u64 a8), [])) Try.underlying25 (by kernel_rfl) cellsT0 ⟨1, by simp [DataW.trod, Try.underlying4]⟩ ⟨1, by simp [DataW.trod, Try.underlying3, w1]⟩ ⟨1, by simp [DataW.trod, Try.underlying3, w2]⟩ ⟨1, by simp [DataW.trod, Try.underlying3, w3]⟩ ⟨1, by simp [DataW.trod, Try.underlying3, w4]⟩ ⟨1, by simp [DataW.trod, Try.underlying3, w5]⟩ ⟨1, by simp [DataW.trod, Try.underlying3, w6]⟩ ⟨1, by simp [DataW.trod, Try.underlying4]⟩ ⟨1, by simp [DataW.trod, Try.underlying23, w8]⟩
  have reads2 : ∀ (W' : World) (sp : Nat → Bool), DataW.Trod enc Try.prog W' 0 sp true 25 (.agg #[.bool a9, .int .i64 a10, .int .i64 a11, .int .i64 a12, .int .i64 a13, .int .i64 a14, .int .i64 a15, .bool a16, .int .u64 a17]) (.agg [.lit (.bool a9), .lit (.int .i64 a10), .lit (.int .i64 a11), .lit (.int .i64 a12), .lit (.int .i64 a13), .lit (.int .i64 a14), .lit (.int .i64 a15), .lit (.bool a16), .lit (.int .u64 a17)]) [] := fun W' sp =>
    shut_agg9 (y0 := (.lit (.bool a9), [])) (y1 := (.lit (.int .i64 a10), [])) (y2 := (.lit (.int .i64 a11), [])) (y3 := (.lit (.int .i64 a12), [])) (y4 := (.lit (.int .i64 a13), [])) (y5 := (.lit (.int .i64 a14), [])) (y6 := (.lit (.int .i64 a15), [])) (y7 := (.lit (.bool a16), [])) (y8 := (.lit (.int .u64 a17), [])) Try.underlying25 (by kernel_rfl) cellsT0 ⟨1, by simp [DataW.trod, Try.underlying4]⟩ ⟨1, by simp [DataW.trod, Try.underlying3, w10]⟩ ⟨1, by simp [DataW.trod, Try.underlying3, w11]⟩ ⟨1, by simp [DataW.trod, Try.underlying3, w12]⟩ ⟨1, by simp [DataW.trod, Try.underlying3, w13]⟩ ⟨1, by simp [DataW.trod, Try.underlying3, w14]⟩ ⟨1, by simp [DataW.trod, Try.underlying3, w15]⟩ ⟨1, by simp [DataW.trod, Try.underlying4]⟩ ⟨1, by simp [DataW.trod, Try.underlying23, w17]⟩
  have reads3 : ∀ (W' : World) (sp : Nat → Bool), DataW.Trod enc Try.prog W' 0 sp true 25 (.agg #[.bool a18, .int .i64 a19, .int .i64 a20, .int .i64 a21, .int .i64 a22, .int .i64 a23, .int .i64 a24, .bool a25, .int .u64 a26]) (.agg [.lit (.bool a18), .lit (.int .i64 a19), .lit (.int .i64 a20), .lit (.int .i64 a21), .lit (.int .i64 a22), .lit (.int .i64 a23), .lit (.int .i64 a24), .lit (.bool a25), .lit (.int .u64 a26)]) [] := fun W' sp =>
    shut_agg9 (y0 := (.lit (.bool a18), [])) (y1 := (.lit (.int .i64 a19), [])) (y2 := (.lit (.int .i64 a20), [])) (y3 := (.lit (.int .i64 a21), [])) (y4 := (.lit (.int .i64 a22), [])) (y5 := (.lit (.int .i64 a23), [])) (y6 := (.lit (.int .i64 a24), [])) (y7 := (.lit (.bool a25), [])) (y8 := (.lit (.int .u64 a26), [])) Try.underlying25 (by kernel_rfl) cellsT0 ⟨1, by simp [DataW.trod, Try.underlying4]⟩ ⟨1, by simp [DataW.trod, Try.underlying3, w19]⟩ ⟨1, by simp [DataW.trod, Try.underlying3, w20]⟩ ⟨1, by simp [DataW.trod, Try.underlying3, w21]⟩ ⟨1, by simp [DataW.trod, Try.underlying3, w22]⟩ ⟨1, by simp [DataW.trod, Try.underlying3, w23]⟩ ⟨1, by simp [DataW.trod, Try.underlying3, w24]⟩ ⟨1, by simp [DataW.trod, Try.underlying4]⟩ ⟨1, by simp [DataW.trod, Try.underlying23, w26]⟩
  have hlt0 : ∀ x ∈ p0, x.block < W.heap.size := fun x hx => hW'.lt x (by simpa using hx)
  have hst0 : ∀ (W' : World) (hb : Below W.heap.size W W') (sp : Nat → Bool), (∀ p ∈ p0, sp p.block = true) → DataW.Trod enc Try.prog W' 0 sp true 22 (.slice A0 L0.length n0) d0 p0 := fun W' hb sp hsp => WideElems.Trod_stays (by kernel_rfl) (by kernel_rfl) (of_decide_eq_true (by kernel_rfl)) h0 (fun x hx => hb.same (hlt0 x hx)) hsp
  refine (walk L0 A0 n0 a0 a1 a2 a3 a4 a5 a6 a7 a8 a9 a10 a11 a12 a13 a14 a15 a16 a17 a18 a19 a20 a21 a22 a23 a24 a25 a26 a27 a28 a29 w1 w2 w3 w4 w5 w6 w8 w10 w11 w12 w13 w14 w15 w17 w19 w20 w21 w22 w23 w24 w26 w27 w28 w29 W hrd0 hraw0 hlen0).mono fun e W' ⟨he, hg⟩ => ?_
  subst he
  exact ⟨_, rfl, post_below (pa := p0) (pv := []) hW' (fun _ _ _ => (trodAll_cons_mk (shut_bool Try.underlying4 _) trodAll_mk0)) (fun sp hsp => places (trodAll_cons_mk (hst0 _ hg sp (fun p hp => hsp p (by simpa using hp))) (trodAll_cons_mk (reads1 _ sp) (trodAll_cons_mk (reads2 _ sp) (trodAll_cons_mk (reads3 _ sp) (trodAll_cons_mk (shut_int Try.underlying23 w27) (trodAll_cons_mk (shut_int Try.underlying23 w28) (trodAll_cons_mk (shut_int Try.underlying3 w29) trodAll_mk0))))))) (by simp)) (fun _ _ => rfl) (by simp)
    hg (ok_one (by kernel_rfl) rfl (okWide_bool_mk Try.underlying4 _))⟩

theorem over : Rows.orderClosedRow.holds Try.pinned (OpenSpec.ofChange Rows.orderClosedSpec) :=
  OpenClaim.holds_of_wide 4 Try.f4 rfl rfl rfl rfl rfl rfl rfl ⟨rfl, rfl, rfl, rfl, rfl⟩ rfl rfl rfl rfl rfl (by kernel_rfl) Try.func4 (by kernel_rfl)
    (of_decide_eq_true (by kernel_rfl)) (by unfold Func.isWrapper; first | (rw [if_pos (by decide +kernel)]; kernel_rfl) | (rw [if_neg (by decide +kernel)]; exact ⟨rfl, rfl⟩))
    (fun os started H enc _ => lifted os started H enc)

/-- THE STATEMENT. -/
theorem proved : Rows.OrderClosedSaid := over
#print axioms proved
end Go.Proofs.Ytmehbildddlgaaa.orderClosed
