/-
  RamApart returns true for every input, and leaves its arguments as they were: the step from the walk (RamApart) to the given statement, after the given shell, with structs by value opened and shut; and its tied card. The condition: the listed package variables read as the program's text lays them; the card ties that.
-/
import Derived.Test.YteebmikjikjhmaaDoorRamApart
import Derived.Test.YteebmikjikjhmaaDoorAgg6
import Derived.Test.YteebmikjikjhmaaDoorQList
import Derived.Test.YteebmikjikjhmaaDoorTie
import Derived.Test.YteebmikjikjhmaaDoorCards
import Derived.WalkKit
import Derived.LaidMore
import Derived.Stop.Joined
import Derived.SevenTiedAt
import Derived.ProofKit
import Derived.OpenShut
import Derived.ChangeSame
import Derived.JoinedOf
import Derived.JoinedAt
import Derived.RowKit3
import Derived.Lib.SmallJoins
namespace Go.Proofs.YteebmikjikjhmaaDoor.ramApart
open Go.ChangeShapes Go.WideShapes Go.ChangeAt Go.RowKit Go.Joins
set_option linter.unusedVariables false
set_option linter.unusedSimpArgs false
theorem cellsT0 : Tryd.prog.cellsOf 34 = 6 := by kernel_rfl
theorem places {H : Type} {enc : TypeId × Value → H} {P : Program} {w : World} {b : Nat} {sp : Nat → Bool} {hd : Bool} {ts : List TypeId} {vs : List Value} {ds : List (DataW H)} {ps qs : List MemPlace} (h : DataW.TrodAll enc P w b sp hd ts vs ds ps) (e : ps = qs) : DataW.TrodAll enc P w b sp hd ts vs ds qs := e ▸ h
theorem door_met (os : Os) (args : Array Value) : laidMetH Tryd.prog Rows.ramApartRow.laid ((World.doorLaid Tryd.prog 400 os).forCall (fun _ _ => 0) ⟨#[], args, []⟩).memory :=
  laidMetH_of_parts3 (fuel := 8) (laidMet_of_run' 8 (by kernel_rfl) (by kernel_rfl)) (by kernel_rfl) (by kernel_rfl)
set_option maxHeartbeats 2000000 in
set_option maxRecDepth 100000 in
theorem lifted (os : Os) (started : os.Started) (H : Type) (enc : TypeId × Value → H) :
    ReturnsInHanded {} Tryd.checked os 7 .any (fun w args => (Rows.ramApartSpec.pre enc Tryd.prog Tryd.f7 [] false w args ∧ laidMetH Tryd.prog Rows.ramApartRow.laid w) ∧ sizedMet enc Tryd.prog Tryd.f7 (OpenSpec.ofChange Rows.ramApartSpec) false w args) (Rows.ramApartSpec.post enc Tryd.prog Tryd.f7 false true false false) := by
  refine returnsInHanded_of_change_and (C := Tryd.checked) (X := fun w _ => laidMetH Tryd.prog Rows.ramApartRow.laid w) (fun _ _ _ hh h => h.of_heap hh) own started (by kernel_rfl) Tryd.func7
    (ChangeSpec.witness_shaped (enc := enc) (C := Tryd.checked) (os := os) (X := fun w _ => laidMetH Tryd.prog Rows.ramApartRow.laid w) false (World.doorLaid Tryd.prog 400 os) #[.agg #[.int .i64 0, .int .i64 0, .int .i64 0, .bool false, .int .u64 0, .int .u64 0], .agg #[.int .i64 0, .int .i64 0, .int .i64 0, .bool false, .int .u64 0, .int .u64 0]] 8 rfl (World.shaped_of_RefB (by kernel_rfl) (by kernel_rfl)) (by kernel_rfl) (by kernel_rfl) (by kernel_rfl) (door_met os _)) ?_
  intro W base args ds gs before hval0 hW _ _ hL _
  have hval : ∀ (j : Nat) t v, Tryd.f7.params[j]? = some t → args[j]? = some v → Value.okWide Tryd.prog W .any base t v := hval0
  have hW' := hW
  obtain ⟨p, q, hA0, hV, rfl, hfz, hnd⟩ := hW
  have hA : DataW.TrodAll enc Tryd.prog W 0 (fun _ => true) true Tryd.f7.params.toList args.toList ds p := hA0
  rw [Tryd.params7] at hA hval
  obtain ⟨v0, vs0, d0, ds0, p0, q0, hargs, rfl, rfl, h0, r0⟩ := trodAll_cons hA
  obtain ⟨v1, vs1, d1, ds1, p1, q1, rfl, rfl, rfl, h1, r1⟩ := trodAll_cons r0
  obtain ⟨rfl, rfl, rfl⟩ := trodAll_nil r1
  obtain rfl : args = #[v0, v1] := by cases args; simp_all
  obtain ⟨rfl, rfl⟩ := trodVars_none hV
  obtain ⟨c0_0, c0_1, c0_2, c0_3, c0_4, c0_5, y0_0, y0_1, y0_2, y0_3, y0_4, y0_5, m0, rfl, rfl, rfl, hy0_0, hy0_1, hy0_2, hy0_3, hy0_4, hy0_5⟩ := open_agg6 Tryd.underlying34 (by kernel_rfl) cellsT0 (hval 0 34 v0 rfl rfl) h0
  obtain ⟨a0, e0_0, rfl, w0⟩ := DataW.trod_int Tryd.underlying3 hy0_0
  obtain ⟨a1, e0_1, rfl, w1⟩ := DataW.trod_int Tryd.underlying3 hy0_1
  obtain ⟨a2, e0_2, rfl, w2⟩ := DataW.trod_int Tryd.underlying3 hy0_2
  obtain ⟨a3, e0_3, rfl⟩ := DataW.trod_bool Tryd.underlying4 hy0_3
  obtain ⟨a4, e0_4, rfl, w4⟩ := DataW.trod_int Tryd.underlying32 hy0_4
  obtain ⟨a5, e0_5, rfl, w5⟩ := DataW.trod_int Tryd.underlying32 hy0_5
  simp at e0_0 e0_1 e0_2 e0_3 e0_4 e0_5
  subst e0_0 e0_1 e0_2 e0_3 e0_4 e0_5
  obtain ⟨c1_0, c1_1, c1_2, c1_3, c1_4, c1_5, y1_0, y1_1, y1_2, y1_3, y1_4, y1_5, m1, rfl, rfl, rfl, hy1_0, hy1_1, hy1_2, hy1_3, hy1_4, hy1_5⟩ := open_agg6 Tryd.underlying34 (by kernel_rfl) cellsT0 (hval 1 34 v1 rfl rfl) h1
  obtain ⟨a6, e1_0, rfl, w6⟩ := DataW.trod_int Tryd.underlying3 hy1_0
  obtain ⟨a7, e1_1, rfl, w7⟩ := DataW.trod_int Tryd.underlying3 hy1_1
  obtain ⟨a8, e1_2, rfl, w8⟩ := DataW.trod_int Tryd.underlying3 hy1_2
  obtain ⟨a9, e1_3, rfl⟩ := DataW.trod_bool Tryd.underlying4 hy1_3
  obtain ⟨a10, e1_4, rfl, w10⟩ := DataW.trod_int Tryd.underlying32 hy1_4
  obtain ⟨a11, e1_5, rfl, w11⟩ := DataW.trod_int Tryd.underlying32 hy1_5
  simp at e1_0 e1_1 e1_2 e1_3 e1_4 e1_5
  subst e1_0 e1_1 e1_2 e1_3 e1_4 e1_5
  clear hA0 hval0
  simp only [List.append_nil] at hW'
  have reads0 : ∀ (W' : World) (sp : Nat → Bool), DataW.Trod enc Tryd.prog W' 0 sp true 34 (.agg #[.int .i64 a0, .int .i64 a1, .int .i64 a2, .bool a3, .int .u64 a4, .int .u64 a5]) (.agg [.lit (.int .i64 a0), .lit (.int .i64 a1), .lit (.int .i64 a2), .lit (.bool a3), .lit (.int .u64 a4), .lit (.int .u64 a5)]) [] := fun W' sp =>
    shut_agg6 (y0 := (.lit (.int .i64 a0), [])) (y1 := (.lit (.int .i64 a1), [])) (y2 := (.lit (.int .i64 a2), [])) (y3 := (.lit (.bool a3), [])) (y4 := (.lit (.int .u64 a4), [])) (y5 := (.lit (.int .u64 a5), [])) Tryd.underlying34 (by kernel_rfl) cellsT0 ⟨1, by simp [DataW.trod, Tryd.underlying3, w0]⟩ ⟨1, by simp [DataW.trod, Tryd.underlying3, w1]⟩ ⟨1, by simp [DataW.trod, Tryd.underlying3, w2]⟩ ⟨1, by simp [DataW.trod, Tryd.underlying4]⟩ ⟨1, by simp [DataW.trod, Tryd.underlying32, w4]⟩ ⟨1, by simp [DataW.trod, Tryd.underlying32, w5]⟩
  have reads1 : ∀ (W' : World) (sp : Nat → Bool), DataW.Trod enc Tryd.prog W' 0 sp true 34 (.agg #[.int .i64 a6, .int .i64 a7, .int .i64 a8, .bool a9, .int .u64 a10, .int .u64 a11]) (.agg [.lit (.int .i64 a6), .lit (.int .i64 a7), .lit (.int .i64 a8), .lit (.bool a9), .lit (.int .u64 a10), .lit (.int .u64 a11)]) [] := fun W' sp =>
    shut_agg6 (y0 := (.lit (.int .i64 a6), [])) (y1 := (.lit (.int .i64 a7), [])) (y2 := (.lit (.int .i64 a8), [])) (y3 := (.lit (.bool a9), [])) (y4 := (.lit (.int .u64 a10), [])) (y5 := (.lit (.int .u64 a11), [])) Tryd.underlying34 (by kernel_rfl) cellsT0 ⟨1, by simp [DataW.trod, Tryd.underlying3, w6]⟩ ⟨1, by simp [DataW.trod, Tryd.underlying3, w7]⟩ ⟨1, by simp [DataW.trod, Tryd.underlying3, w8]⟩ ⟨1, by simp [DataW.trod, Tryd.underlying4]⟩ ⟨1, by simp [DataW.trod, Tryd.underlying32, w10]⟩ ⟨1, by simp [DataW.trod, Tryd.underlying32, w11]⟩
  refine (walk a0 a1 a2 a3 a4 a5 a6 a7 a8 a9 a10 a11 w0 w1 w2 w4 w5 w6 w7 w8 w10 w11 W (tb_of_laid rfl hL)).mono fun e W' ⟨he, hg⟩ => ?_
  subst he
  exact ⟨_, rfl, post_belowQ (pa := []) (pv := []) hW' (fun _ _ _ => (trodAll_cons_mk (shut_bool Tryd.underlying4 _) trodAll_mk0)) (fun sp hsp => places (trodAll_cons_mk (reads0 _ sp) (trodAll_cons_mk (reads1 _ sp) trodAll_mk0)) (by simp)) (fun _ _ => rfl) (by simp)
    hg (ok_one (by kernel_rfl) rfl (okWide_bool_mk Tryd.underlying4 _))⟩

theorem over : Rows.ramApartRow.holds Tryd.pinned (OpenSpec.ofChange Rows.ramApartSpec) :=
  OpenClaim.holds_of_wide 7 Tryd.f7 rfl rfl rfl rfl rfl rfl rfl ⟨rfl, rfl, rfl, rfl, rfl⟩ rfl rfl rfl rfl rfl (by kernel_rfl) Tryd.func7 (by kernel_rfl)
    (of_decide_eq_true (by kernel_rfl)) (by unfold Func.isWrapper; first | (rw [if_pos (by decide +kernel)]; kernel_rfl) | (rw [if_neg (by decide +kernel)]; exact ⟨rfl, rfl⟩))
    (fun os started H enc _ => lifted os started H enc)

theorem said : Rows.RamApartSaid := over
/-- The statement: the tied card. -/
theorem proved : Rows.RamApartCardSaid :=
  Claim7.holds_tied_plain_at .later [] Rows.ramApartCard.laidKinds true Rows.ramApartCard.stood.harness Rows.ramApartCard.stood.looks
    said (fun _ h => by cases h) (by kernel_rfl) (fun _ h => by cases h) ramApart_row_tie rfl ⟨rfl, rfl⟩ (by kernel_rfl) rfl
    (fun f fn hf hfn => by
      obtain rfl : f = 7 := Option.some.inj ((show Tryd.prog.funcNamed Rows.ramApartRow.func = some 7 by kernel_rfl).symm.trans hf) |>.symm
      obtain rfl : fn = Tryd.f7 := (Option.some.inj (Tryd.func7.symm.trans hfn)).symm
      exact ⟨by kernel_rfl, fun j t ht => by
        rw [Tryd.params7] at ht
        have hm : t ∈ [34] := by simpa using Array.mem_of_getElem? ht
        have hall : ([34].all fun u => !Tryd.prog.wantsStandIn u) = true := by kernel_rfl
        exact (show Tryd.prog.wantsStandIn t = false by simpa using List.all_eq_true.1 hall t hm)⟩)
    (by kernel_rfl)
#print axioms proved
end Go.Proofs.YteebmikjikjhmaaDoor.ramApart
