/-
  Contracts of base's readers: of those that part. No condition.
  Room for eleven values in a block, for regions that draw their order. No condition.
-/
import Derived.Test.YtlfeandnpflaaaaGreatDoorMB
import Derived.Test.YtlfeandnpflaaaaGreatDoorMA
namespace Go.Proofs.YtlfeandnpflaaaaGreatDoor
open Go.ChangeShapes Go.WideShapes Go.ChangeAt Go.RowKit
set_option linter.unusedVariables false
set_option linter.unusedSimpArgs false

theorem shift_w (fn : Int) (b : Bool) (hb : shiftB fn = b) (w : World) :
    Calls Tryz.prog 121 #[.int .i64 fn] w fun e w' => e = .returned (.bool b) ∧ w = w' := by
  subst hb
  rcases (show fn = 1 ∨ fn = 5 ∨ fn = 9 ∨ (¬ fn = 1 ∧ ¬ fn = 5 ∧ ¬ fn = 9) by omega) with rfl | rfl | rfl | ⟨h1, h2, h3⟩
  · go_enter Tryz.func121, Tryz.ntmps121
    go_wp2
    go_ret
    exact ⟨rfl, rfl⟩
  · go_enter Tryz.func121, Tryz.ntmps121
    go_wp2
    go_ret
    exact ⟨rfl, rfl⟩
  · go_enter Tryz.func121, Tryz.ntmps121
    go_wp2
    go_ret
    exact ⟨rfl, rfl⟩
  · have t1 : (fn == 1) = false := by simp; omega
    have t2 : (fn == 5) = false := by simp; omega
    have t3 : (fn == 9) = false := by simp; omega
    go_enter Tryz.func121, Tryz.ntmps121
    go_wp2
    go_ret
    exact ⟨ret_bool (by simp [shiftB, *]), rfl⟩
set_option maxHeartbeats 2000000 in
theorem turned_0 (op fn rd r1 r2 imm wid : Int) (wo us : Bool) (t1 : (fn == 0) = true) (w : World) :
    Calls Tryz.prog 122 #[.agg #[.int .i64 op, .int .i64 fn, .int .i64 rd, .int .i64 r1, .int .i64 r2, .int .i64 imm, .int .i64 wid, .bool wo, .bool us, .int .i64 0, .int .u32 0]] w fun e w' => e = .returned (.tuple #[.agg #[.int .i64 op, .int .i64 8, .int .i64 rd, .int .i64 r1, .int .i64 r2, .int .i64 imm, .int .i64 wid, .bool wo, .bool us, .int .i64 0, .int .u32 0], .bool true]) ∧ Kp w w' := by
  go_enter Tryz.func122, Tryz.ntmps122
  go_wp2
  refine bodyPost_ret ?_ rfl ⟨rfl, by (repeat' (first | with_reducible refine Kp.setCell ?_ ?_ _ | with_reducible refine Kp.allocs ?_ _ _ | with_reducible refine Kp.drew ?_ | with_reducible refine Kp.drewN ?_ _)); all_goals first | exact Kp.refl w | (dsimp only; omega)⟩
  simp [results, Tryz.results122, go_sem]
set_option maxHeartbeats 2000000 in
theorem turned_5 (op fn rd r1 r2 imm wid : Int) (wo us : Bool) (t1 : (fn == 0) = false) (t2 : (fn == 5) = true) (w : World) :
    Calls Tryz.prog 122 #[.agg #[.int .i64 op, .int .i64 fn, .int .i64 rd, .int .i64 r1, .int .i64 r2, .int .i64 imm, .int .i64 wid, .bool wo, .bool us, .int .i64 0, .int .u32 0]] w fun e w' => e = .returned (.tuple #[.agg #[.int .i64 op, .int .i64 9, .int .i64 rd, .int .i64 r1, .int .i64 r2, .int .i64 imm, .int .i64 wid, .bool wo, .bool us, .int .i64 0, .int .u32 0], .bool true]) ∧ Kp w w' := by
  go_enter Tryz.func122, Tryz.ntmps122
  go_wp2
  refine bodyPost_ret ?_ rfl ⟨rfl, by (repeat' (first | with_reducible refine Kp.setCell ?_ ?_ _ | with_reducible refine Kp.allocs ?_ _ _ | with_reducible refine Kp.drew ?_ | with_reducible refine Kp.drewN ?_ _)); all_goals first | exact Kp.refl w | (dsimp only; omega)⟩
  simp [results, Tryz.results122, go_sem]
set_option maxHeartbeats 2000000 in
theorem turned_n (op fn rd r1 r2 imm wid : Int) (wo us : Bool) (t1 : (fn == 0) = false) (t2 : (fn == 5) = false) (w : World) :
    Calls Tryz.prog 122 #[.agg #[.int .i64 op, .int .i64 fn, .int .i64 rd, .int .i64 r1, .int .i64 r2, .int .i64 imm, .int .i64 wid, .bool wo, .bool us, .int .i64 0, .int .u32 0]] w fun e w' => e = .returned (.tuple #[.agg #[.int .i64 0, .int .i64 0, .int .i64 0, .int .i64 0, .int .i64 0, .int .i64 0, .int .i64 0, .bool false, .bool false, .int .i64 0, .int .u32 0], .bool false]) ∧ Kp w w' := by
  go_enter Tryz.func122, Tryz.ntmps122
  go_wp2
  refine bodyPost_ret ?_ rfl ⟨rfl, by (repeat' (first | with_reducible refine Kp.setCell ?_ ?_ _ | with_reducible refine Kp.allocs ?_ _ _ | with_reducible refine Kp.drew ?_ | with_reducible refine Kp.drewN ?_ _)); all_goals first | exact Kp.refl w | (dsimp only; omega)⟩
  simp [results, Tryz.results122, go_sem]
end Go.Proofs.YtlfeandnpflaaaaGreatDoor
namespace Go.Proofs.YtlfeandnpflaaaaGreatDoor
open Go.ChangeShapes Go.WideShapes Go.ChangeAt Go.RowKit
set_option linter.unusedVariables false
set_option linter.unusedSimpArgs false

theorem Rm.out11 {B : Nat} {w : World} (h : Rm B 11 w) : (∃ v, w.cell? ⟨B, 0, none⟩ = some v) ∧ w.frozen? ⟨B, 0, none⟩ = false ∧ (∃ v, w.cell? ⟨B, 1, none⟩ = some v) ∧ w.frozen? ⟨B, 1, none⟩ = false ∧ (∃ v, w.cell? ⟨B, 2, none⟩ = some v) ∧ w.frozen? ⟨B, 2, none⟩ = false ∧ (∃ v, w.cell? ⟨B, 3, none⟩ = some v) ∧ w.frozen? ⟨B, 3, none⟩ = false ∧ (∃ v, w.cell? ⟨B, 4, none⟩ = some v) ∧ w.frozen? ⟨B, 4, none⟩ = false ∧ (∃ v, w.cell? ⟨B, 5, none⟩ = some v) ∧ w.frozen? ⟨B, 5, none⟩ = false ∧ (∃ v, w.cell? ⟨B, 6, none⟩ = some v) ∧ w.frozen? ⟨B, 6, none⟩ = false ∧ (∃ v, w.cell? ⟨B, 7, none⟩ = some v) ∧ w.frozen? ⟨B, 7, none⟩ = false ∧ (∃ v, w.cell? ⟨B, 8, none⟩ = some v) ∧ w.frozen? ⟨B, 8, none⟩ = false ∧ (∃ v, w.cell? ⟨B, 9, none⟩ = some v) ∧ w.frozen? ⟨B, 9, none⟩ = false ∧ (∃ v, w.cell? ⟨B, 10, none⟩ = some v) ∧ w.frozen? ⟨B, 10, none⟩ = false :=
  ⟨(h 0 (by omega)).1, (h 0 (by omega)).2, (h 1 (by omega)).1, (h 1 (by omega)).2, (h 2 (by omega)).1, (h 2 (by omega)).2, (h 3 (by omega)).1, (h 3 (by omega)).2, (h 4 (by omega)).1, (h 4 (by omega)).2, (h 5 (by omega)).1, (h 5 (by omega)).2, (h 6 (by omega)).1, (h 6 (by omega)).2, (h 7 (by omega)).1, (h 7 (by omega)).2, (h 8 (by omega)).1, (h 8 (by omega)).2, (h 9 (by omega)).1, (h 9 (by omega)).2, (h 10 (by omega)).1, (h 10 (by omega)).2⟩
theorem quiet_kp {P : Program} {f : FuncId} {args : Array Value} {v : Ending} {w : World} (c : Calls P f args w fun e w' => e = v ∧ w = w') : Calls P f args w fun e w' => e = v ∧ Kp w w' :=
  c.mono fun _ _ h => ⟨h.1, by rw [← h.2]; exact Kp.refl _⟩
end Go.Proofs.YtlfeandnpflaaaaGreatDoor
