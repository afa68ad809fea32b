/-
  The contract of the law's own 'known': bounds of all, and of 16 bytes, are as the chapter's examples say. No condition.
-/
import Derived.Test.YtiaklnbeklfnpaaBLay
import Derived.Test.YtiaklnbeklfnpaaBOfW
namespace Go.Proofs.Ytiaklnbeklfnpaa
open Go.ChangeShapes Go.WideShapes Go.ChangeAt Go.RowKit
set_option linter.unusedVariables false
set_option linter.unusedSimpArgs false

theorem lay_k (w : World) :
    Calls Try.prog 18 #[.agg #[.bool false, .int .i64 0, .int .i64 0, .int .i64 0, .int .i64 0, .int .i64 0, .int .i64 0, .bool false, .int .u64 4096], .int .u64 16] w fun e' w' => e' = .returned (.tuple #[.agg #[.bool false, .int .i64 0, .int .i64 0, .int .i64 0, .int .i64 0, .int .i64 4096, .int .i64 16, .bool false, .int .u64 4096], .bool true]) ∧ Kp w w' := by
  have c := lay_w false 0 0 0 0 0 0 false 4096 16 (by omega) (by omega) (by omega) (by omega) w
  rw [show layE 4096 16 = 0 by decide +kernel, show layB 4096 16 = 4096 by decide +kernel, show layT 4096 16 = 16 by decide +kernel, show bigB 16 = false by decide +kernel, show layX 4096 16 = true by decide +kernel] at c
  exact c
theorem of_k1 (w : World) :
    Calls Try.prog 19 #[.agg #[.bool false, .int .i64 0, .int .i64 0, .int .i64 0, .int .i64 0, .int .i64 4096, .int .i64 16, .bool false, .int .u64 4096]] w fun e' w' => e' = .returned (.agg #[.int .u64 4096, .int .u64 4112, .bool false]) ∧ Kp w w' := by
  have c := of_w false 0 0 0 0 4096 16 false 4096 (by omega) (by omega) (by omega) (by omega) (by omega) (by omega) (by omega) (by omega) w
  rw [show ofB 0 4096 4096 = 4096 by decide +kernel, show ofT 0 4096 16 false 4096 = 4112 by decide +kernel, show ofO 0 4096 16 false 4096 = false by decide +kernel] at c
  exact c
theorem of_k2 (w : World) :
    Calls Try.prog 19 #[.agg #[.bool false, .int .i64 0, .int .i64 0, .int .i64 0, .int .i64 52, .int .i64 0, .int .i64 0, .bool true, .int .u64 77]] w fun e' w' => e' = .returned (.agg #[.int .u64 0, .int .u64 0, .bool true]) ∧ Kp w w' := by
  have c := of_w false 0 0 0 52 0 0 true 77 (by omega) (by omega) (by omega) (by omega) (by omega) (by omega) (by omega) (by omega) w
  rw [show ofB 52 0 77 = 0 by decide +kernel, show ofT 52 0 0 true 77 = 0 by decide +kernel, show ofO 52 0 0 true 77 = true by decide +kernel] at c
  exact c
theorem in_k1 (w : World) :
    Calls Try.prog 6 #[.agg #[.int .u64 4096, .int .u64 4112, .bool false], .int .u64 4111, .int .i64 1] w fun e w' => e = .returned (.bool true) ∧ Kp w w' := by
  have c := in_w 4096 4112 false 4111 1 (by omega) (by omega) (by omega) (by omega) (by omega) (by omega) w
  rw [show inB 4096 4112 false 4111 1 = true by decide +kernel] at c
  exact c
theorem in_k2 (w : World) :
    Calls Try.prog 6 #[.agg #[.int .u64 4096, .int .u64 4112, .bool false], .int .u64 4111, .int .i64 2] w fun e w' => e = .returned (.bool false) ∧ Kp w w' := by
  have c := in_w 4096 4112 false 4111 2 (by omega) (by omega) (by omega) (by omega) (by omega) (by omega) w
  rw [show inB 4096 4112 false 4111 2 = false by decide +kernel] at c
  exact c
set_option maxHeartbeats 4000000 in
theorem known_w (w : World) :
    Calls Try.prog 8 #[] w fun e w' => e = .returned (.bool true) ∧ Kp w w' := by
  go_enter Try.func8, Try.ntmps8
  go_wp2_with (first
    | (go_at_call 18; (with_reducible refine (lay_k _).mono ?_); rintro e' w1 ⟨rfl, qk⟩; have KW : Kp w w1 := qk; clear qk)
    | (go_at_call 19; (with_reducible refine (of_k1 _).mono ?_); rintro e' w2 ⟨rfl, qk⟩; have c7 : w2.cell? ⟨w1.heap.size, 7, none⟩ = some (.bool false) := (qk.cell (p := ⟨w1.heap.size, 7, none⟩) (by simp)).trans (by simp [go_sem]); have hz : w1.heap.size < w2.heap.size := (by have := qk.size; simp at this; omega); have KW2 : Kp w w2 := (KW.allocs _ _).trans qk; clear qk)
    | (go_at_call 19; (with_reducible refine (of_k2 _).mono ?_); rintro e' w3 ⟨rfl, qk⟩; have d7 : w3.cell? ⟨w1.heap.size, 7, none⟩ = some (.bool false) := (qk.cell (p := ⟨w1.heap.size, 7, none⟩) (by simp; omega)).trans (by simp [go_sem, *]); have d0 : w3.cell? ⟨w2.heap.size, 0, none⟩ = some (.int .u64 4096) := (qk.cell (p := ⟨w2.heap.size, 0, none⟩) (by simp)).trans (by simp [go_sem]); have d1 : w3.cell? ⟨w2.heap.size, 1, none⟩ = some (.int .u64 4112) := (qk.cell (p := ⟨w2.heap.size, 1, none⟩) (by simp)).trans (by simp [go_sem]); have d2 : w3.cell? ⟨w2.heap.size, 2, none⟩ = some (.bool false) := (qk.cell (p := ⟨w2.heap.size, 2, none⟩) (by simp)).trans (by simp [go_sem]); have hz2 : w2.heap.size < w3.heap.size := (by have := qk.size; simp at this; omega); have KW3 : Kp w w3 := (KW2.allocs _ _).trans qk; clear qk)
    | (go_at_call 6; (with_reducible refine (in_k1 _).mono ?_); rintro e' w4 ⟨rfl, qk⟩; have e0 := (qk.cell (p := ⟨w2.heap.size, 0, none⟩) hz2).trans d0; have e1 := (qk.cell (p := ⟨w2.heap.size, 1, none⟩) hz2).trans d1; have e2 := (qk.cell (p := ⟨w2.heap.size, 2, none⟩) hz2).trans d2; have KW4 : Kp w w4 := KW3.trans qk; clear qk)
    | (go_at_call 6; (with_reducible refine (in_k2 _).mono ?_); rintro e' w5 ⟨rfl, qk⟩; have KW5 : Kp w w5 := KW4.trans qk; clear qk))
  go_ret
  exact ⟨rfl, KW5⟩
end Go.Proofs.Ytiaklnbeklfnpaa
