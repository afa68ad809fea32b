/-
  The contract of layer 6's own 'works': what is sealed is opened by what can. No condition.
-/
import Derived.Test.YtmehbildddlgaaaOWk
namespace Go.Proofs.Ytmehbildddlgaaa
open Go.ChangeShapes Go.WideShapes Go.ChangeAt Go.RowKit Go.Maps
set_option linter.unusedVariables false
set_option linter.unusedSimpArgs false
set_option maxHeartbeats 2000000 in
set_option maxRecDepth 100000 in
theorem works_w (w : World) : Calls Try.prog 11 #[] w fun e' w' => e' = .returned (.bool true) ∧ Below w.heap.size w w' := by
  go_enter Try.func11, Try.ntmps11
  go_upto_region 5 with (first
    | (go_at_call 27; (with_reducible refine (wk_root0 _).mono ?_); rintro e' w1 ⟨rfl, qk⟩; have HKw1 := Lib.hid qk; have B1 := Lib.hid qk.1; have l1 := qk.size; clear qk)
    | (go_at_call 27; (with_reducible refine (wk_root1 _).mono ?_); rintro e' w2 ⟨rfl, qk⟩; have HKw2 := Lib.hid qk; have qw20 : w2.cell? ⟨w1.heap.size, 0, none⟩ = some (.bool true) := (qk.cell (p := ⟨w1.heap.size, 0, none⟩) (by first | (simp; done) | (simp; omega) | omega)).trans (by simp [go_sem, *]); have qw21 : w2.cell? ⟨w1.heap.size, 1, none⟩ = some (.int .i64 65535) := (qk.cell (p := ⟨w1.heap.size, 1, none⟩) (by first | (simp; done) | (simp; omega) | omega)).trans (by simp [go_sem, *]); have qw22 : w2.cell? ⟨w1.heap.size, 2, none⟩ = some (.int .i64 262143) := (qk.cell (p := ⟨w1.heap.size, 2, none⟩) (by first | (simp; done) | (simp; omega) | omega)).trans (by simp [go_sem, *]); have qw23 : w2.cell? ⟨w1.heap.size, 3, none⟩ = some (.int .i64 0) := (qk.cell (p := ⟨w1.heap.size, 3, none⟩) (by first | (simp; done) | (simp; omega) | omega)).trans (by simp [go_sem, *]); have qw24 : w2.cell? ⟨w1.heap.size, 4, none⟩ = some (.int .i64 52) := (qk.cell (p := ⟨w1.heap.size, 4, none⟩) (by first | (simp; done) | (simp; omega) | omega)).trans (by simp [go_sem, *]); have qw25 : w2.cell? ⟨w1.heap.size, 5, none⟩ = some (.int .i64 0) := (qk.cell (p := ⟨w1.heap.size, 5, none⟩) (by first | (simp; done) | (simp; omega) | omega)).trans (by simp [go_sem, *]); have qw26 : w2.cell? ⟨w1.heap.size, 6, none⟩ = some (.int .i64 0) := (qk.cell (p := ⟨w1.heap.size, 6, none⟩) (by first | (simp; done) | (simp; omega) | omega)).trans (by simp [go_sem, *]); have qw27 : w2.cell? ⟨w1.heap.size, 7, none⟩ = some (.bool true) := (qk.cell (p := ⟨w1.heap.size, 7, none⟩) (by first | (simp; done) | (simp; omega) | omega)).trans (by simp [go_sem, *]); have qw28 : w2.cell? ⟨w1.heap.size, 8, none⟩ = some (.int .u64 5) := (qk.cell (p := ⟨w1.heap.size, 8, none⟩) (by first | (simp; done) | (simp; omega) | omega)).trans (by simp [go_sem, *]); have lw2 : w1.heap.size < w2.heap.size := (by have := qk.size; (try simp at this); omega); have B2 := Lib.hid ((B1.out.alloc l1 _).trans (qk.1.mono (by simp; omega))); clear qk)
    | (go_at_call 32; (with_reducible refine (wk_seal _).mono ?_); rintro e' w3 ⟨rfl, qk⟩; have HKw3 := Lib.hid qk; have qw30 : w3.cell? ⟨w1.heap.size, 0, none⟩ = some (.bool true) := (qk.cell (p := ⟨w1.heap.size, 0, none⟩) (by first | (simp; done) | (simp; omega) | omega)).trans (by simp [go_sem, *]); have qw31 : w3.cell? ⟨w1.heap.size, 1, none⟩ = some (.int .i64 65535) := (qk.cell (p := ⟨w1.heap.size, 1, none⟩) (by first | (simp; done) | (simp; omega) | omega)).trans (by simp [go_sem, *]); have qw32 : w3.cell? ⟨w1.heap.size, 2, none⟩ = some (.int .i64 262143) := (qk.cell (p := ⟨w1.heap.size, 2, none⟩) (by first | (simp; done) | (simp; omega) | omega)).trans (by simp [go_sem, *]); have qw33 : w3.cell? ⟨w1.heap.size, 3, none⟩ = some (.int .i64 0) := (qk.cell (p := ⟨w1.heap.size, 3, none⟩) (by first | (simp; done) | (simp; omega) | omega)).trans (by simp [go_sem, *]); have qw34 : w3.cell? ⟨w1.heap.size, 4, none⟩ = some (.int .i64 52) := (qk.cell (p := ⟨w1.heap.size, 4, none⟩) (by first | (simp; done) | (simp; omega) | omega)).trans (by simp [go_sem, *]); have qw35 : w3.cell? ⟨w1.heap.size, 5, none⟩ = some (.int .i64 0) := (qk.cell (p := ⟨w1.heap.size, 5, none⟩) (by first | (simp; done) | (simp; omega) | omega)).trans (by simp [go_sem, *]); have qw36 : w3.cell? ⟨w1.heap.size, 6, none⟩ = some (.int .i64 0) := (qk.cell (p := ⟨w1.heap.size, 6, none⟩) (by first | (simp; done) | (simp; omega) | omega)).trans (by simp [go_sem, *]); have qw37 : w3.cell? ⟨w1.heap.size, 7, none⟩ = some (.bool true) := (qk.cell (p := ⟨w1.heap.size, 7, none⟩) (by first | (simp; done) | (simp; omega) | omega)).trans (by simp [go_sem, *]); have qw38 : w3.cell? ⟨w1.heap.size, 8, none⟩ = some (.int .u64 5) := (qk.cell (p := ⟨w1.heap.size, 8, none⟩) (by first | (simp; done) | (simp; omega) | omega)).trans (by simp [go_sem, *]); have qw39 : w3.cell? ⟨w2.heap.size, 0, none⟩ = some (.bool true) := (qk.cell (p := ⟨w2.heap.size, 0, none⟩) (by first | (simp; done) | (simp; omega) | omega)).trans (by simp [go_sem, *]); have qw310 : w3.cell? ⟨w2.heap.size, 1, none⟩ = some (.int .i64 65535) := (qk.cell (p := ⟨w2.heap.size, 1, none⟩) (by first | (simp; done) | (simp; omega) | omega)).trans (by simp [go_sem, *]); have qw311 : w3.cell? ⟨w2.heap.size, 2, none⟩ = some (.int .i64 262143) := (qk.cell (p := ⟨w2.heap.size, 2, none⟩) (by first | (simp; done) | (simp; omega) | omega)).trans (by simp [go_sem, *]); have qw312 : w3.cell? ⟨w2.heap.size, 3, none⟩ = some (.int .i64 1) := (qk.cell (p := ⟨w2.heap.size, 3, none⟩) (by first | (simp; done) | (simp; omega) | omega)).trans (by simp [go_sem, *]); have qw313 : w3.cell? ⟨w2.heap.size, 4, none⟩ = some (.int .i64 52) := (qk.cell (p := ⟨w2.heap.size, 4, none⟩) (by first | (simp; done) | (simp; omega) | omega)).trans (by simp [go_sem, *]); have qw314 : w3.cell? ⟨w2.heap.size, 5, none⟩ = some (.int .i64 0) := (qk.cell (p := ⟨w2.heap.size, 5, none⟩) (by first | (simp; done) | (simp; omega) | omega)).trans (by simp [go_sem, *]); have qw315 : w3.cell? ⟨w2.heap.size, 6, none⟩ = some (.int .i64 0) := (qk.cell (p := ⟨w2.heap.size, 6, none⟩) (by first | (simp; done) | (simp; omega) | omega)).trans (by simp [go_sem, *]); have qw316 : w3.cell? ⟨w2.heap.size, 7, none⟩ = some (.bool true) := (qk.cell (p := ⟨w2.heap.size, 7, none⟩) (by first | (simp; done) | (simp; omega) | omega)).trans (by simp [go_sem, *]); have qw317 : w3.cell? ⟨w2.heap.size, 8, none⟩ = some (.int .u64 9) := (qk.cell (p := ⟨w2.heap.size, 8, none⟩) (by first | (simp; done) | (simp; omega) | omega)).trans (by simp [go_sem, *]); have lw3 : w2.heap.size < w3.heap.size := (by have := qk.size; (try simp at this); omega); have l13 : w1.heap.size < w3.heap.size := (by omega); have B3 := Lib.hid ((B2.out.alloc (by omega) _).trans (qk.1.mono (by simp; omega))); clear qk)
    | (go_at_call 33; (with_reducible refine (wk_less _).mono ?_); rintro e' w4 ⟨rfl, qk⟩; have HKw4 := Lib.hid qk; have qw40 : w4.cell? ⟨w1.heap.size, 0, none⟩ = some (.bool true) := (qk.cell (p := ⟨w1.heap.size, 0, none⟩) (by first | (simp; done) | (simp; omega) | omega)).trans (by simp [go_sem, *]); have qw41 : w4.cell? ⟨w1.heap.size, 1, none⟩ = some (.int .i64 65535) := (qk.cell (p := ⟨w1.heap.size, 1, none⟩) (by first | (simp; done) | (simp; omega) | omega)).trans (by simp [go_sem, *]); have qw42 : w4.cell? ⟨w1.heap.size, 2, none⟩ = some (.int .i64 262143) := (qk.cell (p := ⟨w1.heap.size, 2, none⟩) (by first | (simp; done) | (simp; omega) | omega)).trans (by simp [go_sem, *]); have qw43 : w4.cell? ⟨w1.heap.size, 3, none⟩ = some (.int .i64 0) := (qk.cell (p := ⟨w1.heap.size, 3, none⟩) (by first | (simp; done) | (simp; omega) | omega)).trans (by simp [go_sem, *]); have qw44 : w4.cell? ⟨w1.heap.size, 4, none⟩ = some (.int .i64 52) := (qk.cell (p := ⟨w1.heap.size, 4, none⟩) (by first | (simp; done) | (simp; omega) | omega)).trans (by simp [go_sem, *]); have qw45 : w4.cell? ⟨w1.heap.size, 5, none⟩ = some (.int .i64 0) := (qk.cell (p := ⟨w1.heap.size, 5, none⟩) (by first | (simp; done) | (simp; omega) | omega)).trans (by simp [go_sem, *]); have qw46 : w4.cell? ⟨w1.heap.size, 6, none⟩ = some (.int .i64 0) := (qk.cell (p := ⟨w1.heap.size, 6, none⟩) (by first | (simp; done) | (simp; omega) | omega)).trans (by simp [go_sem, *]); have qw47 : w4.cell? ⟨w1.heap.size, 7, none⟩ = some (.bool true) := (qk.cell (p := ⟨w1.heap.size, 7, none⟩) (by first | (simp; done) | (simp; omega) | omega)).trans (by simp [go_sem, *]); have qw48 : w4.cell? ⟨w1.heap.size, 8, none⟩ = some (.int .u64 5) := (qk.cell (p := ⟨w1.heap.size, 8, none⟩) (by first | (simp; done) | (simp; omega) | omega)).trans (by simp [go_sem, *]); have qw49 : w4.cell? ⟨w2.heap.size, 0, none⟩ = some (.bool true) := (qk.cell (p := ⟨w2.heap.size, 0, none⟩) (by first | (simp; done) | (simp; omega) | omega)).trans (by simp [go_sem, *]); have qw410 : w4.cell? ⟨w2.heap.size, 1, none⟩ = some (.int .i64 65535) := (qk.cell (p := ⟨w2.heap.size, 1, none⟩) (by first | (simp; done) | (simp; omega) | omega)).trans (by simp [go_sem, *]); have qw411 : w4.cell? ⟨w2.heap.size, 2, none⟩ = some (.int .i64 262143) := (qk.cell (p := ⟨w2.heap.size, 2, none⟩) (by first | (simp; done) | (simp; omega) | omega)).trans (by simp [go_sem, *]); have qw412 : w4.cell? ⟨w2.heap.size, 3, none⟩ = some (.int .i64 1) := (qk.cell (p := ⟨w2.heap.size, 3, none⟩) (by first | (simp; done) | (simp; omega) | omega)).trans (by simp [go_sem, *]); have qw413 : w4.cell? ⟨w2.heap.size, 4, none⟩ = some (.int .i64 52) := (qk.cell (p := ⟨w2.heap.size, 4, none⟩) (by first | (simp; done) | (simp; omega) | omega)).trans (by simp [go_sem, *]); have qw414 : w4.cell? ⟨w2.heap.size, 5, none⟩ = some (.int .i64 0) := (qk.cell (p := ⟨w2.heap.size, 5, none⟩) (by first | (simp; done) | (simp; omega) | omega)).trans (by simp [go_sem, *]); have qw415 : w4.cell? ⟨w2.heap.size, 6, none⟩ = some (.int .i64 0) := (qk.cell (p := ⟨w2.heap.size, 6, none⟩) (by first | (simp; done) | (simp; omega) | omega)).trans (by simp [go_sem, *]); have qw416 : w4.cell? ⟨w2.heap.size, 7, none⟩ = some (.bool true) := (qk.cell (p := ⟨w2.heap.size, 7, none⟩) (by first | (simp; done) | (simp; omega) | omega)).trans (by simp [go_sem, *]); have qw417 : w4.cell? ⟨w2.heap.size, 8, none⟩ = some (.int .u64 9) := (qk.cell (p := ⟨w2.heap.size, 8, none⟩) (by first | (simp; done) | (simp; omega) | omega)).trans (by simp [go_sem, *]); have qw418 : w4.cell? ⟨w3.heap.size, 0, none⟩ = some (.bool true) := (qk.cell (p := ⟨w3.heap.size, 0, none⟩) (by first | (simp; done) | (simp; omega) | omega)).trans (by simp [go_sem, *]); have qw419 : w4.cell? ⟨w3.heap.size, 1, none⟩ = some (.int .i64 65535) := (qk.cell (p := ⟨w3.heap.size, 1, none⟩) (by first | (simp; done) | (simp; omega) | omega)).trans (by simp [go_sem, *]); have qw420 : w4.cell? ⟨w3.heap.size, 2, none⟩ = some (.int .i64 5) := (qk.cell (p := ⟨w3.heap.size, 2, none⟩) (by first | (simp; done) | (simp; omega) | omega)).trans (by simp [go_sem, *]); have qw421 : w4.cell? ⟨w3.heap.size, 3, none⟩ = some (.int .i64 1) := (qk.cell (p := ⟨w3.heap.size, 3, none⟩) (by first | (simp; done) | (simp; omega) | omega)).trans (by simp [go_sem, *]); have qw422 : w4.cell? ⟨w3.heap.size, 4, none⟩ = some (.int .i64 52) := (qk.cell (p := ⟨w3.heap.size, 4, none⟩) (by first | (simp; done) | (simp; omega) | omega)).trans (by simp [go_sem, *]); have qw423 : w4.cell? ⟨w3.heap.size, 5, none⟩ = some (.int .i64 0) := (qk.cell (p := ⟨w3.heap.size, 5, none⟩) (by first | (simp; done) | (simp; omega) | omega)).trans (by simp [go_sem, *]); have qw424 : w4.cell? ⟨w3.heap.size, 6, none⟩ = some (.int .i64 0) := (qk.cell (p := ⟨w3.heap.size, 6, none⟩) (by first | (simp; done) | (simp; omega) | omega)).trans (by simp [go_sem, *]); have qw425 : w4.cell? ⟨w3.heap.size, 7, none⟩ = some (.bool true) := (qk.cell (p := ⟨w3.heap.size, 7, none⟩) (by first | (simp; done) | (simp; omega) | omega)).trans (by simp [go_sem, *]); have qw426 : w4.cell? ⟨w3.heap.size, 8, none⟩ = some (.int .u64 9) := (qk.cell (p := ⟨w3.heap.size, 8, none⟩) (by first | (simp; done) | (simp; omega) | omega)).trans (by simp [go_sem, *]); have lw4 : w3.heap.size < w4.heap.size := (by have := qk.size; (try simp at this); omega); have l14 : w1.heap.size < w4.heap.size := (by omega); have l24 : w2.heap.size < w4.heap.size := (by omega); have B4 := Lib.hid ((B3.out.alloc (by omega) _).trans (qk.1.mono (by simp; omega))); clear qk))
  have AR' : At (w1.heap.size) [.bool true, .int .i64 65535, .int .i64 262143, .int .i64 0, .int .i64 52, .int .i64 0, .int .i64 0, .bool true, .int .u64 5] w4 := At.of9 (by assumption) (by assumption) (by assumption) (by assumption) (by assumption) (by assumption) (by assumption) (by assumption) (by assumption)
  have AR : At (w1.heap.size) [.bool true, .int .i64 65535, .int .i64 262143, .int .i64 0, .int .i64 52, .int .i64 0, .int .i64 0, .bool true, .int .u64 5] (w4.alloc (.cells #[.bool true, .int .i64 65279, .int .i64 262143, .int .i64 0, .int .i64 52, .int .i64 0, .int .i64 0, .bool true, .int .u64 5] 25)) := AR'.alloc _
  have AT' : At (w2.heap.size) [.bool true, .int .i64 65535, .int .i64 262143, .int .i64 1, .int .i64 52, .int .i64 0, .int .i64 0, .bool true, .int .u64 9] w4 := At.of9 (by assumption) (by assumption) (by assumption) (by assumption) (by assumption) (by assumption) (by assumption) (by assumption) (by assumption)
  have AT : At (w2.heap.size) [.bool true, .int .i64 65535, .int .i64 262143, .int .i64 1, .int .i64 52, .int .i64 0, .int .i64 0, .bool true, .int .u64 9] (w4.alloc (.cells #[.bool true, .int .i64 65279, .int .i64 262143, .int .i64 0, .int .i64 52, .int .i64 0, .int .i64 0, .bool true, .int .u64 5] 25)) := AT'.alloc _
  have AS' : At (w3.heap.size) [.bool true, .int .i64 65535, .int .i64 5, .int .i64 1, .int .i64 52, .int .i64 0, .int .i64 0, .bool true, .int .u64 9] w4 := At.of9 (by assumption) (by assumption) (by assumption) (by assumption) (by assumption) (by assumption) (by assumption) (by assumption) (by assumption)
  have AS : At (w3.heap.size) [.bool true, .int .i64 65535, .int .i64 5, .int .i64 1, .int .i64 52, .int .i64 0, .int .i64 0, .bool true, .int .u64 9] (w4.alloc (.cells #[.bool true, .int .i64 65279, .int .i64 262143, .int .i64 0, .int .i64 52, .int .i64 0, .int .i64 0, .bool true, .int .u64 5] 25)) := AS'.alloc _
  have AU : At (w4.heap.size) [.bool true, .int .i64 65279, .int .i64 262143, .int .i64 0, .int .i64 52, .int .i64 0, .int .i64 0, .bool true, .int .u64 5] (w4.alloc (.cells #[.bool true, .int .i64 65279, .int .i64 262143, .int .i64 0, .int .i64 52, .int .i64 0, .int .i64 0, .bool true, .int .u64 5] 25)) := At.new w4 [.bool true, .int .i64 65279, .int .i64 262143, .int .i64 0, .int .i64 52, .int .i64 0, .int .i64 0, .bool true, .int .u64 5] _
  have AB : Bl w (w4.heap.size + 1) (w4.alloc (.cells #[.bool true, .int .i64 65279, .int .i64 262143, .int .i64 0, .int .i64 52, .int .i64 0, .int .i64 0, .bool true, .int .u64 5] 25)) := ⟨B4.out.alloc (by omega) _, by omega, by simp⟩
  refine wp_region_held_drew (S := (fun w' => At (w1.heap.size) [.bool true, .int .i64 65535, .int .i64 262143, .int .i64 0, .int .i64 52, .int .i64 0, .int .i64 0, .bool true, .int .u64 5] w' ∧ At (w2.heap.size) [.bool true, .int .i64 65535, .int .i64 262143, .int .i64 1, .int .i64 52, .int .i64 0, .int .i64 0, .bool true, .int .u64 9] w' ∧ At (w3.heap.size) [.bool true, .int .i64 65535, .int .i64 5, .int .i64 1, .int .i64 52, .int .i64 0, .int .i64 0, .bool true, .int .u64 9] w' ∧ At (w4.heap.size) [.bool true, .int .i64 65279, .int .i64 262143, .int .i64 0, .int .i64 52, .int .i64 0, .int .i64 0, .bool true, .int .u64 5] w' ∧ Bl w (w4.heap.size + 1) w')) (by kernel_rfl) ⟨At.drew (by with_reducible assumption), At.drew (by with_reducible assumption), At.drew (by with_reducible assumption), At.drew (by with_reducible assumption), Bl.drew (by with_reducible assumption)⟩ (fun hS => ?_)
  generalize hgw : (w4.alloc (.cells #[.bool true, .int .i64 65279, .int .i64 262143, .int .i64 0, .int .i64 52, .int .i64 0, .int .i64 0, .bool true, .int .u64 5] 25)).drew = g0 at hS ⊢
  clear hgw
  try simp only [Act.put, List.setIfInBounds_toArray, List.set_cons_zero, List.set_cons_succ]
  (refine wpAnyH_take (i := 0) (oi := { dst := some 12, op := Op.fieldAddr 25 (Operand.tmp 3) 0, type := 0, pos := "outright.go:19", after := #[], guard := none }) (v := ?_) rfl (by kernel_rfl) (by kernel_rfl) (by kernel_rfl) (fun _ _ _ h => h) (Or.inl ⟨by rfl, ?_⟩) hS ?_; rotate_left; focus (intro w' hSw; obtain ⟨s0, s1, s2, s3, sb⟩ := hSw; go_simp <;> try with_reducible rfl))
  try simp only [Act.put, List.setIfInBounds_toArray, List.set_cons_zero, List.set_cons_succ]
  (refine wpAnyH_take (i := 1) (oi := { dst := some 13, op := Op.load 4 (Operand.tmp 12), type := 4, pos := "outright.go:19", after := #[{ on := 0, ground := Ground.data }], guard := none }) (v := ?_) rfl (by kernel_rfl) (by kernel_rfl) (by kernel_rfl) (fun _ _ _ h => h) (Or.inl ⟨by rfl, ?_⟩) hS ?_; rotate_left; focus (intro w' hSw; obtain ⟨s0, s1, s2, s3, sb⟩ := hSw; obtain ⟨_, _, _, _, _, _, _, _, _⟩ := s0.out9; obtain ⟨_, _, _, _, _, _, _, _, _⟩ := s1.out9; obtain ⟨_, _, _, _, _, _, _, _, _⟩ := s2.out9; obtain ⟨_, _, _, _, _, _, _, _, _⟩ := s3.out9; go_simp <;> try with_reducible rfl))
  try simp only [Act.put, List.setIfInBounds_toArray, List.set_cons_zero, List.set_cons_succ]
  (refine wpAnyH_take (i := 2) (oi := { dst := some 14, op := Op.move (Operand.tmp 13), type := 4, pos := "outright.go:19", after := #[{ on := 1, ground := Ground.data }], guard := none }) (v := ?_) rfl (by kernel_rfl) (by kernel_rfl) (by kernel_rfl) (fun _ _ _ h => h) (Or.inl ⟨by rfl, ?_⟩) hS ?_; rotate_left; focus (intro w' hSw; obtain ⟨s0, s1, s2, s3, sb⟩ := hSw; go_simp <;> try with_reducible rfl))
  try simp only [Act.put, List.setIfInBounds_toArray, List.set_cons_zero, List.set_cons_succ]
  (refine wpAnyH_take (i := 3) (oi := { dst := some 15, op := Op.fieldAddr 25 (Operand.tmp 3) 2, type := 0, pos := "outright.go:19", after := #[{ on := 2, ground := Ground.guard }], guard := some (2, true) }) (v := ?_) rfl (by kernel_rfl) (by kernel_rfl) (by kernel_rfl) (fun _ _ _ h => h) (Or.inl ⟨by rfl, ?_⟩) hS ?_; rotate_left; focus (intro w' hSw; obtain ⟨s0, s1, s2, s3, sb⟩ := hSw; go_simp <;> try with_reducible rfl))
  try simp only [Act.put, List.setIfInBounds_toArray, List.set_cons_zero, List.set_cons_succ]
  (refine wpAnyH_take (i := 4) (oi := { dst := some 16, op := Op.load 3 (Operand.tmp 15), type := 3, pos := "outright.go:19", after := #[{ on := 3, ground := Ground.data }, { on := 2, ground := Ground.guard }], guard := some (2, true) }) (v := ?_) rfl (by kernel_rfl) (by kernel_rfl) (by kernel_rfl) (fun _ _ _ h => h) (Or.inl ⟨by rfl, ?_⟩) hS ?_; rotate_left; focus (intro w' hSw; obtain ⟨s0, s1, s2, s3, sb⟩ := hSw; obtain ⟨_, _, _, _, _, _, _, _, _⟩ := s0.out9; obtain ⟨_, _, _, _, _, _, _, _, _⟩ := s1.out9; obtain ⟨_, _, _, _, _, _, _, _, _⟩ := s2.out9; obtain ⟨_, _, _, _, _, _, _, _, _⟩ := s3.out9; go_simp <;> try with_reducible rfl))
  try simp only [Act.put, List.setIfInBounds_toArray, List.set_cons_zero, List.set_cons_succ]
  (refine wpAnyH_take (i := 5) (oi := { dst := some 17, op := Op.binOp BinOp.eql 3 (Operand.tmp 16) (Operand.const (Value.int IntKind.i64 5)) 3, type := 4, pos := "outright.go:19", after := #[{ on := 4, ground := Ground.data }, { on := 2, ground := Ground.guard }], guard := some (2, true) }) (v := ?_) rfl (by kernel_rfl) (by kernel_rfl) (by kernel_rfl) (fun _ _ _ h => h) (Or.inl ⟨by rfl, ?_⟩) hS ?_; rotate_left; focus (intro w' hSw; obtain ⟨s0, s1, s2, s3, sb⟩ := hSw; go_simp <;> try with_reducible rfl))
  try simp only [Act.put, List.setIfInBounds_toArray, List.set_cons_zero, List.set_cons_succ]
  (refine wpAnyH_take (i := 6) (oi := { dst := some 18, op := Op.pick (Operand.tmp 14) (Operand.tmp 17) (Operand.const (Value.bool false)), type := 4, pos := "outright.go:19", after := #[{ on := 2, ground := Ground.data }, { on := 5, ground := Ground.data }], guard := none }) (v := ?_) rfl (by kernel_rfl) (by kernel_rfl) (by kernel_rfl) (fun _ _ _ h => h) (Or.inl ⟨by rfl, ?_⟩) hS ?_; rotate_left; focus (intro w' hSw; obtain ⟨s0, s1, s2, s3, sb⟩ := hSw; go_simp <;> try with_reducible rfl))
  try simp only [Act.put, List.setIfInBounds_toArray, List.set_cons_zero, List.set_cons_succ]
  (refine wpAnyH_take (i := 7) (oi := { dst := some 19, op := Op.move (Operand.tmp 18), type := 4, pos := "outright.go:19", after := #[{ on := 6, ground := Ground.data }, { on := 2, ground := Ground.chain }], guard := none }) (v := ?_) rfl (by kernel_rfl) (by kernel_rfl) (by kernel_rfl) (fun _ _ _ h => h) (Or.inl ⟨by rfl, ?_⟩) hS ?_; rotate_left; focus (intro w' hSw; obtain ⟨s0, s1, s2, s3, sb⟩ := hSw; go_simp <;> try with_reducible rfl))
  try simp only [Act.put, List.setIfInBounds_toArray, List.set_cons_zero, List.set_cons_succ]
  (refine wpAnyH_take (i := 8) (oi := { dst := some 20, op := Op.load 25 (Operand.tmp 3), type := 25, pos := "outright.go:19", after := #[{ on := 7, ground := Ground.guard }], guard := some (7, true) }) (v := ?_) rfl (by kernel_rfl) (by kernel_rfl) (by kernel_rfl) (fun _ _ _ h => h) (Or.inl ⟨by rfl, ?_⟩) hS ?_; rotate_left; focus (intro w' hSw; obtain ⟨s0, s1, s2, s3, sb⟩ := hSw; obtain ⟨_, _, _, _, _, _, _, _, _⟩ := s0.out9; obtain ⟨_, _, _, _, _, _, _, _, _⟩ := s1.out9; obtain ⟨_, _, _, _, _, _, _, _, _⟩ := s2.out9; obtain ⟨_, _, _, _, _, _, _, _, _⟩ := s3.out9; go_simp <;> try with_reducible rfl))
  try simp only [Act.put, List.setIfInBounds_toArray, List.set_cons_zero, List.set_cons_succ]
  (refine wpAnyH_take (i := 9) (oi := { dst := some 21, op := Op.load 25 (Operand.tmp 4), type := 25, pos := "outright.go:19", after := #[{ on := 7, ground := Ground.guard }], guard := some (7, true) }) (v := ?_) rfl (by kernel_rfl) (by kernel_rfl) (by kernel_rfl) (fun _ _ _ h => h) (Or.inl ⟨by rfl, ?_⟩) hS ?_; rotate_left; focus (intro w' hSw; obtain ⟨s0, s1, s2, s3, sb⟩ := hSw; obtain ⟨_, _, _, _, _, _, _, _, _⟩ := s0.out9; obtain ⟨_, _, _, _, _, _, _, _, _⟩ := s1.out9; obtain ⟨_, _, _, _, _, _, _, _, _⟩ := s2.out9; obtain ⟨_, _, _, _, _, _, _, _, _⟩ := s3.out9; go_simp <;> try with_reducible rfl))
  try simp only [Act.put, List.setIfInBounds_toArray, List.set_cons_zero, List.set_cons_succ]
  refine wpAnyH_ready (rs := [10]) (by kernel_rfl) (by simp) ?_
  refine AllReadyH.cons (o := { dst := some 22, op := Op.buildSlice 22 2 #[(0, Operand.tmp 20), (1, Operand.tmp 21)], type := 22, pos := "outright.go:19", after := #[{ on := 8, ground := Ground.data }, { on := 9, ground := Ground.data }, { on := 7, ground := Ground.guard }], guard := some (7, true) }) rfl (fun K hK => ?_) AllReadyH.nil
  refine take_if (by rfl) ?_
  obtain ⟨s0, s1, s2, s3, sb⟩ := hS
  go_simp
  refine hK.out _ _ ⟨(At.alloc s0 _), (At.alloc s1 _), (At.alloc s2 _), (At.alloc s3 _), (Bl.alloc sb _)⟩ (fun hS => ?_)
  clear hK K
  try simp only [Act.put, List.setIfInBounds_toArray, List.set_cons_zero, List.set_cons_succ]
  have r10 : Rd (g0.alloc (.cells #[.bool true, .int .i64 65535, .int .i64 5, .int .i64 1, .int .i64 52, .int .i64 0, .int .i64 0, .bool true, .int .u64 9, .bool true, .int .i64 65279, .int .i64 262143, .int .i64 0, .int .i64 52, .int .i64 0, .int .i64 0, .bool true, .int .u64 5] 25)) (g0.alloc (.cells #[.bool true, .int .i64 65535, .int .i64 5, .int .i64 1, .int .i64 52, .int .i64 0, .int .i64 0, .bool true, .int .u64 9, .bool true, .int .i64 65279, .int .i64 262143, .int .i64 0, .int .i64 52, .int .i64 0, .int .i64 0, .bool true, .int .u64 5] 25)).heap.size (some ⟨g0.heap.size, 0, none⟩) [kS, kU] := rd_new [kS, kU] g0
  generalize hgw : (g0.alloc (.cells #[.bool true, .int .i64 65535, .int .i64 5, .int .i64 1, .int .i64 52, .int .i64 0, .int .i64 0, .bool true, .int .u64 9, .bool true, .int .i64 65279, .int .i64 262143, .int .i64 0, .int .i64 52, .int .i64 0, .int .i64 0, .bool true, .int .u64 5] 25)) = g10 at hS r10 ⊢
  clear hgw
  refine wpAnyH_ready (rs := [11]) (by kernel_rfl) (by simp) ?_
  refine AllReadyH.cons (o := { dst := some 23, op := Op.call { callee := Callee.value (Operand.func 13), args := #[Operand.tmp 22], argTypes := #[22] }, type := 22, pos := "outright.go:19", after := #[{ on := 10, ground := Ground.data }, { on := 7, ground := Ground.chain }, { on := 7, ground := Ground.guard }], guard := some (7, true) }) rfl (fun K hK => ?_) AllReadyH.nil
  refine take_if (by rfl) ?_
  obtain ⟨s0, s1, s2, s3, sb⟩ := hS
  go_simp
  (with_reducible refine (wk_close1 _ _ _ r10).mono ?_)
  rintro e' g11 ⟨A', cap, rfl, hb⟩
  have t0 := sb.at_ hb s0 (show w1.heap.size < w4.heap.size + 1 by omega)
  have t1 := sb.at_ hb s1 (show w2.heap.size < w4.heap.size + 1 by omega)
  have t2 := sb.at_ hb s2 (show w3.heap.size < w4.heap.size + 1 by omega)
  have t3 := sb.at_ hb s3 (show w4.heap.size < w4.heap.size + 1 by omega)
  have r10 := r10.below hb (Nat.le_refl _)
  refine hK.out _ _ ⟨t0, t1, t2, t3, (sb.step hb)⟩ (fun hS => ?_)
  clear hK K hb s0 t0 s1 t1 s2 t2 s3 t3 sb
  try simp only [Act.put, List.setIfInBounds_toArray, List.set_cons_zero, List.set_cons_succ]
  clear r10
  (refine wpAnyH_take (i := 12) (oi := { dst := some 24, op := Op.call { callee := Callee.builtin Builtin.len, args := #[Operand.tmp 23], argTypes := #[22] }, type := 3, pos := "outright.go:19", after := #[{ on := 11, ground := Ground.data }, { on := 7, ground := Ground.guard }], guard := some (7, true) }) (v := ?_) rfl (by kernel_rfl) (by kernel_rfl) (by kernel_rfl) (fun _ _ _ h => h) (Or.inl ⟨by rfl, ?_⟩) hS ?_; rotate_left; focus (intro w' hSw; obtain ⟨s0, s1, s2, s3, sb⟩ := hSw; go_simp <;> try with_reducible rfl))
  try simp only [Act.put, List.setIfInBounds_toArray, List.set_cons_zero, List.set_cons_succ]
  (refine wpAnyH_take (i := 13) (oi := { dst := some 25, op := Op.binOp BinOp.eql 3 (Operand.tmp 24) (Operand.const (Value.int IntKind.i64 2)) 3, type := 4, pos := "outright.go:19", after := #[{ on := 12, ground := Ground.data }, { on := 7, ground := Ground.guard }], guard := some (7, true) }) (v := ?_) rfl (by kernel_rfl) (by kernel_rfl) (by kernel_rfl) (fun _ _ _ h => h) (Or.inl ⟨by rfl, ?_⟩) hS ?_; rotate_left; focus (intro w' hSw; obtain ⟨s0, s1, s2, s3, sb⟩ := hSw; go_simp <;> try with_reducible rfl))
  try simp only [Act.put, List.setIfInBounds_toArray, List.set_cons_zero, List.set_cons_succ]
  (refine wpAnyH_take (i := 14) (oi := { dst := some 26, op := Op.pick (Operand.tmp 19) (Operand.tmp 25) (Operand.const (Value.bool false)), type := 4, pos := "outright.go:19", after := #[{ on := 7, ground := Ground.data }, { on := 13, ground := Ground.data }], guard := none }) (v := ?_) rfl (by kernel_rfl) (by kernel_rfl) (by kernel_rfl) (fun _ _ _ h => h) (Or.inl ⟨by rfl, ?_⟩) hS ?_; rotate_left; focus (intro w' hSw; obtain ⟨s0, s1, s2, s3, sb⟩ := hSw; go_simp <;> try with_reducible rfl))
  try simp only [Act.put, List.setIfInBounds_toArray, List.set_cons_zero, List.set_cons_succ]
  (refine wpAnyH_take (i := 15) (oi := { dst := some 27, op := Op.move (Operand.tmp 26), type := 4, pos := "outright.go:19", after := #[{ on := 14, ground := Ground.data }, { on := 11, ground := Ground.chain }], guard := none }) (v := ?_) rfl (by kernel_rfl) (by kernel_rfl) (by kernel_rfl) (fun _ _ _ h => h) (Or.inl ⟨by rfl, ?_⟩) hS ?_; rotate_left; focus (intro w' hSw; obtain ⟨s0, s1, s2, s3, sb⟩ := hSw; go_simp <;> try with_reducible rfl))
  try simp only [Act.put, List.setIfInBounds_toArray, List.set_cons_zero, List.set_cons_succ]
  (refine wpAnyH_take (i := 16) (oi := { dst := some 28, op := Op.load 25 (Operand.tmp 3), type := 25, pos := "outright.go:19", after := #[{ on := 15, ground := Ground.guard }], guard := some (15, true) }) (v := ?_) rfl (by kernel_rfl) (by kernel_rfl) (by kernel_rfl) (fun _ _ _ h => h) (Or.inl ⟨by rfl, ?_⟩) hS ?_; rotate_left; focus (intro w' hSw; obtain ⟨s0, s1, s2, s3, sb⟩ := hSw; obtain ⟨_, _, _, _, _, _, _, _, _⟩ := s0.out9; obtain ⟨_, _, _, _, _, _, _, _, _⟩ := s1.out9; obtain ⟨_, _, _, _, _, _, _, _, _⟩ := s2.out9; obtain ⟨_, _, _, _, _, _, _, _, _⟩ := s3.out9; go_simp <;> try with_reducible rfl))
  try simp only [Act.put, List.setIfInBounds_toArray, List.set_cons_zero, List.set_cons_succ]
  (refine wpAnyH_take (i := 17) (oi := { dst := some 29, op := Op.load 25 (Operand.tmp 1), type := 25, pos := "outright.go:19", after := #[{ on := 15, ground := Ground.guard }], guard := some (15, true) }) (v := ?_) rfl (by kernel_rfl) (by kernel_rfl) (by kernel_rfl) (fun _ _ _ h => h) (Or.inl ⟨by rfl, ?_⟩) hS ?_; rotate_left; focus (intro w' hSw; obtain ⟨s0, s1, s2, s3, sb⟩ := hSw; obtain ⟨_, _, _, _, _, _, _, _, _⟩ := s0.out9; obtain ⟨_, _, _, _, _, _, _, _, _⟩ := s1.out9; obtain ⟨_, _, _, _, _, _, _, _, _⟩ := s2.out9; obtain ⟨_, _, _, _, _, _, _, _, _⟩ := s3.out9; go_simp <;> try with_reducible rfl))
  try simp only [Act.put, List.setIfInBounds_toArray, List.set_cons_zero, List.set_cons_succ]
  (refine wpAnyH_take (i := 20) (oi := { dst := some 32, op := Op.load 25 (Operand.tmp 3), type := 25, pos := "outright.go:19", after := #[{ on := 15, ground := Ground.guard }], guard := some (15, true) }) (v := ?_) rfl (by kernel_rfl) (by kernel_rfl) (by kernel_rfl) (fun _ _ _ h => h) (Or.inl ⟨by rfl, ?_⟩) hS ?_; rotate_left; focus (intro w' hSw; obtain ⟨s0, s1, s2, s3, sb⟩ := hSw; obtain ⟨_, _, _, _, _, _, _, _, _⟩ := s0.out9; obtain ⟨_, _, _, _, _, _, _, _, _⟩ := s1.out9; obtain ⟨_, _, _, _, _, _, _, _, _⟩ := s2.out9; obtain ⟨_, _, _, _, _, _, _, _, _⟩ := s3.out9; go_simp <;> try with_reducible rfl))
  try simp only [Act.put, List.setIfInBounds_toArray, List.set_cons_zero, List.set_cons_succ]
  (refine wpAnyH_take (i := 21) (oi := { dst := some 33, op := Op.load 25 (Operand.tmp 1), type := 25, pos := "outright.go:19", after := #[{ on := 15, ground := Ground.guard }], guard := some (15, true) }) (v := ?_) rfl (by kernel_rfl) (by kernel_rfl) (by kernel_rfl) (fun _ _ _ h => h) (Or.inl ⟨by rfl, ?_⟩) hS ?_; rotate_left; focus (intro w' hSw; obtain ⟨s0, s1, s2, s3, sb⟩ := hSw; obtain ⟨_, _, _, _, _, _, _, _, _⟩ := s0.out9; obtain ⟨_, _, _, _, _, _, _, _, _⟩ := s1.out9; obtain ⟨_, _, _, _, _, _, _, _, _⟩ := s2.out9; obtain ⟨_, _, _, _, _, _, _, _, _⟩ := s3.out9; go_simp <;> try with_reducible rfl))
  try simp only [Act.put, List.setIfInBounds_toArray, List.set_cons_zero, List.set_cons_succ]
  (refine wpAnyH_take (i := 22) (oi := { dst := some 34, op := Op.load 25 (Operand.tmp 2), type := 25, pos := "outright.go:19", after := #[{ on := 15, ground := Ground.guard }], guard := some (15, true) }) (v := ?_) rfl (by kernel_rfl) (by kernel_rfl) (by kernel_rfl) (fun _ _ _ h => h) (Or.inl ⟨by rfl, ?_⟩) hS ?_; rotate_left; focus (intro w' hSw; obtain ⟨s0, s1, s2, s3, sb⟩ := hSw; obtain ⟨_, _, _, _, _, _, _, _, _⟩ := s0.out9; obtain ⟨_, _, _, _, _, _, _, _, _⟩ := s1.out9; obtain ⟨_, _, _, _, _, _, _, _, _⟩ := s2.out9; obtain ⟨_, _, _, _, _, _, _, _, _⟩ := s3.out9; go_simp <;> try with_reducible rfl))
  try simp only [Act.put, List.setIfInBounds_toArray, List.set_cons_zero, List.set_cons_succ]
  refine wpAnyH_ready (rs := [18, 23]) (by kernel_rfl) (by simp) ?_
  refine AllReadyH.cons (o := { dst := some 30, op := Op.buildSlice 22 2 #[(0, Operand.tmp 28), (1, Operand.tmp 29)], type := 22, pos := "outright.go:19", after := #[{ on := 16, ground := Ground.data }, { on := 17, ground := Ground.data }, { on := 15, ground := Ground.guard }], guard := some (15, true) }) rfl (fun K hK => ?_) (AllReadyH.cons (o := { dst := some 35, op := Op.buildSlice 22 3 #[(0, Operand.tmp 32), (1, Operand.tmp 33), (2, Operand.tmp 34)], type := 22, pos := "outright.go:19", after := #[{ on := 20, ground := Ground.data }, { on := 21, ground := Ground.data }, { on := 22, ground := Ground.data }, { on := 15, ground := Ground.guard }], guard := some (15, true) }) rfl (fun K hK => ?_) AllReadyH.nil)
  · refine take_if (by rfl) ?_
    obtain ⟨s0, s1, s2, s3, sb⟩ := hS
    go_simp
    refine hK.out _ _ ⟨(At.alloc s0 _), (At.alloc s1 _), (At.alloc s2 _), (At.alloc s3 _), (Bl.alloc sb _)⟩ (fun hS => ?_)
    clear hK K
    try simp only [Act.put, List.setIfInBounds_toArray, List.set_cons_zero, List.set_cons_succ]
    have r18 : Rd (g11.alloc (.cells #[.bool true, .int .i64 65535, .int .i64 5, .int .i64 1, .int .i64 52, .int .i64 0, .int .i64 0, .bool true, .int .u64 9, .bool true, .int .i64 65535, .int .i64 262143, .int .i64 0, .int .i64 52, .int .i64 0, .int .i64 0, .bool true, .int .u64 5] 25)) (g11.alloc (.cells #[.bool true, .int .i64 65535, .int .i64 5, .int .i64 1, .int .i64 52, .int .i64 0, .int .i64 0, .bool true, .int .u64 9, .bool true, .int .i64 65535, .int .i64 262143, .int .i64 0, .int .i64 52, .int .i64 0, .int .i64 0, .bool true, .int .u64 5] 25)).heap.size (some ⟨g11.heap.size, 0, none⟩) [kS, kR] := rd_new [kS, kR] g11
    generalize hgw : (g11.alloc (.cells #[.bool true, .int .i64 65535, .int .i64 5, .int .i64 1, .int .i64 52, .int .i64 0, .int .i64 0, .bool true, .int .u64 9, .bool true, .int .i64 65535, .int .i64 262143, .int .i64 0, .int .i64 52, .int .i64 0, .int .i64 0, .bool true, .int .u64 5] 25)) = g18 at hS r18 ⊢
    clear hgw
    refine wpAnyH_ready (rs := [19, 23]) (by kernel_rfl) (by simp) ?_
    refine AllReadyH.cons (o := { dst := some 31, op := Op.call { callee := Callee.value (Operand.func 13), args := #[Operand.tmp 30], argTypes := #[22] }, type := 22, pos := "outright.go:19", after := #[{ on := 18, ground := Ground.data }, { on := 15, ground := Ground.chain }, { on := 15, ground := Ground.guard }], guard := some (15, true) }) rfl (fun K hK => ?_) (AllReadyH.cons (o := { dst := some 35, op := Op.buildSlice 22 3 #[(0, Operand.tmp 32), (1, Operand.tmp 33), (2, Operand.tmp 34)], type := 22, pos := "outright.go:19", after := #[{ on := 20, ground := Ground.data }, { on := 21, ground := Ground.data }, { on := 22, ground := Ground.data }, { on := 15, ground := Ground.guard }], guard := some (15, true) }) rfl (fun K hK => ?_) AllReadyH.nil)
    · refine take_if (by rfl) ?_
      obtain ⟨s0, s1, s2, s3, sb⟩ := hS
      go_simp
      (with_reducible refine (wk_close2 _ _ _ r18).mono ?_)
      rintro e' g19 ⟨A', cap, rfl, rA, hb⟩
      have t0 := sb.at_ hb s0 (show w1.heap.size < w4.heap.size + 1 by omega)
      have t1 := sb.at_ hb s1 (show w2.heap.size < w4.heap.size + 1 by omega)
      have t2 := sb.at_ hb s2 (show w3.heap.size < w4.heap.size + 1 by omega)
      have t3 := sb.at_ hb s3 (show w4.heap.size < w4.heap.size + 1 by omega)
      have r18 := r18.below hb (Nat.le_refl _)
      refine hK.out _ _ ⟨t0, t1, t2, t3, (sb.step hb)⟩ (fun hS => ?_)
      clear hK K hb s0 t0 s1 t1 s2 t2 s3 t3 sb
      try simp only [Act.put, List.setIfInBounds_toArray, List.set_cons_zero, List.set_cons_succ]
      clear r18
      refine wpAnyH_ready (rs := [23]) (by kernel_rfl) (by simp) ?_
      refine AllReadyH.cons (o := { dst := some 35, op := Op.buildSlice 22 3 #[(0, Operand.tmp 32), (1, Operand.tmp 33), (2, Operand.tmp 34)], type := 22, pos := "outright.go:19", after := #[{ on := 20, ground := Ground.data }, { on := 21, ground := Ground.data }, { on := 22, ground := Ground.data }, { on := 15, ground := Ground.guard }], guard := some (15, true) }) rfl (fun K hK => ?_) AllReadyH.nil
      refine take_if (by rfl) ?_
      obtain ⟨s0, s1, s2, s3, sb⟩ := hS
      go_simp
      refine hK.out _ _ ⟨(At.alloc s0 _), (At.alloc s1 _), (At.alloc s2 _), (At.alloc s3 _), (Bl.alloc sb _)⟩ (fun hS => ?_)
      clear hK K
      try simp only [Act.put, List.setIfInBounds_toArray, List.set_cons_zero, List.set_cons_succ]
      have r23 : Rd (g19.alloc (.cells #[.bool true, .int .i64 65535, .int .i64 5, .int .i64 1, .int .i64 52, .int .i64 0, .int .i64 0, .bool true, .int .u64 9, .bool true, .int .i64 65535, .int .i64 262143, .int .i64 0, .int .i64 52, .int .i64 0, .int .i64 0, .bool true, .int .u64 5, .bool true, .int .i64 65535, .int .i64 262143, .int .i64 1, .int .i64 52, .int .i64 0, .int .i64 0, .bool true, .int .u64 9] 25)) (g19.alloc (.cells #[.bool true, .int .i64 65535, .int .i64 5, .int .i64 1, .int .i64 52, .int .i64 0, .int .i64 0, .bool true, .int .u64 9, .bool true, .int .i64 65535, .int .i64 262143, .int .i64 0, .int .i64 52, .int .i64 0, .int .i64 0, .bool true, .int .u64 5, .bool true, .int .i64 65535, .int .i64 262143, .int .i64 1, .int .i64 52, .int .i64 0, .int .i64 0, .bool true, .int .u64 9] 25)).heap.size (some ⟨g19.heap.size, 0, none⟩) [kS, kR, kT] := rd_new [kS, kR, kT] g19
      have rA := rA.up (.cells #[.bool true, .int .i64 65535, .int .i64 5, .int .i64 1, .int .i64 52, .int .i64 0, .int .i64 0, .bool true, .int .u64 9, .bool true, .int .i64 65535, .int .i64 262143, .int .i64 0, .int .i64 52, .int .i64 0, .int .i64 0, .bool true, .int .u64 5, .bool true, .int .i64 65535, .int .i64 262143, .int .i64 1, .int .i64 52, .int .i64 0, .int .i64 0, .bool true, .int .u64 9] 25)
      generalize hgw : (g19.alloc (.cells #[.bool true, .int .i64 65535, .int .i64 5, .int .i64 1, .int .i64 52, .int .i64 0, .int .i64 0, .bool true, .int .u64 9, .bool true, .int .i64 65535, .int .i64 262143, .int .i64 0, .int .i64 52, .int .i64 0, .int .i64 0, .bool true, .int .u64 5, .bool true, .int .i64 65535, .int .i64 262143, .int .i64 1, .int .i64 52, .int .i64 0, .int .i64 0, .bool true, .int .u64 9] 25)) = g23 at hS r23 rA ⊢
      clear hgw
      refine wpAnyH_ready (rs := [24]) (by kernel_rfl) (by simp) ?_
      refine AllReadyH.cons (o := { dst := some 36, op := Op.call { callee := Callee.value (Operand.func 15), args := #[Operand.tmp 31, Operand.tmp 35], argTypes := #[22, 22] }, type := 4, pos := "outright.go:19", after := #[{ on := 19, ground := Ground.data }, { on := 23, ground := Ground.data }, { on := 19, ground := Ground.chain }, { on := 15, ground := Ground.guard }], guard := some (15, true) }) rfl (fun K hK => ?_) AllReadyH.nil
      refine take_if (by rfl) ?_
      obtain ⟨s0, s1, s2, s3, sb⟩ := hS
      go_simp
      (with_reducible refine (wk_same _ _ _ _ _ rA r23).mono ?_)
      rintro e' g24 ⟨rfl, hb⟩
      have t0 := sb.at_ hb s0 (show w1.heap.size < w4.heap.size + 1 by omega)
      have t1 := sb.at_ hb s1 (show w2.heap.size < w4.heap.size + 1 by omega)
      have t2 := sb.at_ hb s2 (show w3.heap.size < w4.heap.size + 1 by omega)
      have t3 := sb.at_ hb s3 (show w4.heap.size < w4.heap.size + 1 by omega)
      have rA := rA.below hb (Nat.le_refl _)
      have r23 := r23.below hb (Nat.le_refl _)
      refine hK.out _ _ ⟨t0, t1, t2, t3, (sb.step hb)⟩ (fun hS => ?_)
      clear hK K hb s0 t0 s1 t1 s2 t2 s3 t3 sb
      try simp only [Act.put, List.setIfInBounds_toArray, List.set_cons_zero, List.set_cons_succ]
      clear rA
      clear r23
      (refine wpAnyH_take (i := 25) (oi := { dst := some 37, op := Op.pick (Operand.tmp 27) (Operand.tmp 36) (Operand.const (Value.bool false)), type := 4, pos := "outright.go:19", after := #[{ on := 15, ground := Ground.data }, { on := 24, ground := Ground.data }], guard := none }) (v := ?_) rfl (by kernel_rfl) (by kernel_rfl) (by kernel_rfl) (fun _ _ _ h => h) (Or.inl ⟨by rfl, ?_⟩) hS ?_; rotate_left; focus (intro w' hSw; obtain ⟨s0, s1, s2, s3, sb⟩ := hSw; go_simp <;> try with_reducible rfl))
      try simp only [Act.put, List.setIfInBounds_toArray, List.set_cons_zero, List.set_cons_succ]
      (refine wpAnyH_take (i := 26) (oi := { dst := some 38, op := Op.move (Operand.tmp 37), type := 4, pos := "outright.go:19", after := #[{ on := 25, ground := Ground.data }, { on := 24, ground := Ground.chain }], guard := none }) (v := ?_) rfl (by kernel_rfl) (by kernel_rfl) (by kernel_rfl) (fun _ _ _ h => h) (Or.inl ⟨by rfl, ?_⟩) hS ?_; rotate_left; focus (intro w' hSw; obtain ⟨s0, s1, s2, s3, sb⟩ := hSw; go_simp <;> try with_reducible rfl))
      try simp only [Act.put, List.setIfInBounds_toArray, List.set_cons_zero, List.set_cons_succ]
      (refine wpAnyH_take (i := 27) (oi := { dst := some 39, op := Op.load 25 (Operand.tmp 3), type := 25, pos := "outright.go:19", after := #[{ on := 26, ground := Ground.guard }], guard := some (26, true) }) (v := ?_) rfl (by kernel_rfl) (by kernel_rfl) (by kernel_rfl) (fun _ _ _ h => h) (Or.inl ⟨by rfl, ?_⟩) hS ?_; rotate_left; focus (intro w' hSw; obtain ⟨s0, s1, s2, s3, sb⟩ := hSw; obtain ⟨_, _, _, _, _, _, _, _, _⟩ := s0.out9; obtain ⟨_, _, _, _, _, _, _, _, _⟩ := s1.out9; obtain ⟨_, _, _, _, _, _, _, _, _⟩ := s2.out9; obtain ⟨_, _, _, _, _, _, _, _, _⟩ := s3.out9; go_simp <;> try with_reducible rfl))
      try simp only [Act.put, List.setIfInBounds_toArray, List.set_cons_zero, List.set_cons_succ]
      (refine wpAnyH_take (i := 28) (oi := { dst := some 40, op := Op.load 25 (Operand.tmp 1), type := 25, pos := "outright.go:19", after := #[{ on := 26, ground := Ground.guard }], guard := some (26, true) }) (v := ?_) rfl (by kernel_rfl) (by kernel_rfl) (by kernel_rfl) (fun _ _ _ h => h) (Or.inl ⟨by rfl, ?_⟩) hS ?_; rotate_left; focus (intro w' hSw; obtain ⟨s0, s1, s2, s3, sb⟩ := hSw; obtain ⟨_, _, _, _, _, _, _, _, _⟩ := s0.out9; obtain ⟨_, _, _, _, _, _, _, _, _⟩ := s1.out9; obtain ⟨_, _, _, _, _, _, _, _, _⟩ := s2.out9; obtain ⟨_, _, _, _, _, _, _, _, _⟩ := s3.out9; go_simp <;> try with_reducible rfl))
      try simp only [Act.put, List.setIfInBounds_toArray, List.set_cons_zero, List.set_cons_succ]
      (refine wpAnyH_take (i := 30) (oi := { dst := some 42, op := Op.load 25 (Operand.tmp 2), type := 25, pos := "outright.go:19", after := #[{ on := 26, ground := Ground.guard }], guard := some (26, true) }) (v := ?_) rfl (by kernel_rfl) (by kernel_rfl) (by kernel_rfl) (fun _ _ _ h => h) (Or.inl ⟨by rfl, ?_⟩) hS ?_; rotate_left; focus (intro w' hSw; obtain ⟨s0, s1, s2, s3, sb⟩ := hSw; obtain ⟨_, _, _, _, _, _, _, _, _⟩ := s0.out9; obtain ⟨_, _, _, _, _, _, _, _, _⟩ := s1.out9; obtain ⟨_, _, _, _, _, _, _, _, _⟩ := s2.out9; obtain ⟨_, _, _, _, _, _, _, _, _⟩ := s3.out9; go_simp <;> try with_reducible rfl))
      try simp only [Act.put, List.setIfInBounds_toArray, List.set_cons_zero, List.set_cons_succ]
      refine wpAnyH_ready (rs := [29]) (by kernel_rfl) (by simp) ?_
      refine AllReadyH.cons (o := { dst := some 41, op := Op.buildSlice 22 2 #[(0, Operand.tmp 39), (1, Operand.tmp 40)], type := 22, pos := "outright.go:19", after := #[{ on := 27, ground := Ground.data }, { on := 28, ground := Ground.data }, { on := 26, ground := Ground.guard }], guard := some (26, true) }) rfl (fun K hK => ?_) AllReadyH.nil
      refine take_if (by rfl) ?_
      obtain ⟨s0, s1, s2, s3, sb⟩ := hS
      go_simp
      refine hK.out _ _ ⟨(At.alloc s0 _), (At.alloc s1 _), (At.alloc s2 _), (At.alloc s3 _), (Bl.alloc sb _)⟩ (fun hS => ?_)
      clear hK K
      try simp only [Act.put, List.setIfInBounds_toArray, List.set_cons_zero, List.set_cons_succ]
      have r29 : Rd (g24.alloc (.cells #[.bool true, .int .i64 65535, .int .i64 5, .int .i64 1, .int .i64 52, .int .i64 0, .int .i64 0, .bool true, .int .u64 9, .bool true, .int .i64 65535, .int .i64 262143, .int .i64 0, .int .i64 52, .int .i64 0, .int .i64 0, .bool true, .int .u64 5] 25)) (g24.alloc (.cells #[.bool true, .int .i64 65535, .int .i64 5, .int .i64 1, .int .i64 52, .int .i64 0, .int .i64 0, .bool true, .int .u64 9, .bool true, .int .i64 65535, .int .i64 262143, .int .i64 0, .int .i64 52, .int .i64 0, .int .i64 0, .bool true, .int .u64 5] 25)).heap.size (some ⟨g24.heap.size, 0, none⟩) [kS, kR] := rd_new [kS, kR] g24
      generalize hgw : (g24.alloc (.cells #[.bool true, .int .i64 65535, .int .i64 5, .int .i64 1, .int .i64 52, .int .i64 0, .int .i64 0, .bool true, .int .u64 9, .bool true, .int .i64 65535, .int .i64 262143, .int .i64 0, .int .i64 52, .int .i64 0, .int .i64 0, .bool true, .int .u64 5] 25)) = g29 at hS r29 ⊢
      clear hgw
      refine wpAnyH_ready (rs := [31]) (by kernel_rfl) (by simp) ?_
      refine AllReadyH.cons (o := { dst := some 43, op := Op.call { callee := Callee.value (Operand.func 18), args := #[Operand.tmp 41, Operand.tmp 42], argTypes := #[22, 25] }, type := 4, pos := "outright.go:19", after := #[{ on := 29, ground := Ground.data }, { on := 30, ground := Ground.data }, { on := 26, ground := Ground.chain }, { on := 26, ground := Ground.guard }], guard := some (26, true) }) rfl (fun K hK => ?_) AllReadyH.nil
      refine take_if (by rfl) ?_
      obtain ⟨s0, s1, s2, s3, sb⟩ := hS
      go_simp
      (with_reducible refine (wk_has1 _ _ _ r29).mono ?_)
      rintro e' g31 ⟨rfl, hb⟩
      have t0 := sb.at_ hb s0 (show w1.heap.size < w4.heap.size + 1 by omega)
      have t1 := sb.at_ hb s1 (show w2.heap.size < w4.heap.size + 1 by omega)
      have t2 := sb.at_ hb s2 (show w3.heap.size < w4.heap.size + 1 by omega)
      have t3 := sb.at_ hb s3 (show w4.heap.size < w4.heap.size + 1 by omega)
      have r29 := r29.below hb (Nat.le_refl _)
      refine hK.out _ _ ⟨t0, t1, t2, t3, (sb.step hb)⟩ (fun hS => ?_)
      clear hK K hb s0 t0 s1 t1 s2 t2 s3 t3 sb
      try simp only [Act.put, List.setIfInBounds_toArray, List.set_cons_zero, List.set_cons_succ]
      clear r29
      (refine wpAnyH_take (i := 32) (oi := { dst := some 44, op := Op.pick (Operand.tmp 38) (Operand.tmp 43) (Operand.const (Value.bool false)), type := 4, pos := "outright.go:19", after := #[{ on := 26, ground := Ground.data }, { on := 31, ground := Ground.data }], guard := none }) (v := ?_) rfl (by kernel_rfl) (by kernel_rfl) (by kernel_rfl) (fun _ _ _ h => h) (Or.inl ⟨by rfl, ?_⟩) hS ?_; rotate_left; focus (intro w' hSw; obtain ⟨s0, s1, s2, s3, sb⟩ := hSw; go_simp <;> try with_reducible rfl))
      try simp only [Act.put, List.setIfInBounds_toArray, List.set_cons_zero, List.set_cons_succ]
      (refine wpAnyH_take (i := 33) (oi := { dst := some 45, op := Op.move (Operand.tmp 44), type := 4, pos := "outright.go:19", after := #[{ on := 32, ground := Ground.data }, { on := 31, ground := Ground.chain }], guard := none }) (v := ?_) rfl (by kernel_rfl) (by kernel_rfl) (by kernel_rfl) (fun _ _ _ h => h) (Or.inl ⟨by rfl, ?_⟩) hS ?_; rotate_left; focus (intro w' hSw; obtain ⟨s0, s1, s2, s3, sb⟩ := hSw; go_simp <;> try with_reducible rfl))
      try simp only [Act.put, List.setIfInBounds_toArray, List.set_cons_zero, List.set_cons_succ]
      (refine wpAnyH_take (i := 34) (oi := { dst := some 46, op := Op.load 25 (Operand.tmp 3), type := 25, pos := "outright.go:19", after := #[{ on := 33, ground := Ground.guard }], guard := some (33, true) }) (v := ?_) rfl (by kernel_rfl) (by kernel_rfl) (by kernel_rfl) (fun _ _ _ h => h) (Or.inl ⟨by rfl, ?_⟩) hS ?_; rotate_left; focus (intro w' hSw; obtain ⟨s0, s1, s2, s3, sb⟩ := hSw; obtain ⟨_, _, _, _, _, _, _, _, _⟩ := s0.out9; obtain ⟨_, _, _, _, _, _, _, _, _⟩ := s1.out9; obtain ⟨_, _, _, _, _, _, _, _, _⟩ := s2.out9; obtain ⟨_, _, _, _, _, _, _, _, _⟩ := s3.out9; go_simp <;> try with_reducible rfl))
      try simp only [Act.put, List.setIfInBounds_toArray, List.set_cons_zero, List.set_cons_succ]
      (refine wpAnyH_take (i := 36) (oi := { dst := some 48, op := Op.load 25 (Operand.tmp 2), type := 25, pos := "outright.go:19", after := #[{ on := 33, ground := Ground.guard }], guard := some (33, true) }) (v := ?_) rfl (by kernel_rfl) (by kernel_rfl) (by kernel_rfl) (fun _ _ _ h => h) (Or.inl ⟨by rfl, ?_⟩) hS ?_; rotate_left; focus (intro w' hSw; obtain ⟨s0, s1, s2, s3, sb⟩ := hSw; obtain ⟨_, _, _, _, _, _, _, _, _⟩ := s0.out9; obtain ⟨_, _, _, _, _, _, _, _, _⟩ := s1.out9; obtain ⟨_, _, _, _, _, _, _, _, _⟩ := s2.out9; obtain ⟨_, _, _, _, _, _, _, _, _⟩ := s3.out9; go_simp <;> try with_reducible rfl))
      try simp only [Act.put, List.setIfInBounds_toArray, List.set_cons_zero, List.set_cons_succ]
      refine wpAnyH_ready (rs := [35]) (by kernel_rfl) (by simp) ?_
      refine AllReadyH.cons (o := { dst := some 47, op := Op.buildSlice 22 1 #[(0, Operand.tmp 46)], type := 22, pos := "outright.go:19", after := #[{ on := 34, ground := Ground.data }, { on := 33, ground := Ground.guard }], guard := some (33, true) }) rfl (fun K hK => ?_) AllReadyH.nil
      refine take_if (by rfl) ?_
      obtain ⟨s0, s1, s2, s3, sb⟩ := hS
      go_simp
      refine hK.out _ _ ⟨(At.alloc s0 _), (At.alloc s1 _), (At.alloc s2 _), (At.alloc s3 _), (Bl.alloc sb _)⟩ (fun hS => ?_)
      clear hK K
      try simp only [Act.put, List.setIfInBounds_toArray, List.set_cons_zero, List.set_cons_succ]
      have r35 : Rd (g31.alloc (.cells #[.bool true, .int .i64 65535, .int .i64 5, .int .i64 1, .int .i64 52, .int .i64 0, .int .i64 0, .bool true, .int .u64 9] 25)) (g31.alloc (.cells #[.bool true, .int .i64 65535, .int .i64 5, .int .i64 1, .int .i64 52, .int .i64 0, .int .i64 0, .bool true, .int .u64 9] 25)).heap.size (some ⟨g31.heap.size, 0, none⟩) [kS] := rd_new [kS] g31
      generalize hgw : (g31.alloc (.cells #[.bool true, .int .i64 65535, .int .i64 5, .int .i64 1, .int .i64 52, .int .i64 0, .int .i64 0, .bool true, .int .u64 9] 25)) = g35 at hS r35 ⊢
      clear hgw
      refine wpAnyH_ready (rs := [37]) (by kernel_rfl) (by simp) ?_
      refine AllReadyH.cons (o := { dst := some 49, op := Op.call { callee := Callee.value (Operand.func 18), args := #[Operand.tmp 47, Operand.tmp 48], argTypes := #[22, 25] }, type := 4, pos := "outright.go:19", after := #[{ on := 35, ground := Ground.data }, { on := 36, ground := Ground.data }, { on := 33, ground := Ground.chain }, { on := 33, ground := Ground.guard }], guard := some (33, true) }) rfl (fun K hK => ?_) AllReadyH.nil
      refine take_if (by rfl) ?_
      obtain ⟨s0, s1, s2, s3, sb⟩ := hS
      go_simp
      (with_reducible refine (wk_has2 _ _ _ r35).mono ?_)
      rintro e' g37 ⟨rfl, hb⟩
      have t0 := sb.at_ hb s0 (show w1.heap.size < w4.heap.size + 1 by omega)
      have t1 := sb.at_ hb s1 (show w2.heap.size < w4.heap.size + 1 by omega)
      have t2 := sb.at_ hb s2 (show w3.heap.size < w4.heap.size + 1 by omega)
      have t3 := sb.at_ hb s3 (show w4.heap.size < w4.heap.size + 1 by omega)
      have r35 := r35.below hb (Nat.le_refl _)
      refine hK.out _ _ ⟨t0, t1, t2, t3, (sb.step hb)⟩ (fun hS => ?_)
      clear hK K hb s0 t0 s1 t1 s2 t2 s3 t3 sb
      try simp only [Act.put, List.setIfInBounds_toArray, List.set_cons_zero, List.set_cons_succ]
      clear r35
      (refine wpAnyH_take (i := 38) (oi := { dst := some 50, op := Op.unOp UnOp.not 4 (Operand.tmp 49), type := 4, pos := "outright.go:19", after := #[{ on := 37, ground := Ground.data }, { on := 33, ground := Ground.guard }], guard := some (33, true) }) (v := ?_) rfl (by kernel_rfl) (by kernel_rfl) (by kernel_rfl) (fun _ _ _ h => h) (Or.inl ⟨by rfl, ?_⟩) hS ?_; rotate_left; focus (intro w' hSw; obtain ⟨s0, s1, s2, s3, sb⟩ := hSw; go_simp <;> try with_reducible rfl))
      try simp only [Act.put, List.setIfInBounds_toArray, List.set_cons_zero, List.set_cons_succ]
      (refine wpAnyH_take (i := 39) (oi := { dst := some 51, op := Op.pick (Operand.tmp 45) (Operand.tmp 50) (Operand.const (Value.bool false)), type := 4, pos := "outright.go:19", after := #[{ on := 33, ground := Ground.data }, { on := 38, ground := Ground.data }], guard := none }) (v := ?_) rfl (by kernel_rfl) (by kernel_rfl) (by kernel_rfl) (fun _ _ _ h => h) (Or.inl ⟨by rfl, ?_⟩) hS ?_; rotate_left; focus (intro w' hSw; obtain ⟨s0, s1, s2, s3, sb⟩ := hSw; go_simp <;> try with_reducible rfl))
      try simp only [Act.put, List.setIfInBounds_toArray, List.set_cons_zero, List.set_cons_succ]
      (refine wpAnyH_take (i := 40) (oi := { dst := some 52, op := Op.move (Operand.tmp 51), type := 4, pos := "outright.go:19", after := #[{ on := 39, ground := Ground.data }, { on := 37, ground := Ground.chain }], guard := none }) (v := ?_) rfl (by kernel_rfl) (by kernel_rfl) (by kernel_rfl) (fun _ _ _ h => h) (Or.inl ⟨by rfl, ?_⟩) hS ?_; rotate_left; focus (intro w' hSw; obtain ⟨s0, s1, s2, s3, sb⟩ := hSw; go_simp <;> try with_reducible rfl))
      try simp only [Act.put, List.setIfInBounds_toArray, List.set_cons_zero, List.set_cons_succ]
      (refine wpAnyH_take (i := 41) (oi := { dst := some 53, op := Op.load 25 (Operand.tmp 1), type := 25, pos := "outright.go:19", after := #[{ on := 40, ground := Ground.guard }], guard := some (40, true) }) (v := ?_) rfl (by kernel_rfl) (by kernel_rfl) (by kernel_rfl) (fun _ _ _ h => h) (Or.inl ⟨by rfl, ?_⟩) hS ?_; rotate_left; focus (intro w' hSw; obtain ⟨s0, s1, s2, s3, sb⟩ := hSw; obtain ⟨_, _, _, _, _, _, _, _, _⟩ := s0.out9; obtain ⟨_, _, _, _, _, _, _, _, _⟩ := s1.out9; obtain ⟨_, _, _, _, _, _, _, _, _⟩ := s2.out9; obtain ⟨_, _, _, _, _, _, _, _, _⟩ := s3.out9; go_simp <;> try with_reducible rfl))
      try simp only [Act.put, List.setIfInBounds_toArray, List.set_cons_zero, List.set_cons_succ]
      refine wpAnyH_ready (rs := [42]) (by kernel_rfl) (by simp) ?_
      refine AllReadyH.cons (o := { dst := some 54, op := Op.call { callee := Callee.value (Operand.func 18), args := #[Operand.const (Value.slice none 0 0), Operand.tmp 53], argTypes := #[22, 25] }, type := 4, pos := "outright.go:19", after := #[{ on := 41, ground := Ground.data }, { on := 40, ground := Ground.chain }, { on := 40, ground := Ground.guard }], guard := some (40, true) }) rfl (fun K hK => ?_) AllReadyH.nil
      refine take_if (by rfl) ?_
      obtain ⟨s0, s1, s2, s3, sb⟩ := hS
      go_simp
      (with_reducible refine (wk_has3 _).mono ?_)
      rintro e' g42 ⟨rfl, hb⟩
      have t0 := sb.at_ hb s0 (show w1.heap.size < w4.heap.size + 1 by omega)
      have t1 := sb.at_ hb s1 (show w2.heap.size < w4.heap.size + 1 by omega)
      have t2 := sb.at_ hb s2 (show w3.heap.size < w4.heap.size + 1 by omega)
      have t3 := sb.at_ hb s3 (show w4.heap.size < w4.heap.size + 1 by omega)
      refine hK.out _ _ ⟨t0, t1, t2, t3, (sb.step hb)⟩ (fun hS => ?_)
      clear hK K hb s0 t0 s1 t1 s2 t2 s3 t3 sb
      try simp only [Act.put, List.setIfInBounds_toArray, List.set_cons_zero, List.set_cons_succ]
      (refine wpAnyH_take (i := 43) (oi := { dst := some 55, op := Op.unOp UnOp.not 4 (Operand.tmp 54), type := 4, pos := "outright.go:19", after := #[{ on := 42, ground := Ground.data }, { on := 40, ground := Ground.guard }], guard := some (40, true) }) (v := ?_) rfl (by kernel_rfl) (by kernel_rfl) (by kernel_rfl) (fun _ _ _ h => h) (Or.inl ⟨by rfl, ?_⟩) hS ?_; rotate_left; focus (intro w' hSw; obtain ⟨s0, s1, s2, s3, sb⟩ := hSw; go_simp <;> try with_reducible rfl))
      try simp only [Act.put, List.setIfInBounds_toArray, List.set_cons_zero, List.set_cons_succ]
      (refine wpAnyH_take (i := 44) (oi := { dst := some 56, op := Op.pick (Operand.tmp 52) (Operand.tmp 55) (Operand.const (Value.bool false)), type := 4, pos := "outright.go:19", after := #[{ on := 40, ground := Ground.data }, { on := 43, ground := Ground.data }], guard := none }) (v := ?_) rfl (by kernel_rfl) (by kernel_rfl) (by kernel_rfl) (fun _ _ _ h => h) (Or.inl ⟨by rfl, ?_⟩) hS ?_; rotate_left; focus (intro w' hSw; obtain ⟨s0, s1, s2, s3, sb⟩ := hSw; go_simp <;> try with_reducible rfl))
      try simp only [Act.put, List.setIfInBounds_toArray, List.set_cons_zero, List.set_cons_succ]
      (refine wpAnyH_take (i := 45) (oi := { dst := some 57, op := Op.move (Operand.tmp 56), type := 4, pos := "outright.go:19", after := #[{ on := 44, ground := Ground.data }, { on := 42, ground := Ground.chain }], guard := none }) (v := ?_) rfl (by kernel_rfl) (by kernel_rfl) (by kernel_rfl) (fun _ _ _ h => h) (Or.inl ⟨by rfl, ?_⟩) hS ?_; rotate_left; focus (intro w' hSw; obtain ⟨s0, s1, s2, s3, sb⟩ := hSw; go_simp <;> try with_reducible rfl))
      try simp only [Act.put, List.setIfInBounds_toArray, List.set_cons_zero, List.set_cons_succ]
      (refine wpAnyH_take (i := 46) (oi := { dst := some 58, op := Op.load 25 (Operand.tmp 4), type := 25, pos := "outright.go:19", after := #[{ on := 45, ground := Ground.guard }], guard := some (45, true) }) (v := ?_) rfl (by kernel_rfl) (by kernel_rfl) (by kernel_rfl) (fun _ _ _ h => h) (Or.inl ⟨by rfl, ?_⟩) hS ?_; rotate_left; focus (intro w' hSw; obtain ⟨s0, s1, s2, s3, sb⟩ := hSw; obtain ⟨_, _, _, _, _, _, _, _, _⟩ := s0.out9; obtain ⟨_, _, _, _, _, _, _, _, _⟩ := s1.out9; obtain ⟨_, _, _, _, _, _, _, _, _⟩ := s2.out9; obtain ⟨_, _, _, _, _, _, _, _, _⟩ := s3.out9; go_simp <;> try with_reducible rfl))
      try simp only [Act.put, List.setIfInBounds_toArray, List.set_cons_zero, List.set_cons_succ]
      (refine wpAnyH_take (i := 47) (oi := { dst := some 59, op := Op.load 25 (Operand.tmp 1), type := 25, pos := "outright.go:19", after := #[{ on := 45, ground := Ground.guard }], guard := some (45, true) }) (v := ?_) rfl (by kernel_rfl) (by kernel_rfl) (by kernel_rfl) (fun _ _ _ h => h) (Or.inl ⟨by rfl, ?_⟩) hS ?_; rotate_left; focus (intro w' hSw; obtain ⟨s0, s1, s2, s3, sb⟩ := hSw; obtain ⟨_, _, _, _, _, _, _, _, _⟩ := s0.out9; obtain ⟨_, _, _, _, _, _, _, _, _⟩ := s1.out9; obtain ⟨_, _, _, _, _, _, _, _, _⟩ := s2.out9; obtain ⟨_, _, _, _, _, _, _, _, _⟩ := s3.out9; go_simp <;> try with_reducible rfl))
      try simp only [Act.put, List.setIfInBounds_toArray, List.set_cons_zero, List.set_cons_succ]
      refine wpAnyH_ready (rs := [48]) (by kernel_rfl) (by simp) ?_
      refine AllReadyH.cons (o := { dst := some 60, op := Op.call { callee := Callee.value (Operand.func 16), args := #[Operand.tmp 58, Operand.tmp 59], argTypes := #[25, 25] }, type := 4, pos := "outright.go:19", after := #[{ on := 46, ground := Ground.data }, { on := 47, ground := Ground.data }, { on := 45, ground := Ground.chain }, { on := 45, ground := Ground.guard }], guard := some (45, true) }) rfl (fun K hK => ?_) AllReadyH.nil
      refine take_if (by rfl) ?_
      obtain ⟨s0, s1, s2, s3, sb⟩ := hS
      go_simp
      (with_reducible refine (wk_less1 _).mono ?_)
      rintro e' g48 ⟨rfl, hb⟩
      have t0 := sb.at_ hb s0 (show w1.heap.size < w4.heap.size + 1 by omega)
      have t1 := sb.at_ hb s1 (show w2.heap.size < w4.heap.size + 1 by omega)
      have t2 := sb.at_ hb s2 (show w3.heap.size < w4.heap.size + 1 by omega)
      have t3 := sb.at_ hb s3 (show w4.heap.size < w4.heap.size + 1 by omega)
      refine hK.out _ _ ⟨t0, t1, t2, t3, (sb.step hb)⟩ (fun hS => ?_)
      clear hK K hb s0 t0 s1 t1 s2 t2 s3 t3 sb
      try simp only [Act.put, List.setIfInBounds_toArray, List.set_cons_zero, List.set_cons_succ]
      (refine wpAnyH_take (i := 49) (oi := { dst := some 61, op := Op.pick (Operand.tmp 57) (Operand.tmp 60) (Operand.const (Value.bool false)), type := 4, pos := "outright.go:19", after := #[{ on := 45, ground := Ground.data }, { on := 48, ground := Ground.data }], guard := none }) (v := ?_) rfl (by kernel_rfl) (by kernel_rfl) (by kernel_rfl) (fun _ _ _ h => h) (Or.inl ⟨by rfl, ?_⟩) hS ?_; rotate_left; focus (intro w' hSw; obtain ⟨s0, s1, s2, s3, sb⟩ := hSw; go_simp <;> try with_reducible rfl))
      try simp only [Act.put, List.setIfInBounds_toArray, List.set_cons_zero, List.set_cons_succ]
      (refine wpAnyH_take (i := 50) (oi := { dst := some 62, op := Op.move (Operand.tmp 61), type := 4, pos := "outright.go:19", after := #[{ on := 49, ground := Ground.data }, { on := 48, ground := Ground.chain }], guard := none }) (v := ?_) rfl (by kernel_rfl) (by kernel_rfl) (by kernel_rfl) (fun _ _ _ h => h) (Or.inl ⟨by rfl, ?_⟩) hS ?_; rotate_left; focus (intro w' hSw; obtain ⟨s0, s1, s2, s3, sb⟩ := hSw; go_simp <;> try with_reducible rfl))
      try simp only [Act.put, List.setIfInBounds_toArray, List.set_cons_zero, List.set_cons_succ]
      (refine wpAnyH_take (i := 51) (oi := { dst := some 63, op := Op.load 25 (Operand.tmp 1), type := 25, pos := "outright.go:19", after := #[{ on := 50, ground := Ground.guard }], guard := some (50, true) }) (v := ?_) rfl (by kernel_rfl) (by kernel_rfl) (by kernel_rfl) (fun _ _ _ h => h) (Or.inl ⟨by rfl, ?_⟩) hS ?_; rotate_left; focus (intro w' hSw; obtain ⟨s0, s1, s2, s3, sb⟩ := hSw; obtain ⟨_, _, _, _, _, _, _, _, _⟩ := s0.out9; obtain ⟨_, _, _, _, _, _, _, _, _⟩ := s1.out9; obtain ⟨_, _, _, _, _, _, _, _, _⟩ := s2.out9; obtain ⟨_, _, _, _, _, _, _, _, _⟩ := s3.out9; go_simp <;> try with_reducible rfl))
      try simp only [Act.put, List.setIfInBounds_toArray, List.set_cons_zero, List.set_cons_succ]
      (refine wpAnyH_take (i := 52) (oi := { dst := some 64, op := Op.load 25 (Operand.tmp 4), type := 25, pos := "outright.go:19", after := #[{ on := 50, ground := Ground.guard }], guard := some (50, true) }) (v := ?_) rfl (by kernel_rfl) (by kernel_rfl) (by kernel_rfl) (fun _ _ _ h => h) (Or.inl ⟨by rfl, ?_⟩) hS ?_; rotate_left; focus (intro w' hSw; obtain ⟨s0, s1, s2, s3, sb⟩ := hSw; obtain ⟨_, _, _, _, _, _, _, _, _⟩ := s0.out9; obtain ⟨_, _, _, _, _, _, _, _, _⟩ := s1.out9; obtain ⟨_, _, _, _, _, _, _, _, _⟩ := s2.out9; obtain ⟨_, _, _, _, _, _, _, _, _⟩ := s3.out9; go_simp <;> try with_reducible rfl))
      try simp only [Act.put, List.setIfInBounds_toArray, List.set_cons_zero, List.set_cons_succ]
      refine wpAnyH_ready (rs := [53]) (by kernel_rfl) (by simp) ?_
      refine AllReadyH.cons (o := { dst := some 65, op := Op.call { callee := Callee.value (Operand.func 16), args := #[Operand.tmp 63, Operand.tmp 64], argTypes := #[25, 25] }, type := 4, pos := "outright.go:19", after := #[{ on := 51, ground := Ground.data }, { on := 52, ground := Ground.data }, { on := 50, ground := Ground.chain }, { on := 50, ground := Ground.guard }], guard := some (50, true) }) rfl (fun K hK => ?_) AllReadyH.nil
      refine take_if (by rfl) ?_
      obtain ⟨s0, s1, s2, s3, sb⟩ := hS
      go_simp
      (with_reducible refine (wk_less2 _).mono ?_)
      rintro e' g53 ⟨rfl, hb⟩
      have t0 := sb.at_ hb s0 (show w1.heap.size < w4.heap.size + 1 by omega)
      have t1 := sb.at_ hb s1 (show w2.heap.size < w4.heap.size + 1 by omega)
      have t2 := sb.at_ hb s2 (show w3.heap.size < w4.heap.size + 1 by omega)
      have t3 := sb.at_ hb s3 (show w4.heap.size < w4.heap.size + 1 by omega)
      refine hK.out _ _ ⟨t0, t1, t2, t3, (sb.step hb)⟩ (fun hS => ?_)
      clear hK K hb s0 t0 s1 t1 s2 t2 s3 t3 sb
      try simp only [Act.put, List.setIfInBounds_toArray, List.set_cons_zero, List.set_cons_succ]
      (refine wpAnyH_take (i := 54) (oi := { dst := some 66, op := Op.unOp UnOp.not 4 (Operand.tmp 65), type := 4, pos := "outright.go:19", after := #[{ on := 53, ground := Ground.data }, { on := 50, ground := Ground.guard }], guard := some (50, true) }) (v := ?_) rfl (by kernel_rfl) (by kernel_rfl) (by kernel_rfl) (fun _ _ _ h => h) (Or.inl ⟨by rfl, ?_⟩) hS ?_; rotate_left; focus (intro w' hSw; obtain ⟨s0, s1, s2, s3, sb⟩ := hSw; go_simp <;> try with_reducible rfl))
      try simp only [Act.put, List.setIfInBounds_toArray, List.set_cons_zero, List.set_cons_succ]
      (refine wpAnyH_take (i := 55) (oi := { dst := some 67, op := Op.pick (Operand.tmp 62) (Operand.tmp 66) (Operand.const (Value.bool false)), type := 4, pos := "outright.go:19", after := #[{ on := 50, ground := Ground.data }, { on := 54, ground := Ground.data }], guard := none }) (v := ?_) rfl (by kernel_rfl) (by kernel_rfl) (by kernel_rfl) (fun _ _ _ h => h) (Or.inl ⟨by rfl, ?_⟩) hS ?_; rotate_left; focus (intro w' hSw; obtain ⟨s0, s1, s2, s3, sb⟩ := hSw; go_simp <;> try with_reducible rfl))
      try simp only [Act.put, List.setIfInBounds_toArray, List.set_cons_zero, List.set_cons_succ]
      (refine wpAnyH_take (i := 56) (oi := { dst := some 0, op := Op.assign (Operand.tmp 67), type := 4, pos := "outright.go:19", after := #[{ on := 55, ground := Ground.data }, { on := 53, ground := Ground.chain }, { on := 0, ground := Ground.phase }, { on := 1, ground := Ground.phase }, { on := 2, ground := Ground.phase }, { on := 3, ground := Ground.phase }, { on := 4, ground := Ground.phase }, { on := 5, ground := Ground.phase }, { on := 6, ground := Ground.phase }, { on := 7, ground := Ground.phase }, { on := 8, ground := Ground.phase }, { on := 9, ground := Ground.phase }, { on := 10, ground := Ground.phase }, { on := 11, ground := Ground.phase }, { on := 12, ground := Ground.phase }, { on := 13, ground := Ground.phase }, { on := 14, ground := Ground.phase }, { on := 15, ground := Ground.phase }, { on := 16, ground := Ground.phase }, { on := 17, ground := Ground.phase }, { on := 18, ground := Ground.phase }, { on := 19, ground := Ground.phase }, { on := 20, ground := Ground.phase }, { on := 21, ground := Ground.phase }, { on := 22, ground := Ground.phase }, { on := 23, ground := Ground.phase }, { on := 24, ground := Ground.phase }, { on := 25, ground := Ground.phase }, { on := 26, ground := Ground.phase }, { on := 27, ground := Ground.phase }, { on := 28, ground := Ground.phase }, { on := 29, ground := Ground.phase }, { on := 30, ground := Ground.phase }, { on := 31, ground := Ground.phase }, { on := 32, ground := Ground.phase }, { on := 33, ground := Ground.phase }, { on := 34, ground := Ground.phase }, { on := 35, ground := Ground.phase }, { on := 36, ground := Ground.phase }, { on := 37, ground := Ground.phase }, { on := 38, ground := Ground.phase }, { on := 39, ground := Ground.phase }, { on := 40, ground := Ground.phase }, { on := 41, ground := Ground.phase }, { on := 42, ground := Ground.phase }, { on := 43, ground := Ground.phase }, { on := 44, ground := Ground.phase }, { on := 45, ground := Ground.phase }, { on := 46, ground := Ground.phase }, { on := 47, ground := Ground.phase }, { on := 48, ground := Ground.phase }, { on := 49, ground := Ground.phase }, { on := 50, ground := Ground.phase }, { on := 51, ground := Ground.phase }, { on := 52, ground := Ground.phase }, { on := 53, ground := Ground.phase }, { on := 54, ground := Ground.phase }, { on := 55, ground := Ground.phase }], guard := none }) (v := ?_) rfl (by kernel_rfl) (by kernel_rfl) (by kernel_rfl) (fun _ _ _ h => h) (Or.inl ⟨by rfl, ?_⟩) hS ?_; rotate_left; focus (intro w' hSw; obtain ⟨s0, s1, s2, s3, sb⟩ := hSw; go_simp <;> try with_reducible rfl))
      try simp only [Act.put, List.setIfInBounds_toArray, List.set_cons_zero, List.set_cons_succ]
      refine wpAnyH_done (by kernel_rfl) ?_ _
      obtain ⟨s0, s1, s2, s3, sb⟩ := hS
      go_wp2
      go_ret
      exact ⟨rfl, sb.bl⟩
    · refine take_if (by rfl) ?_
      obtain ⟨s0, s1, s2, s3, sb⟩ := hS
      go_simp
      refine hK.out _ _ ⟨(At.alloc s0 _), (At.alloc s1 _), (At.alloc s2 _), (At.alloc s3 _), (Bl.alloc sb _)⟩ (fun hS => ?_)
      clear hK K
      try simp only [Act.put, List.setIfInBounds_toArray, List.set_cons_zero, List.set_cons_succ]
      have r23 : Rd (g18.alloc (.cells #[.bool true, .int .i64 65535, .int .i64 5, .int .i64 1, .int .i64 52, .int .i64 0, .int .i64 0, .bool true, .int .u64 9, .bool true, .int .i64 65535, .int .i64 262143, .int .i64 0, .int .i64 52, .int .i64 0, .int .i64 0, .bool true, .int .u64 5, .bool true, .int .i64 65535, .int .i64 262143, .int .i64 1, .int .i64 52, .int .i64 0, .int .i64 0, .bool true, .int .u64 9] 25)) (g18.alloc (.cells #[.bool true, .int .i64 65535, .int .i64 5, .int .i64 1, .int .i64 52, .int .i64 0, .int .i64 0, .bool true, .int .u64 9, .bool true, .int .i64 65535, .int .i64 262143, .int .i64 0, .int .i64 52, .int .i64 0, .int .i64 0, .bool true, .int .u64 5, .bool true, .int .i64 65535, .int .i64 262143, .int .i64 1, .int .i64 52, .int .i64 0, .int .i64 0, .bool true, .int .u64 9] 25)).heap.size (some ⟨g18.heap.size, 0, none⟩) [kS, kR, kT] := rd_new [kS, kR, kT] g18
      have r18 := r18.up (.cells #[.bool true, .int .i64 65535, .int .i64 5, .int .i64 1, .int .i64 52, .int .i64 0, .int .i64 0, .bool true, .int .u64 9, .bool true, .int .i64 65535, .int .i64 262143, .int .i64 0, .int .i64 52, .int .i64 0, .int .i64 0, .bool true, .int .u64 5, .bool true, .int .i64 65535, .int .i64 262143, .int .i64 1, .int .i64 52, .int .i64 0, .int .i64 0, .bool true, .int .u64 9] 25)
      generalize hgw : (g18.alloc (.cells #[.bool true, .int .i64 65535, .int .i64 5, .int .i64 1, .int .i64 52, .int .i64 0, .int .i64 0, .bool true, .int .u64 9, .bool true, .int .i64 65535, .int .i64 262143, .int .i64 0, .int .i64 52, .int .i64 0, .int .i64 0, .bool true, .int .u64 5, .bool true, .int .i64 65535, .int .i64 262143, .int .i64 1, .int .i64 52, .int .i64 0, .int .i64 0, .bool true, .int .u64 9] 25)) = g23 at hS r23 r18 ⊢
      clear hgw
      refine wpAnyH_ready (rs := [19]) (by kernel_rfl) (by simp) ?_
      refine AllReadyH.cons (o := { dst := some 31, op := Op.call { callee := Callee.value (Operand.func 13), args := #[Operand.tmp 30], argTypes := #[22] }, type := 22, pos := "outright.go:19", after := #[{ on := 18, ground := Ground.data }, { on := 15, ground := Ground.chain }, { on := 15, ground := Ground.guard }], guard := some (15, true) }) rfl (fun K hK => ?_) AllReadyH.nil
      refine take_if (by rfl) ?_
      obtain ⟨s0, s1, s2, s3, sb⟩ := hS
      go_simp
      (with_reducible refine (wk_close2 _ _ _ r18).mono ?_)
      rintro e' g19 ⟨A', cap, rfl, rA, hb⟩
      have t0 := sb.at_ hb s0 (show w1.heap.size < w4.heap.size + 1 by omega)
      have t1 := sb.at_ hb s1 (show w2.heap.size < w4.heap.size + 1 by omega)
      have t2 := sb.at_ hb s2 (show w3.heap.size < w4.heap.size + 1 by omega)
      have t3 := sb.at_ hb s3 (show w4.heap.size < w4.heap.size + 1 by omega)
      have r18 := r18.below hb (Nat.le_refl _)
      have r23 := r23.below hb (Nat.le_refl _)
      refine hK.out _ _ ⟨t0, t1, t2, t3, (sb.step hb)⟩ (fun hS => ?_)
      clear hK K hb s0 t0 s1 t1 s2 t2 s3 t3 sb
      try simp only [Act.put, List.setIfInBounds_toArray, List.set_cons_zero, List.set_cons_succ]
      clear r18
      refine wpAnyH_ready (rs := [24]) (by kernel_rfl) (by simp) ?_
      refine AllReadyH.cons (o := { dst := some 36, op := Op.call { callee := Callee.value (Operand.func 15), args := #[Operand.tmp 31, Operand.tmp 35], argTypes := #[22, 22] }, type := 4, pos := "outright.go:19", after := #[{ on := 19, ground := Ground.data }, { on := 23, ground := Ground.data }, { on := 19, ground := Ground.chain }, { on := 15, ground := Ground.guard }], guard := some (15, true) }) rfl (fun K hK => ?_) AllReadyH.nil
      refine take_if (by rfl) ?_
      obtain ⟨s0, s1, s2, s3, sb⟩ := hS
      go_simp
      (with_reducible refine (wk_same _ _ _ _ _ rA r23).mono ?_)
      rintro e' g24 ⟨rfl, hb⟩
      have t0 := sb.at_ hb s0 (show w1.heap.size < w4.heap.size + 1 by omega)
      have t1 := sb.at_ hb s1 (show w2.heap.size < w4.heap.size + 1 by omega)
      have t2 := sb.at_ hb s2 (show w3.heap.size < w4.heap.size + 1 by omega)
      have t3 := sb.at_ hb s3 (show w4.heap.size < w4.heap.size + 1 by omega)
      have r23 := r23.below hb (Nat.le_refl _)
      have rA := rA.below hb (Nat.le_refl _)
      refine hK.out _ _ ⟨t0, t1, t2, t3, (sb.step hb)⟩ (fun hS => ?_)
      clear hK K hb s0 t0 s1 t1 s2 t2 s3 t3 sb
      try simp only [Act.put, List.setIfInBounds_toArray, List.set_cons_zero, List.set_cons_succ]
      clear rA
      clear r23
      (refine wpAnyH_take (i := 25) (oi := { dst := some 37, op := Op.pick (Operand.tmp 27) (Operand.tmp 36) (Operand.const (Value.bool false)), type := 4, pos := "outright.go:19", after := #[{ on := 15, ground := Ground.data }, { on := 24, ground := Ground.data }], guard := none }) (v := ?_) rfl (by kernel_rfl) (by kernel_rfl) (by kernel_rfl) (fun _ _ _ h => h) (Or.inl ⟨by rfl, ?_⟩) hS ?_; rotate_left; focus (intro w' hSw; obtain ⟨s0, s1, s2, s3, sb⟩ := hSw; go_simp <;> try with_reducible rfl))
      try simp only [Act.put, List.setIfInBounds_toArray, List.set_cons_zero, List.set_cons_succ]
      (refine wpAnyH_take (i := 26) (oi := { dst := some 38, op := Op.move (Operand.tmp 37), type := 4, pos := "outright.go:19", after := #[{ on := 25, ground := Ground.data }, { on := 24, ground := Ground.chain }], guard := none }) (v := ?_) rfl (by kernel_rfl) (by kernel_rfl) (by kernel_rfl) (fun _ _ _ h => h) (Or.inl ⟨by rfl, ?_⟩) hS ?_; rotate_left; focus (intro w' hSw; obtain ⟨s0, s1, s2, s3, sb⟩ := hSw; go_simp <;> try with_reducible rfl))
      try simp only [Act.put, List.setIfInBounds_toArray, List.set_cons_zero, List.set_cons_succ]
      (refine wpAnyH_take (i := 27) (oi := { dst := some 39, op := Op.load 25 (Operand.tmp 3), type := 25, pos := "outright.go:19", after := #[{ on := 26, ground := Ground.guard }], guard := some (26, true) }) (v := ?_) rfl (by kernel_rfl) (by kernel_rfl) (by kernel_rfl) (fun _ _ _ h => h) (Or.inl ⟨by rfl, ?_⟩) hS ?_; rotate_left; focus (intro w' hSw; obtain ⟨s0, s1, s2, s3, sb⟩ := hSw; obtain ⟨_, _, _, _, _, _, _, _, _⟩ := s0.out9; obtain ⟨_, _, _, _, _, _, _, _, _⟩ := s1.out9; obtain ⟨_, _, _, _, _, _, _, _, _⟩ := s2.out9; obtain ⟨_, _, _, _, _, _, _, _, _⟩ := s3.out9; go_simp <;> try with_reducible rfl))
      try simp only [Act.put, List.setIfInBounds_toArray, List.set_cons_zero, List.set_cons_succ]
      (refine wpAnyH_take (i := 28) (oi := { dst := some 40, op := Op.load 25 (Operand.tmp 1), type := 25, pos := "outright.go:19", after := #[{ on := 26, ground := Ground.guard }], guard := some (26, true) }) (v := ?_) rfl (by kernel_rfl) (by kernel_rfl) (by kernel_rfl) (fun _ _ _ h => h) (Or.inl ⟨by rfl, ?_⟩) hS ?_; rotate_left; focus (intro w' hSw; obtain ⟨s0, s1, s2, s3, sb⟩ := hSw; obtain ⟨_, _, _, _, _, _, _, _, _⟩ := s0.out9; obtain ⟨_, _, _, _, _, _, _, _, _⟩ := s1.out9; obtain ⟨_, _, _, _, _, _, _, _, _⟩ := s2.out9; obtain ⟨_, _, _, _, _, _, _, _, _⟩ := s3.out9; go_simp <;> try with_reducible rfl))
      try simp only [Act.put, List.setIfInBounds_toArray, List.set_cons_zero, List.set_cons_succ]
      (refine wpAnyH_take (i := 30) (oi := { dst := some 42, op := Op.load 25 (Operand.tmp 2), type := 25, pos := "outright.go:19", after := #[{ on := 26, ground := Ground.guard }], guard := some (26, true) }) (v := ?_) rfl (by kernel_rfl) (by kernel_rfl) (by kernel_rfl) (fun _ _ _ h => h) (Or.inl ⟨by rfl, ?_⟩) hS ?_; rotate_left; focus (intro w' hSw; obtain ⟨s0, s1, s2, s3, sb⟩ := hSw; obtain ⟨_, _, _, _, _, _, _, _, _⟩ := s0.out9; obtain ⟨_, _, _, _, _, _, _, _, _⟩ := s1.out9; obtain ⟨_, _, _, _, _, _, _, _, _⟩ := s2.out9; obtain ⟨_, _, _, _, _, _, _, _, _⟩ := s3.out9; go_simp <;> try with_reducible rfl))
      try simp only [Act.put, List.setIfInBounds_toArray, List.set_cons_zero, List.set_cons_succ]
      refine wpAnyH_ready (rs := [29]) (by kernel_rfl) (by simp) ?_
      refine AllReadyH.cons (o := { dst := some 41, op := Op.buildSlice 22 2 #[(0, Operand.tmp 39), (1, Operand.tmp 40)], type := 22, pos := "outright.go:19", after := #[{ on := 27, ground := Ground.data }, { on := 28, ground := Ground.data }, { on := 26, ground := Ground.guard }], guard := some (26, true) }) rfl (fun K hK => ?_) AllReadyH.nil
      refine take_if (by rfl) ?_
      obtain ⟨s0, s1, s2, s3, sb⟩ := hS
      go_simp
      refine hK.out _ _ ⟨(At.alloc s0 _), (At.alloc s1 _), (At.alloc s2 _), (At.alloc s3 _), (Bl.alloc sb _)⟩ (fun hS => ?_)
      clear hK K
      try simp only [Act.put, List.setIfInBounds_toArray, List.set_cons_zero, List.set_cons_succ]
      have r29 : Rd (g24.alloc (.cells #[.bool true, .int .i64 65535, .int .i64 5, .int .i64 1, .int .i64 52, .int .i64 0, .int .i64 0, .bool true, .int .u64 9, .bool true, .int .i64 65535, .int .i64 262143, .int .i64 0, .int .i64 52, .int .i64 0, .int .i64 0, .bool true, .int .u64 5] 25)) (g24.alloc (.cells #[.bool true, .int .i64 65535, .int .i64 5, .int .i64 1, .int .i64 52, .int .i64 0, .int .i64 0, .bool true, .int .u64 9, .bool true, .int .i64 65535, .int .i64 262143, .int .i64 0, .int .i64 52, .int .i64 0, .int .i64 0, .bool true, .int .u64 5] 25)).heap.size (some ⟨g24.heap.size, 0, none⟩) [kS, kR] := rd_new [kS, kR] g24
      generalize hgw : (g24.alloc (.cells #[.bool true, .int .i64 65535, .int .i64 5, .int .i64 1, .int .i64 52, .int .i64 0, .int .i64 0, .bool true, .int .u64 9, .bool true, .int .i64 65535, .int .i64 262143, .int .i64 0, .int .i64 52, .int .i64 0, .int .i64 0, .bool true, .int .u64 5] 25)) = g29 at hS r29 ⊢
      clear hgw
      refine wpAnyH_ready (rs := [31]) (by kernel_rfl) (by simp) ?_
      refine AllReadyH.cons (o := { dst := some 43, op := Op.call { callee := Callee.value (Operand.func 18), args := #[Operand.tmp 41, Operand.tmp 42], argTypes := #[22, 25] }, type := 4, pos := "outright.go:19", after := #[{ on := 29, ground := Ground.data }, { on := 30, ground := Ground.data }, { on := 26, ground := Ground.chain }, { on := 26, ground := Ground.guard }], guard := some (26, true) }) rfl (fun K hK => ?_) AllReadyH.nil
      refine take_if (by rfl) ?_
      obtain ⟨s0, s1, s2, s3, sb⟩ := hS
      go_simp
      (with_reducible refine (wk_has1 _ _ _ r29).mono ?_)
      rintro e' g31 ⟨rfl, hb⟩
      have t0 := sb.at_ hb s0 (show w1.heap.size < w4.heap.size + 1 by omega)
      have t1 := sb.at_ hb s1 (show w2.heap.size < w4.heap.size + 1 by omega)
      have t2 := sb.at_ hb s2 (show w3.heap.size < w4.heap.size + 1 by omega)
      have t3 := sb.at_ hb s3 (show w4.heap.size < w4.heap.size + 1 by omega)
      have r29 := r29.below hb (Nat.le_refl _)
      refine hK.out _ _ ⟨t0, t1, t2, t3, (sb.step hb)⟩ (fun hS => ?_)
      clear hK K hb s0 t0 s1 t1 s2 t2 s3 t3 sb
      try simp only [Act.put, List.setIfInBounds_toArray, List.set_cons_zero, List.set_cons_succ]
      clear r29
      (refine wpAnyH_take (i := 32) (oi := { dst := some 44, op := Op.pick (Operand.tmp 38) (Operand.tmp 43) (Operand.const (Value.bool false)), type := 4, pos := "outright.go:19", after := #[{ on := 26, ground := Ground.data }, { on := 31, ground := Ground.data }], guard := none }) (v := ?_) rfl (by kernel_rfl) (by kernel_rfl) (by kernel_rfl) (fun _ _ _ h => h) (Or.inl ⟨by rfl, ?_⟩) hS ?_; rotate_left; focus (intro w' hSw; obtain ⟨s0, s1, s2, s3, sb⟩ := hSw; go_simp <;> try with_reducible rfl))
      try simp only [Act.put, List.setIfInBounds_toArray, List.set_cons_zero, List.set_cons_succ]
      (refine wpAnyH_take (i := 33) (oi := { dst := some 45, op := Op.move (Operand.tmp 44), type := 4, pos := "outright.go:19", after := #[{ on := 32, ground := Ground.data }, { on := 31, ground := Ground.chain }], guard := none }) (v := ?_) rfl (by kernel_rfl) (by kernel_rfl) (by kernel_rfl) (fun _ _ _ h => h) (Or.inl ⟨by rfl, ?_⟩) hS ?_; rotate_left; focus (intro w' hSw; obtain ⟨s0, s1, s2, s3, sb⟩ := hSw; go_simp <;> try with_reducible rfl))
      try simp only [Act.put, List.setIfInBounds_toArray, List.set_cons_zero, List.set_cons_succ]
      (refine wpAnyH_take (i := 34) (oi := { dst := some 46, op := Op.load 25 (Operand.tmp 3), type := 25, pos := "outright.go:19", after := #[{ on := 33, ground := Ground.guard }], guard := some (33, true) }) (v := ?_) rfl (by kernel_rfl) (by kernel_rfl) (by kernel_rfl) (fun _ _ _ h => h) (Or.inl ⟨by rfl, ?_⟩) hS ?_; rotate_left; focus (intro w' hSw; obtain ⟨s0, s1, s2, s3, sb⟩ := hSw; obtain ⟨_, _, _, _, _, _, _, _, _⟩ := s0.out9; obtain ⟨_, _, _, _, _, _, _, _, _⟩ := s1.out9; obtain ⟨_, _, _, _, _, _, _, _, _⟩ := s2.out9; obtain ⟨_, _, _, _, _, _, _, _, _⟩ := s3.out9; go_simp <;> try with_reducible rfl))
      try simp only [Act.put, List.setIfInBounds_toArray, List.set_cons_zero, List.set_cons_succ]
      (refine wpAnyH_take (i := 36) (oi := { dst := some 48, op := Op.load 25 (Operand.tmp 2), type := 25, pos := "outright.go:19", after := #[{ on := 33, ground := Ground.guard }], guard := some (33, true) }) (v := ?_) rfl (by kernel_rfl) (by kernel_rfl) (by kernel_rfl) (fun _ _ _ h => h) (Or.inl ⟨by rfl, ?_⟩) hS ?_; rotate_left; focus (intro w' hSw; obtain ⟨s0, s1, s2, s3, sb⟩ := hSw; obtain ⟨_, _, _, _, _, _, _, _, _⟩ := s0.out9; obtain ⟨_, _, _, _, _, _, _, _, _⟩ := s1.out9; obtain ⟨_, _, _, _, _, _, _, _, _⟩ := s2.out9; obtain ⟨_, _, _, _, _, _, _, _, _⟩ := s3.out9; go_simp <;> try with_reducible rfl))
      try simp only [Act.put, List.setIfInBounds_toArray, List.set_cons_zero, List.set_cons_succ]
      refine wpAnyH_ready (rs := [35]) (by kernel_rfl) (by simp) ?_
      refine AllReadyH.cons (o := { dst := some 47, op := Op.buildSlice 22 1 #[(0, Operand.tmp 46)], type := 22, pos := "outright.go:19", after := #[{ on := 34, ground := Ground.data }, { on := 33, ground := Ground.guard }], guard := some (33, true) }) rfl (fun K hK => ?_) AllReadyH.nil
      refine take_if (by rfl) ?_
      obtain ⟨s0, s1, s2, s3, sb⟩ := hS
      go_simp
      refine hK.out _ _ ⟨(At.alloc s0 _), (At.alloc s1 _), (At.alloc s2 _), (At.alloc s3 _), (Bl.alloc sb _)⟩ (fun hS => ?_)
      clear hK K
      try simp only [Act.put, List.setIfInBounds_toArray, List.set_cons_zero, List.set_cons_succ]
      have r35 : Rd (g31.alloc (.cells #[.bool true, .int .i64 65535, .int .i64 5, .int .i64 1, .int .i64 52, .int .i64 0, .int .i64 0, .bool true, .int .u64 9] 25)) (g31.alloc (.cells #[.bool true, .int .i64 65535, .int .i64 5, .int .i64 1, .int .i64 52, .int .i64 0, .int .i64 0, .bool true, .int .u64 9] 25)).heap.size (some ⟨g31.heap.size, 0, none⟩) [kS] := rd_new [kS] g31
      generalize hgw : (g31.alloc (.cells #[.bool true, .int .i64 65535, .int .i64 5, .int .i64 1, .int .i64 52, .int .i64 0, .int .i64 0, .bool true, .int .u64 9] 25)) = g35 at hS r35 ⊢
      clear hgw
      refine wpAnyH_ready (rs := [37]) (by kernel_rfl) (by simp) ?_
      refine AllReadyH.cons (o := { dst := some 49, op := Op.call { callee := Callee.value (Operand.func 18), args := #[Operand.tmp 47, Operand.tmp 48], argTypes := #[22, 25] }, type := 4, pos := "outright.go:19", after := #[{ on := 35, ground := Ground.data }, { on := 36, ground := Ground.data }, { on := 33, ground := Ground.chain }, { on := 33, ground := Ground.guard }], guard := some (33, true) }) rfl (fun K hK => ?_) AllReadyH.nil
      refine take_if (by rfl) ?_
      obtain ⟨s0, s1, s2, s3, sb⟩ := hS
      go_simp
      (with_reducible refine (wk_has2 _ _ _ r35).mono ?_)
      rintro e' g37 ⟨rfl, hb⟩
      have t0 := sb.at_ hb s0 (show w1.heap.size < w4.heap.size + 1 by omega)
      have t1 := sb.at_ hb s1 (show w2.heap.size < w4.heap.size + 1 by omega)
      have t2 := sb.at_ hb s2 (show w3.heap.size < w4.heap.size + 1 by omega)
      have t3 := sb.at_ hb s3 (show w4.heap.size < w4.heap.size + 1 by omega)
      have r35 := r35.below hb (Nat.le_refl _)
      refine hK.out _ _ ⟨t0, t1, t2, t3, (sb.step hb)⟩ (fun hS => ?_)
      clear hK K hb s0 t0 s1 t1 s2 t2 s3 t3 sb
      try simp only [Act.put, List.setIfInBounds_toArray, List.set_cons_zero, List.set_cons_succ]
      clear r35
      (refine wpAnyH_take (i := 38) (oi := { dst := some 50, op := Op.unOp UnOp.not 4 (Operand.tmp 49), type := 4, pos := "outright.go:19", after := #[{ on := 37, ground := Ground.data }, { on := 33, ground := Ground.guard }], guard := some (33, true) }) (v := ?_) rfl (by kernel_rfl) (by kernel_rfl) (by kernel_rfl) (fun _ _ _ h => h) (Or.inl ⟨by rfl, ?_⟩) hS ?_; rotate_left; focus (intro w' hSw; obtain ⟨s0, s1, s2, s3, sb⟩ := hSw; go_simp <;> try with_reducible rfl))
      try simp only [Act.put, List.setIfInBounds_toArray, List.set_cons_zero, List.set_cons_succ]
      (refine wpAnyH_take (i := 39) (oi := { dst := some 51, op := Op.pick (Operand.tmp 45) (Operand.tmp 50) (Operand.const (Value.bool false)), type := 4, pos := "outright.go:19", after := #[{ on := 33, ground := Ground.data }, { on := 38, ground := Ground.data }], guard := none }) (v := ?_) rfl (by kernel_rfl) (by kernel_rfl) (by kernel_rfl) (fun _ _ _ h => h) (Or.inl ⟨by rfl, ?_⟩) hS ?_; rotate_left; focus (intro w' hSw; obtain ⟨s0, s1, s2, s3, sb⟩ := hSw; go_simp <;> try with_reducible rfl))
      try simp only [Act.put, List.setIfInBounds_toArray, List.set_cons_zero, List.set_cons_succ]
      (refine wpAnyH_take (i := 40) (oi := { dst := some 52, op := Op.move (Operand.tmp 51), type := 4, pos := "outright.go:19", after := #[{ on := 39, ground := Ground.data }, { on := 37, ground := Ground.chain }], guard := none }) (v := ?_) rfl (by kernel_rfl) (by kernel_rfl) (by kernel_rfl) (fun _ _ _ h => h) (Or.inl ⟨by rfl, ?_⟩) hS ?_; rotate_left; focus (intro w' hSw; obtain ⟨s0, s1, s2, s3, sb⟩ := hSw; go_simp <;> try with_reducible rfl))
      try simp only [Act.put, List.setIfInBounds_toArray, List.set_cons_zero, List.set_cons_succ]
      (refine wpAnyH_take (i := 41) (oi := { dst := some 53, op := Op.load 25 (Operand.tmp 1), type := 25, pos := "outright.go:19", after := #[{ on := 40, ground := Ground.guard }], guard := some (40, true) }) (v := ?_) rfl (by kernel_rfl) (by kernel_rfl) (by kernel_rfl) (fun _ _ _ h => h) (Or.inl ⟨by rfl, ?_⟩) hS ?_; rotate_left; focus (intro w' hSw; obtain ⟨s0, s1, s2, s3, sb⟩ := hSw; obtain ⟨_, _, _, _, _, _, _, _, _⟩ := s0.out9; obtain ⟨_, _, _, _, _, _, _, _, _⟩ := s1.out9; obtain ⟨_, _, _, _, _, _, _, _, _⟩ := s2.out9; obtain ⟨_, _, _, _, _, _, _, _, _⟩ := s3.out9; go_simp <;> try with_reducible rfl))
      try simp only [Act.put, List.setIfInBounds_toArray, List.set_cons_zero, List.set_cons_succ]
      refine wpAnyH_ready (rs := [42]) (by kernel_rfl) (by simp) ?_
      refine AllReadyH.cons (o := { dst := some 54, op := Op.call { callee := Callee.value (Operand.func 18), args := #[Operand.const (Value.slice none 0 0), Operand.tmp 53], argTypes := #[22, 25] }, type := 4, pos := "outright.go:19", after := #[{ on := 41, ground := Ground.data }, { on := 40, ground := Ground.chain }, { on := 40, ground := Ground.guard }], guard := some (40, true) }) rfl (fun K hK => ?_) AllReadyH.nil
      refine take_if (by rfl) ?_
      obtain ⟨s0, s1, s2, s3, sb⟩ := hS
      go_simp
      (with_reducible refine (wk_has3 _).mono ?_)
      rintro e' g42 ⟨rfl, hb⟩
      have t0 := sb.at_ hb s0 (show w1.heap.size < w4.heap.size + 1 by omega)
      have t1 := sb.at_ hb s1 (show w2.heap.size < w4.heap.size + 1 by omega)
      have t2 := sb.at_ hb s2 (show w3.heap.size < w4.heap.size + 1 by omega)
      have t3 := sb.at_ hb s3 (show w4.heap.size < w4.heap.size + 1 by omega)
      refine hK.out _ _ ⟨t0, t1, t2, t3, (sb.step hb)⟩ (fun hS => ?_)
      clear hK K hb s0 t0 s1 t1 s2 t2 s3 t3 sb
      try simp only [Act.put, List.setIfInBounds_toArray, List.set_cons_zero, List.set_cons_succ]
      (refine wpAnyH_take (i := 43) (oi := { dst := some 55, op := Op.unOp UnOp.not 4 (Operand.tmp 54), type := 4, pos := "outright.go:19", after := #[{ on := 42, ground := Ground.data }, { on := 40, ground := Ground.guard }], guard := some (40, true) }) (v := ?_) rfl (by kernel_rfl) (by kernel_rfl) (by kernel_rfl) (fun _ _ _ h => h) (Or.inl ⟨by rfl, ?_⟩) hS ?_; rotate_left; focus (intro w' hSw; obtain ⟨s0, s1, s2, s3, sb⟩ := hSw; go_simp <;> try with_reducible rfl))
      try simp only [Act.put, List.setIfInBounds_toArray, List.set_cons_zero, List.set_cons_succ]
      (refine wpAnyH_take (i := 44) (oi := { dst := some 56, op := Op.pick (Operand.tmp 52) (Operand.tmp 55) (Operand.const (Value.bool false)), type := 4, pos := "outright.go:19", after := #[{ on := 40, ground := Ground.data }, { on := 43, ground := Ground.data }], guard := none }) (v := ?_) rfl (by kernel_rfl) (by kernel_rfl) (by kernel_rfl) (fun _ _ _ h => h) (Or.inl ⟨by rfl, ?_⟩) hS ?_; rotate_left; focus (intro w' hSw; obtain ⟨s0, s1, s2, s3, sb⟩ := hSw; go_simp <;> try with_reducible rfl))
      try simp only [Act.put, List.setIfInBounds_toArray, List.set_cons_zero, List.set_cons_succ]
      (refine wpAnyH_take (i := 45) (oi := { dst := some 57, op := Op.move (Operand.tmp 56), type := 4, pos := "outright.go:19", after := #[{ on := 44, ground := Ground.data }, { on := 42, ground := Ground.chain }], guard := none }) (v := ?_) rfl (by kernel_rfl) (by kernel_rfl) (by kernel_rfl) (fun _ _ _ h => h) (Or.inl ⟨by rfl, ?_⟩) hS ?_; rotate_left; focus (intro w' hSw; obtain ⟨s0, s1, s2, s3, sb⟩ := hSw; go_simp <;> try with_reducible rfl))
      try simp only [Act.put, List.setIfInBounds_toArray, List.set_cons_zero, List.set_cons_succ]
      (refine wpAnyH_take (i := 46) (oi := { dst := some 58, op := Op.load 25 (Operand.tmp 4), type := 25, pos := "outright.go:19", after := #[{ on := 45, ground := Ground.guard }], guard := some (45, true) }) (v := ?_) rfl (by kernel_rfl) (by kernel_rfl) (by kernel_rfl) (fun _ _ _ h => h) (Or.inl ⟨by rfl, ?_⟩) hS ?_; rotate_left; focus (intro w' hSw; obtain ⟨s0, s1, s2, s3, sb⟩ := hSw; obtain ⟨_, _, _, _, _, _, _, _, _⟩ := s0.out9; obtain ⟨_, _, _, _, _, _, _, _, _⟩ := s1.out9; obtain ⟨_, _, _, _, _, _, _, _, _⟩ := s2.out9; obtain ⟨_, _, _, _, _, _, _, _, _⟩ := s3.out9; go_simp <;> try with_reducible rfl))
      try simp only [Act.put, List.setIfInBounds_toArray, List.set_cons_zero, List.set_cons_succ]
      (refine wpAnyH_take (i := 47) (oi := { dst := some 59, op := Op.load 25 (Operand.tmp 1), type := 25, pos := "outright.go:19", after := #[{ on := 45, ground := Ground.guard }], guard := some (45, true) }) (v := ?_) rfl (by kernel_rfl) (by kernel_rfl) (by kernel_rfl) (fun _ _ _ h => h) (Or.inl ⟨by rfl, ?_⟩) hS ?_; rotate_left; focus (intro w' hSw; obtain ⟨s0, s1, s2, s3, sb⟩ := hSw; obtain ⟨_, _, _, _, _, _, _, _, _⟩ := s0.out9; obtain ⟨_, _, _, _, _, _, _, _, _⟩ := s1.out9; obtain ⟨_, _, _, _, _, _, _, _, _⟩ := s2.out9; obtain ⟨_, _, _, _, _, _, _, _, _⟩ := s3.out9; go_simp <;> try with_reducible rfl))
      try simp only [Act.put, List.setIfInBounds_toArray, List.set_cons_zero, List.set_cons_succ]
      refine wpAnyH_ready (rs := [48]) (by kernel_rfl) (by simp) ?_
      refine AllReadyH.cons (o := { dst := some 60, op := Op.call { callee := Callee.value (Operand.func 16), args := #[Operand.tmp 58, Operand.tmp 59], argTypes := #[25, 25] }, type := 4, pos := "outright.go:19", after := #[{ on := 46, ground := Ground.data }, { on := 47, ground := Ground.data }, { on := 45, ground := Ground.chain }, { on := 45, ground := Ground.guard }], guard := some (45, true) }) rfl (fun K hK => ?_) AllReadyH.nil
      refine take_if (by rfl) ?_
      obtain ⟨s0, s1, s2, s3, sb⟩ := hS
      go_simp
      (with_reducible refine (wk_less1 _).mono ?_)
      rintro e' g48 ⟨rfl, hb⟩
      have t0 := sb.at_ hb s0 (show w1.heap.size < w4.heap.size + 1 by omega)
      have t1 := sb.at_ hb s1 (show w2.heap.size < w4.heap.size + 1 by omega)
      have t2 := sb.at_ hb s2 (show w3.heap.size < w4.heap.size + 1 by omega)
      have t3 := sb.at_ hb s3 (show w4.heap.size < w4.heap.size + 1 by omega)
      refine hK.out _ _ ⟨t0, t1, t2, t3, (sb.step hb)⟩ (fun hS => ?_)
      clear hK K hb s0 t0 s1 t1 s2 t2 s3 t3 sb
      try simp only [Act.put, List.setIfInBounds_toArray, List.set_cons_zero, List.set_cons_succ]
      (refine wpAnyH_take (i := 49) (oi := { dst := some 61, op := Op.pick (Operand.tmp 57) (Operand.tmp 60) (Operand.const (Value.bool false)), type := 4, pos := "outright.go:19", after := #[{ on := 45, ground := Ground.data }, { on := 48, ground := Ground.data }], guard := none }) (v := ?_) rfl (by kernel_rfl) (by kernel_rfl) (by kernel_rfl) (fun _ _ _ h => h) (Or.inl ⟨by rfl, ?_⟩) hS ?_; rotate_left; focus (intro w' hSw; obtain ⟨s0, s1, s2, s3, sb⟩ := hSw; go_simp <;> try with_reducible rfl))
      try simp only [Act.put, List.setIfInBounds_toArray, List.set_cons_zero, List.set_cons_succ]
      (refine wpAnyH_take (i := 50) (oi := { dst := some 62, op := Op.move (Operand.tmp 61), type := 4, pos := "outright.go:19", after := #[{ on := 49, ground := Ground.data }, { on := 48, ground := Ground.chain }], guard := none }) (v := ?_) rfl (by kernel_rfl) (by kernel_rfl) (by kernel_rfl) (fun _ _ _ h => h) (Or.inl ⟨by rfl, ?_⟩) hS ?_; rotate_left; focus (intro w' hSw; obtain ⟨s0, s1, s2, s3, sb⟩ := hSw; go_simp <;> try with_reducible rfl))
      try simp only [Act.put, List.setIfInBounds_toArray, List.set_cons_zero, List.set_cons_succ]
      (refine wpAnyH_take (i := 51) (oi := { dst := some 63, op := Op.load 25 (Operand.tmp 1), type := 25, pos := "outright.go:19", after := #[{ on := 50, ground := Ground.guard }], guard := some (50, true) }) (v := ?_) rfl (by kernel_rfl) (by kernel_rfl) (by kernel_rfl) (fun _ _ _ h => h) (Or.inl ⟨by rfl, ?_⟩) hS ?_; rotate_left; focus (intro w' hSw; obtain ⟨s0, s1, s2, s3, sb⟩ := hSw; obtain ⟨_, _, _, _, _, _, _, _, _⟩ := s0.out9; obtain ⟨_, _, _, _, _, _, _, _, _⟩ := s1.out9; obtain ⟨_, _, _, _, _, _, _, _, _⟩ := s2.out9; obtain ⟨_, _, _, _, _, _, _, _, _⟩ := s3.out9; go_simp <;> try with_reducible rfl))
      try simp only [Act.put, List.setIfInBounds_toArray, List.set_cons_zero, List.set_cons_succ]
      (refine wpAnyH_take (i := 52) (oi := { dst := some 64, op := Op.load 25 (Operand.tmp 4), type := 25, pos := "outright.go:19", after := #[{ on := 50, ground := Ground.guard }], guard := some (50, true) }) (v := ?_) rfl (by kernel_rfl) (by kernel_rfl) (by kernel_rfl) (fun _ _ _ h => h) (Or.inl ⟨by rfl, ?_⟩) hS ?_; rotate_left; focus (intro w' hSw; obtain ⟨s0, s1, s2, s3, sb⟩ := hSw; obtain ⟨_, _, _, _, _, _, _, _, _⟩ := s0.out9; obtain ⟨_, _, _, _, _, _, _, _, _⟩ := s1.out9; obtain ⟨_, _, _, _, _, _, _, _, _⟩ := s2.out9; obtain ⟨_, _, _, _, _, _, _, _, _⟩ := s3.out9; go_simp <;> try with_reducible rfl))
      try simp only [Act.put, List.setIfInBounds_toArray, List.set_cons_zero, List.set_cons_succ]
      refine wpAnyH_ready (rs := [53]) (by kernel_rfl) (by simp) ?_
      refine AllReadyH.cons (o := { dst := some 65, op := Op.call { callee := Callee.value (Operand.func 16), args := #[Operand.tmp 63, Operand.tmp 64], argTypes := #[25, 25] }, type := 4, pos := "outright.go:19", after := #[{ on := 51, ground := Ground.data }, { on := 52, ground := Ground.data }, { on := 50, ground := Ground.chain }, { on := 50, ground := Ground.guard }], guard := some (50, true) }) rfl (fun K hK => ?_) AllReadyH.nil
      refine take_if (by rfl) ?_
      obtain ⟨s0, s1, s2, s3, sb⟩ := hS
      go_simp
      (with_reducible refine (wk_less2 _).mono ?_)
      rintro e' g53 ⟨rfl, hb⟩
      have t0 := sb.at_ hb s0 (show w1.heap.size < w4.heap.size + 1 by omega)
      have t1 := sb.at_ hb s1 (show w2.heap.size < w4.heap.size + 1 by omega)
      have t2 := sb.at_ hb s2 (show w3.heap.size < w4.heap.size + 1 by omega)
      have t3 := sb.at_ hb s3 (show w4.heap.size < w4.heap.size + 1 by omega)
      refine hK.out _ _ ⟨t0, t1, t2, t3, (sb.step hb)⟩ (fun hS => ?_)
      clear hK K hb s0 t0 s1 t1 s2 t2 s3 t3 sb
      try simp only [Act.put, List.setIfInBounds_toArray, List.set_cons_zero, List.set_cons_succ]
      (refine wpAnyH_take (i := 54) (oi := { dst := some 66, op := Op.unOp UnOp.not 4 (Operand.tmp 65), type := 4, pos := "outright.go:19", after := #[{ on := 53, ground := Ground.data }, { on := 50, ground := Ground.guard }], guard := some (50, true) }) (v := ?_) rfl (by kernel_rfl) (by kernel_rfl) (by kernel_rfl) (fun _ _ _ h => h) (Or.inl ⟨by rfl, ?_⟩) hS ?_; rotate_left; focus (intro w' hSw; obtain ⟨s0, s1, s2, s3, sb⟩ := hSw; go_simp <;> try with_reducible rfl))
      try simp only [Act.put, List.setIfInBounds_toArray, List.set_cons_zero, List.set_cons_succ]
      (refine wpAnyH_take (i := 55) (oi := { dst := some 67, op := Op.pick (Operand.tmp 62) (Operand.tmp 66) (Operand.const (Value.bool false)), type := 4, pos := "outright.go:19", after := #[{ on := 50, ground := Ground.data }, { on := 54, ground := Ground.data }], guard := none }) (v := ?_) rfl (by kernel_rfl) (by kernel_rfl) (by kernel_rfl) (fun _ _ _ h => h) (Or.inl ⟨by rfl, ?_⟩) hS ?_; rotate_left; focus (intro w' hSw; obtain ⟨s0, s1, s2, s3, sb⟩ := hSw; go_simp <;> try with_reducible rfl))
      try simp only [Act.put, List.setIfInBounds_toArray, List.set_cons_zero, List.set_cons_succ]
      (refine wpAnyH_take (i := 56) (oi := { dst := some 0, op := Op.assign (Operand.tmp 67), type := 4, pos := "outright.go:19", after := #[{ on := 55, ground := Ground.data }, { on := 53, ground := Ground.chain }, { on := 0, ground := Ground.phase }, { on := 1, ground := Ground.phase }, { on := 2, ground := Ground.phase }, { on := 3, ground := Ground.phase }, { on := 4, ground := Ground.phase }, { on := 5, ground := Ground.phase }, { on := 6, ground := Ground.phase }, { on := 7, ground := Ground.phase }, { on := 8, ground := Ground.phase }, { on := 9, ground := Ground.phase }, { on := 10, ground := Ground.phase }, { on := 11, ground := Ground.phase }, { on := 12, ground := Ground.phase }, { on := 13, ground := Ground.phase }, { on := 14, ground := Ground.phase }, { on := 15, ground := Ground.phase }, { on := 16, ground := Ground.phase }, { on := 17, ground := Ground.phase }, { on := 18, ground := Ground.phase }, { on := 19, ground := Ground.phase }, { on := 20, ground := Ground.phase }, { on := 21, ground := Ground.phase }, { on := 22, ground := Ground.phase }, { on := 23, ground := Ground.phase }, { on := 24, ground := Ground.phase }, { on := 25, ground := Ground.phase }, { on := 26, ground := Ground.phase }, { on := 27, ground := Ground.phase }, { on := 28, ground := Ground.phase }, { on := 29, ground := Ground.phase }, { on := 30, ground := Ground.phase }, { on := 31, ground := Ground.phase }, { on := 32, ground := Ground.phase }, { on := 33, ground := Ground.phase }, { on := 34, ground := Ground.phase }, { on := 35, ground := Ground.phase }, { on := 36, ground := Ground.phase }, { on := 37, ground := Ground.phase }, { on := 38, ground := Ground.phase }, { on := 39, ground := Ground.phase }, { on := 40, ground := Ground.phase }, { on := 41, ground := Ground.phase }, { on := 42, ground := Ground.phase }, { on := 43, ground := Ground.phase }, { on := 44, ground := Ground.phase }, { on := 45, ground := Ground.phase }, { on := 46, ground := Ground.phase }, { on := 47, ground := Ground.phase }, { on := 48, ground := Ground.phase }, { on := 49, ground := Ground.phase }, { on := 50, ground := Ground.phase }, { on := 51, ground := Ground.phase }, { on := 52, ground := Ground.phase }, { on := 53, ground := Ground.phase }, { on := 54, ground := Ground.phase }, { on := 55, ground := Ground.phase }], guard := none }) (v := ?_) rfl (by kernel_rfl) (by kernel_rfl) (by kernel_rfl) (fun _ _ _ h => h) (Or.inl ⟨by rfl, ?_⟩) hS ?_; rotate_left; focus (intro w' hSw; obtain ⟨s0, s1, s2, s3, sb⟩ := hSw; go_simp <;> try with_reducible rfl))
      try simp only [Act.put, List.setIfInBounds_toArray, List.set_cons_zero, List.set_cons_succ]
      refine wpAnyH_done (by kernel_rfl) ?_ _
      obtain ⟨s0, s1, s2, s3, sb⟩ := hS
      go_wp2
      go_ret
      exact ⟨rfl, sb.bl⟩
  · refine take_if (by rfl) ?_
    obtain ⟨s0, s1, s2, s3, sb⟩ := hS
    go_simp
    refine hK.out _ _ ⟨(At.alloc s0 _), (At.alloc s1 _), (At.alloc s2 _), (At.alloc s3 _), (Bl.alloc sb _)⟩ (fun hS => ?_)
    clear hK K
    try simp only [Act.put, List.setIfInBounds_toArray, List.set_cons_zero, List.set_cons_succ]
    have r23 : Rd (g11.alloc (.cells #[.bool true, .int .i64 65535, .int .i64 5, .int .i64 1, .int .i64 52, .int .i64 0, .int .i64 0, .bool true, .int .u64 9, .bool true, .int .i64 65535, .int .i64 262143, .int .i64 0, .int .i64 52, .int .i64 0, .int .i64 0, .bool true, .int .u64 5, .bool true, .int .i64 65535, .int .i64 262143, .int .i64 1, .int .i64 52, .int .i64 0, .int .i64 0, .bool true, .int .u64 9] 25)) (g11.alloc (.cells #[.bool true, .int .i64 65535, .int .i64 5, .int .i64 1, .int .i64 52, .int .i64 0, .int .i64 0, .bool true, .int .u64 9, .bool true, .int .i64 65535, .int .i64 262143, .int .i64 0, .int .i64 52, .int .i64 0, .int .i64 0, .bool true, .int .u64 5, .bool true, .int .i64 65535, .int .i64 262143, .int .i64 1, .int .i64 52, .int .i64 0, .int .i64 0, .bool true, .int .u64 9] 25)).heap.size (some ⟨g11.heap.size, 0, none⟩) [kS, kR, kT] := rd_new [kS, kR, kT] g11
    generalize hgw : (g11.alloc (.cells #[.bool true, .int .i64 65535, .int .i64 5, .int .i64 1, .int .i64 52, .int .i64 0, .int .i64 0, .bool true, .int .u64 9, .bool true, .int .i64 65535, .int .i64 262143, .int .i64 0, .int .i64 52, .int .i64 0, .int .i64 0, .bool true, .int .u64 5, .bool true, .int .i64 65535, .int .i64 262143, .int .i64 1, .int .i64 52, .int .i64 0, .int .i64 0, .bool true, .int .u64 9] 25)) = g23 at hS r23 ⊢
    clear hgw
    refine wpAnyH_ready (rs := [18]) (by kernel_rfl) (by simp) ?_
    refine AllReadyH.cons (o := { dst := some 30, op := Op.buildSlice 22 2 #[(0, Operand.tmp 28), (1, Operand.tmp 29)], type := 22, pos := "outright.go:19", after := #[{ on := 16, ground := Ground.data }, { on := 17, ground := Ground.data }, { on := 15, ground := Ground.guard }], guard := some (15, true) }) rfl (fun K hK => ?_) AllReadyH.nil
    refine take_if (by rfl) ?_
    obtain ⟨s0, s1, s2, s3, sb⟩ := hS
    go_simp
    refine hK.out _ _ ⟨(At.alloc s0 _), (At.alloc s1 _), (At.alloc s2 _), (At.alloc s3 _), (Bl.alloc sb _)⟩ (fun hS => ?_)
    clear hK K
    try simp only [Act.put, List.setIfInBounds_toArray, List.set_cons_zero, List.set_cons_succ]
    have r18 : Rd (g23.alloc (.cells #[.bool true, .int .i64 65535, .int .i64 5, .int .i64 1, .int .i64 52, .int .i64 0, .int .i64 0, .bool true, .int .u64 9, .bool true, .int .i64 65535, .int .i64 262143, .int .i64 0, .int .i64 52, .int .i64 0, .int .i64 0, .bool true, .int .u64 5] 25)) (g23.alloc (.cells #[.bool true, .int .i64 65535, .int .i64 5, .int .i64 1, .int .i64 52, .int .i64 0, .int .i64 0, .bool true, .int .u64 9, .bool true, .int .i64 65535, .int .i64 262143, .int .i64 0, .int .i64 52, .int .i64 0, .int .i64 0, .bool true, .int .u64 5] 25)).heap.size (some ⟨g23.heap.size, 0, none⟩) [kS, kR] := rd_new [kS, kR] g23
    have r23 := r23.up (.cells #[.bool true, .int .i64 65535, .int .i64 5, .int .i64 1, .int .i64 52, .int .i64 0, .int .i64 0, .bool true, .int .u64 9, .bool true, .int .i64 65535, .int .i64 262143, .int .i64 0, .int .i64 52, .int .i64 0, .int .i64 0, .bool true, .int .u64 5] 25)
    generalize hgw : (g23.alloc (.cells #[.bool true, .int .i64 65535, .int .i64 5, .int .i64 1, .int .i64 52, .int .i64 0, .int .i64 0, .bool true, .int .u64 9, .bool true, .int .i64 65535, .int .i64 262143, .int .i64 0, .int .i64 52, .int .i64 0, .int .i64 0, .bool true, .int .u64 5] 25)) = g18 at hS r18 r23 ⊢
    clear hgw
    refine wpAnyH_ready (rs := [19]) (by kernel_rfl) (by simp) ?_
    refine AllReadyH.cons (o := { dst := some 31, op := Op.call { callee := Callee.value (Operand.func 13), args := #[Operand.tmp 30], argTypes := #[22] }, type := 22, pos := "outright.go:19", after := #[{ on := 18, ground := Ground.data }, { on := 15, ground := Ground.chain }, { on := 15, ground := Ground.guard }], guard := some (15, true) }) rfl (fun K hK => ?_) AllReadyH.nil
    refine take_if (by rfl) ?_
    obtain ⟨s0, s1, s2, s3, sb⟩ := hS
    go_simp
    (with_reducible refine (wk_close2 _ _ _ r18).mono ?_)
    rintro e' g19 ⟨A', cap, rfl, rA, hb⟩
    have t0 := sb.at_ hb s0 (show w1.heap.size < w4.heap.size + 1 by omega)
    have t1 := sb.at_ hb s1 (show w2.heap.size < w4.heap.size + 1 by omega)
    have t2 := sb.at_ hb s2 (show w3.heap.size < w4.heap.size + 1 by omega)
    have t3 := sb.at_ hb s3 (show w4.heap.size < w4.heap.size + 1 by omega)
    have r23 := r23.below hb (Nat.le_refl _)
    have r18 := r18.below hb (Nat.le_refl _)
    refine hK.out _ _ ⟨t0, t1, t2, t3, (sb.step hb)⟩ (fun hS => ?_)
    clear hK K hb s0 t0 s1 t1 s2 t2 s3 t3 sb
    try simp only [Act.put, List.setIfInBounds_toArray, List.set_cons_zero, List.set_cons_succ]
    clear r18
    refine wpAnyH_ready (rs := [24]) (by kernel_rfl) (by simp) ?_
    refine AllReadyH.cons (o := { dst := some 36, op := Op.call { callee := Callee.value (Operand.func 15), args := #[Operand.tmp 31, Operand.tmp 35], argTypes := #[22, 22] }, type := 4, pos := "outright.go:19", after := #[{ on := 19, ground := Ground.data }, { on := 23, ground := Ground.data }, { on := 19, ground := Ground.chain }, { on := 15, ground := Ground.guard }], guard := some (15, true) }) rfl (fun K hK => ?_) AllReadyH.nil
    refine take_if (by rfl) ?_
    obtain ⟨s0, s1, s2, s3, sb⟩ := hS
    go_simp
    (with_reducible refine (wk_same _ _ _ _ _ rA r23).mono ?_)
    rintro e' g24 ⟨rfl, hb⟩
    have t0 := sb.at_ hb s0 (show w1.heap.size < w4.heap.size + 1 by omega)
    have t1 := sb.at_ hb s1 (show w2.heap.size < w4.heap.size + 1 by omega)
    have t2 := sb.at_ hb s2 (show w3.heap.size < w4.heap.size + 1 by omega)
    have t3 := sb.at_ hb s3 (show w4.heap.size < w4.heap.size + 1 by omega)
    have r23 := r23.below hb (Nat.le_refl _)
    have rA := rA.below hb (Nat.le_refl _)
    refine hK.out _ _ ⟨t0, t1, t2, t3, (sb.step hb)⟩ (fun hS => ?_)
    clear hK K hb s0 t0 s1 t1 s2 t2 s3 t3 sb
    try simp only [Act.put, List.setIfInBounds_toArray, List.set_cons_zero, List.set_cons_succ]
    clear rA
    clear r23
    (refine wpAnyH_take (i := 25) (oi := { dst := some 37, op := Op.pick (Operand.tmp 27) (Operand.tmp 36) (Operand.const (Value.bool false)), type := 4, pos := "outright.go:19", after := #[{ on := 15, ground := Ground.data }, { on := 24, ground := Ground.data }], guard := none }) (v := ?_) rfl (by kernel_rfl) (by kernel_rfl) (by kernel_rfl) (fun _ _ _ h => h) (Or.inl ⟨by rfl, ?_⟩) hS ?_; rotate_left; focus (intro w' hSw; obtain ⟨s0, s1, s2, s3, sb⟩ := hSw; go_simp <;> try with_reducible rfl))
    try simp only [Act.put, List.setIfInBounds_toArray, List.set_cons_zero, List.set_cons_succ]
    (refine wpAnyH_take (i := 26) (oi := { dst := some 38, op := Op.move (Operand.tmp 37), type := 4, pos := "outright.go:19", after := #[{ on := 25, ground := Ground.data }, { on := 24, ground := Ground.chain }], guard := none }) (v := ?_) rfl (by kernel_rfl) (by kernel_rfl) (by kernel_rfl) (fun _ _ _ h => h) (Or.inl ⟨by rfl, ?_⟩) hS ?_; rotate_left; focus (intro w' hSw; obtain ⟨s0, s1, s2, s3, sb⟩ := hSw; go_simp <;> try with_reducible rfl))
    try simp only [Act.put, List.setIfInBounds_toArray, List.set_cons_zero, List.set_cons_succ]
    (refine wpAnyH_take (i := 27) (oi := { dst := some 39, op := Op.load 25 (Operand.tmp 3), type := 25, pos := "outright.go:19", after := #[{ on := 26, ground := Ground.guard }], guard := some (26, true) }) (v := ?_) rfl (by kernel_rfl) (by kernel_rfl) (by kernel_rfl) (fun _ _ _ h => h) (Or.inl ⟨by rfl, ?_⟩) hS ?_; rotate_left; focus (intro w' hSw; obtain ⟨s0, s1, s2, s3, sb⟩ := hSw; obtain ⟨_, _, _, _, _, _, _, _, _⟩ := s0.out9; obtain ⟨_, _, _, _, _, _, _, _, _⟩ := s1.out9; obtain ⟨_, _, _, _, _, _, _, _, _⟩ := s2.out9; obtain ⟨_, _, _, _, _, _, _, _, _⟩ := s3.out9; go_simp <;> try with_reducible rfl))
    try simp only [Act.put, List.setIfInBounds_toArray, List.set_cons_zero, List.set_cons_succ]
    (refine wpAnyH_take (i := 28) (oi := { dst := some 40, op := Op.load 25 (Operand.tmp 1), type := 25, pos := "outright.go:19", after := #[{ on := 26, ground := Ground.guard }], guard := some (26, true) }) (v := ?_) rfl (by kernel_rfl) (by kernel_rfl) (by kernel_rfl) (fun _ _ _ h => h) (Or.inl ⟨by rfl, ?_⟩) hS ?_; rotate_left; focus (intro w' hSw; obtain ⟨s0, s1, s2, s3, sb⟩ := hSw; obtain ⟨_, _, _, _, _, _, _, _, _⟩ := s0.out9; obtain ⟨_, _, _, _, _, _, _, _, _⟩ := s1.out9; obtain ⟨_, _, _, _, _, _, _, _, _⟩ := s2.out9; obtain ⟨_, _, _, _, _, _, _, _, _⟩ := s3.out9; go_simp <;> try with_reducible rfl))
    try simp only [Act.put, List.setIfInBounds_toArray, List.set_cons_zero, List.set_cons_succ]
    (refine wpAnyH_take (i := 30) (oi := { dst := some 42, op := Op.load 25 (Operand.tmp 2), type := 25, pos := "outright.go:19", after := #[{ on := 26, ground := Ground.guard }], guard := some (26, true) }) (v := ?_) rfl (by kernel_rfl) (by kernel_rfl) (by kernel_rfl) (fun _ _ _ h => h) (Or.inl ⟨by rfl, ?_⟩) hS ?_; rotate_left; focus (intro w' hSw; obtain ⟨s0, s1, s2, s3, sb⟩ := hSw; obtain ⟨_, _, _, _, _, _, _, _, _⟩ := s0.out9; obtain ⟨_, _, _, _, _, _, _, _, _⟩ := s1.out9; obtain ⟨_, _, _, _, _, _, _, _, _⟩ := s2.out9; obtain ⟨_, _, _, _, _, _, _, _, _⟩ := s3.out9; go_simp <;> try with_reducible rfl))
    try simp only [Act.put, List.setIfInBounds_toArray, List.set_cons_zero, List.set_cons_succ]
    refine wpAnyH_ready (rs := [29]) (by kernel_rfl) (by simp) ?_
    refine AllReadyH.cons (o := { dst := some 41, op := Op.buildSlice 22 2 #[(0, Operand.tmp 39), (1, Operand.tmp 40)], type := 22, pos := "outright.go:19", after := #[{ on := 27, ground := Ground.data }, { on := 28, ground := Ground.data }, { on := 26, ground := Ground.guard }], guard := some (26, true) }) rfl (fun K hK => ?_) AllReadyH.nil
    refine take_if (by rfl) ?_
    obtain ⟨s0, s1, s2, s3, sb⟩ := hS
    go_simp
    refine hK.out _ _ ⟨(At.alloc s0 _), (At.alloc s1 _), (At.alloc s2 _), (At.alloc s3 _), (Bl.alloc sb _)⟩ (fun hS => ?_)
    clear hK K
    try simp only [Act.put, List.setIfInBounds_toArray, List.set_cons_zero, List.set_cons_succ]
    have r29 : Rd (g24.alloc (.cells #[.bool true, .int .i64 65535, .int .i64 5, .int .i64 1, .int .i64 52, .int .i64 0, .int .i64 0, .bool true, .int .u64 9, .bool true, .int .i64 65535, .int .i64 262143, .int .i64 0, .int .i64 52, .int .i64 0, .int .i64 0, .bool true, .int .u64 5] 25)) (g24.alloc (.cells #[.bool true, .int .i64 65535, .int .i64 5, .int .i64 1, .int .i64 52, .int .i64 0, .int .i64 0, .bool true, .int .u64 9, .bool true, .int .i64 65535, .int .i64 262143, .int .i64 0, .int .i64 52, .int .i64 0, .int .i64 0, .bool true, .int .u64 5] 25)).heap.size (some ⟨g24.heap.size, 0, none⟩) [kS, kR] := rd_new [kS, kR] g24
    generalize hgw : (g24.alloc (.cells #[.bool true, .int .i64 65535, .int .i64 5, .int .i64 1, .int .i64 52, .int .i64 0, .int .i64 0, .bool true, .int .u64 9, .bool true, .int .i64 65535, .int .i64 262143, .int .i64 0, .int .i64 52, .int .i64 0, .int .i64 0, .bool true, .int .u64 5] 25)) = g29 at hS r29 ⊢
    clear hgw
    refine wpAnyH_ready (rs := [31]) (by kernel_rfl) (by simp) ?_
    refine AllReadyH.cons (o := { dst := some 43, op := Op.call { callee := Callee.value (Operand.func 18), args := #[Operand.tmp 41, Operand.tmp 42], argTypes := #[22, 25] }, type := 4, pos := "outright.go:19", after := #[{ on := 29, ground := Ground.data }, { on := 30, ground := Ground.data }, { on := 26, ground := Ground.chain }, { on := 26, ground := Ground.guard }], guard := some (26, true) }) rfl (fun K hK => ?_) AllReadyH.nil
    refine take_if (by rfl) ?_
    obtain ⟨s0, s1, s2, s3, sb⟩ := hS
    go_simp
    (with_reducible refine (wk_has1 _ _ _ r29).mono ?_)
    rintro e' g31 ⟨rfl, hb⟩
    have t0 := sb.at_ hb s0 (show w1.heap.size < w4.heap.size + 1 by omega)
    have t1 := sb.at_ hb s1 (show w2.heap.size < w4.heap.size + 1 by omega)
    have t2 := sb.at_ hb s2 (show w3.heap.size < w4.heap.size + 1 by omega)
    have t3 := sb.at_ hb s3 (show w4.heap.size < w4.heap.size + 1 by omega)
    have r29 := r29.below hb (Nat.le_refl _)
    refine hK.out _ _ ⟨t0, t1, t2, t3, (sb.step hb)⟩ (fun hS => ?_)
    clear hK K hb s0 t0 s1 t1 s2 t2 s3 t3 sb
    try simp only [Act.put, List.setIfInBounds_toArray, List.set_cons_zero, List.set_cons_succ]
    clear r29
    (refine wpAnyH_take (i := 32) (oi := { dst := some 44, op := Op.pick (Operand.tmp 38) (Operand.tmp 43) (Operand.const (Value.bool false)), type := 4, pos := "outright.go:19", after := #[{ on := 26, ground := Ground.data }, { on := 31, ground := Ground.data }], guard := none }) (v := ?_) rfl (by kernel_rfl) (by kernel_rfl) (by kernel_rfl) (fun _ _ _ h => h) (Or.inl ⟨by rfl, ?_⟩) hS ?_; rotate_left; focus (intro w' hSw; obtain ⟨s0, s1, s2, s3, sb⟩ := hSw; go_simp <;> try with_reducible rfl))
    try simp only [Act.put, List.setIfInBounds_toArray, List.set_cons_zero, List.set_cons_succ]
    (refine wpAnyH_take (i := 33) (oi := { dst := some 45, op := Op.move (Operand.tmp 44), type := 4, pos := "outright.go:19", after := #[{ on := 32, ground := Ground.data }, { on := 31, ground := Ground.chain }], guard := none }) (v := ?_) rfl (by kernel_rfl) (by kernel_rfl) (by kernel_rfl) (fun _ _ _ h => h) (Or.inl ⟨by rfl, ?_⟩) hS ?_; rotate_left; focus (intro w' hSw; obtain ⟨s0, s1, s2, s3, sb⟩ := hSw; go_simp <;> try with_reducible rfl))
    try simp only [Act.put, List.setIfInBounds_toArray, List.set_cons_zero, List.set_cons_succ]
    (refine wpAnyH_take (i := 34) (oi := { dst := some 46, op := Op.load 25 (Operand.tmp 3), type := 25, pos := "outright.go:19", after := #[{ on := 33, ground := Ground.guard }], guard := some (33, true) }) (v := ?_) rfl (by kernel_rfl) (by kernel_rfl) (by kernel_rfl) (fun _ _ _ h => h) (Or.inl ⟨by rfl, ?_⟩) hS ?_; rotate_left; focus (intro w' hSw; obtain ⟨s0, s1, s2, s3, sb⟩ := hSw; obtain ⟨_, _, _, _, _, _, _, _, _⟩ := s0.out9; obtain ⟨_, _, _, _, _, _, _, _, _⟩ := s1.out9; obtain ⟨_, _, _, _, _, _, _, _, _⟩ := s2.out9; obtain ⟨_, _, _, _, _, _, _, _, _⟩ := s3.out9; go_simp <;> try with_reducible rfl))
    try simp only [Act.put, List.setIfInBounds_toArray, List.set_cons_zero, List.set_cons_succ]
    (refine wpAnyH_take (i := 36) (oi := { dst := some 48, op := Op.load 25 (Operand.tmp 2), type := 25, pos := "outright.go:19", after := #[{ on := 33, ground := Ground.guard }], guard := some (33, true) }) (v := ?_) rfl (by kernel_rfl) (by kernel_rfl) (by kernel_rfl) (fun _ _ _ h => h) (Or.inl ⟨by rfl, ?_⟩) hS ?_; rotate_left; focus (intro w' hSw; obtain ⟨s0, s1, s2, s3, sb⟩ := hSw; obtain ⟨_, _, _, _, _, _, _, _, _⟩ := s0.out9; obtain ⟨_, _, _, _, _, _, _, _, _⟩ := s1.out9; obtain ⟨_, _, _, _, _, _, _, _, _⟩ := s2.out9; obtain ⟨_, _, _, _, _, _, _, _, _⟩ := s3.out9; go_simp <;> try with_reducible rfl))
    try simp only [Act.put, List.setIfInBounds_toArray, List.set_cons_zero, List.set_cons_succ]
    refine wpAnyH_ready (rs := [35]) (by kernel_rfl) (by simp) ?_
    refine AllReadyH.cons (o := { dst := some 47, op := Op.buildSlice 22 1 #[(0, Operand.tmp 46)], type := 22, pos := "outright.go:19", after := #[{ on := 34, ground := Ground.data }, { on := 33, ground := Ground.guard }], guard := some (33, true) }) rfl (fun K hK => ?_) AllReadyH.nil
    refine take_if (by rfl) ?_
    obtain ⟨s0, s1, s2, s3, sb⟩ := hS
    go_simp
    refine hK.out _ _ ⟨(At.alloc s0 _), (At.alloc s1 _), (At.alloc s2 _), (At.alloc s3 _), (Bl.alloc sb _)⟩ (fun hS => ?_)
    clear hK K
    try simp only [Act.put, List.setIfInBounds_toArray, List.set_cons_zero, List.set_cons_succ]
    have r35 : Rd (g31.alloc (.cells #[.bool true, .int .i64 65535, .int .i64 5, .int .i64 1, .int .i64 52, .int .i64 0, .int .i64 0, .bool true, .int .u64 9] 25)) (g31.alloc (.cells #[.bool true, .int .i64 65535, .int .i64 5, .int .i64 1, .int .i64 52, .int .i64 0, .int .i64 0, .bool true, .int .u64 9] 25)).heap.size (some ⟨g31.heap.size, 0, none⟩) [kS] := rd_new [kS] g31
    generalize hgw : (g31.alloc (.cells #[.bool true, .int .i64 65535, .int .i64 5, .int .i64 1, .int .i64 52, .int .i64 0, .int .i64 0, .bool true, .int .u64 9] 25)) = g35 at hS r35 ⊢
    clear hgw
    refine wpAnyH_ready (rs := [37]) (by kernel_rfl) (by simp) ?_
    refine AllReadyH.cons (o := { dst := some 49, op := Op.call { callee := Callee.value (Operand.func 18), args := #[Operand.tmp 47, Operand.tmp 48], argTypes := #[22, 25] }, type := 4, pos := "outright.go:19", after := #[{ on := 35, ground := Ground.data }, { on := 36, ground := Ground.data }, { on := 33, ground := Ground.chain }, { on := 33, ground := Ground.guard }], guard := some (33, true) }) rfl (fun K hK => ?_) AllReadyH.nil
    refine take_if (by rfl) ?_
    obtain ⟨s0, s1, s2, s3, sb⟩ := hS
    go_simp
    (with_reducible refine (wk_has2 _ _ _ r35).mono ?_)
    rintro e' g37 ⟨rfl, hb⟩
    have t0 := sb.at_ hb s0 (show w1.heap.size < w4.heap.size + 1 by omega)
    have t1 := sb.at_ hb s1 (show w2.heap.size < w4.heap.size + 1 by omega)
    have t2 := sb.at_ hb s2 (show w3.heap.size < w4.heap.size + 1 by omega)
    have t3 := sb.at_ hb s3 (show w4.heap.size < w4.heap.size + 1 by omega)
    have r35 := r35.below hb (Nat.le_refl _)
    refine hK.out _ _ ⟨t0, t1, t2, t3, (sb.step hb)⟩ (fun hS => ?_)
    clear hK K hb s0 t0 s1 t1 s2 t2 s3 t3 sb
    try simp only [Act.put, List.setIfInBounds_toArray, List.set_cons_zero, List.set_cons_succ]
    clear r35
    (refine wpAnyH_take (i := 38) (oi := { dst := some 50, op := Op.unOp UnOp.not 4 (Operand.tmp 49), type := 4, pos := "outright.go:19", after := #[{ on := 37, ground := Ground.data }, { on := 33, ground := Ground.guard }], guard := some (33, true) }) (v := ?_) rfl (by kernel_rfl) (by kernel_rfl) (by kernel_rfl) (fun _ _ _ h => h) (Or.inl ⟨by rfl, ?_⟩) hS ?_; rotate_left; focus (intro w' hSw; obtain ⟨s0, s1, s2, s3, sb⟩ := hSw; go_simp <;> try with_reducible rfl))
    try simp only [Act.put, List.setIfInBounds_toArray, List.set_cons_zero, List.set_cons_succ]
    (refine wpAnyH_take (i := 39) (oi := { dst := some 51, op := Op.pick (Operand.tmp 45) (Operand.tmp 50) (Operand.const (Value.bool false)), type := 4, pos := "outright.go:19", after := #[{ on := 33, ground := Ground.data }, { on := 38, ground := Ground.data }], guard := none }) (v := ?_) rfl (by kernel_rfl) (by kernel_rfl) (by kernel_rfl) (fun _ _ _ h => h) (Or.inl ⟨by rfl, ?_⟩) hS ?_; rotate_left; focus (intro w' hSw; obtain ⟨s0, s1, s2, s3, sb⟩ := hSw; go_simp <;> try with_reducible rfl))
    try simp only [Act.put, List.setIfInBounds_toArray, List.set_cons_zero, List.set_cons_succ]
    (refine wpAnyH_take (i := 40) (oi := { dst := some 52, op := Op.move (Operand.tmp 51), type := 4, pos := "outright.go:19", after := #[{ on := 39, ground := Ground.data }, { on := 37, ground := Ground.chain }], guard := none }) (v := ?_) rfl (by kernel_rfl) (by kernel_rfl) (by kernel_rfl) (fun _ _ _ h => h) (Or.inl ⟨by rfl, ?_⟩) hS ?_; rotate_left; focus (intro w' hSw; obtain ⟨s0, s1, s2, s3, sb⟩ := hSw; go_simp <;> try with_reducible rfl))
    try simp only [Act.put, List.setIfInBounds_toArray, List.set_cons_zero, List.set_cons_succ]
    (refine wpAnyH_take (i := 41) (oi := { dst := some 53, op := Op.load 25 (Operand.tmp 1), type := 25, pos := "outright.go:19", after := #[{ on := 40, ground := Ground.guard }], guard := some (40, true) }) (v := ?_) rfl (by kernel_rfl) (by kernel_rfl) (by kernel_rfl) (fun _ _ _ h => h) (Or.inl ⟨by rfl, ?_⟩) hS ?_; rotate_left; focus (intro w' hSw; obtain ⟨s0, s1, s2, s3, sb⟩ := hSw; obtain ⟨_, _, _, _, _, _, _, _, _⟩ := s0.out9; obtain ⟨_, _, _, _, _, _, _, _, _⟩ := s1.out9; obtain ⟨_, _, _, _, _, _, _, _, _⟩ := s2.out9; obtain ⟨_, _, _, _, _, _, _, _, _⟩ := s3.out9; go_simp <;> try with_reducible rfl))
    try simp only [Act.put, List.setIfInBounds_toArray, List.set_cons_zero, List.set_cons_succ]
    refine wpAnyH_ready (rs := [42]) (by kernel_rfl) (by simp) ?_
    refine AllReadyH.cons (o := { dst := some 54, op := Op.call { callee := Callee.value (Operand.func 18), args := #[Operand.const (Value.slice none 0 0), Operand.tmp 53], argTypes := #[22, 25] }, type := 4, pos := "outright.go:19", after := #[{ on := 41, ground := Ground.data }, { on := 40, ground := Ground.chain }, { on := 40, ground := Ground.guard }], guard := some (40, true) }) rfl (fun K hK => ?_) AllReadyH.nil
    refine take_if (by rfl) ?_
    obtain ⟨s0, s1, s2, s3, sb⟩ := hS
    go_simp
    (with_reducible refine (wk_has3 _).mono ?_)
    rintro e' g42 ⟨rfl, hb⟩
    have t0 := sb.at_ hb s0 (show w1.heap.size < w4.heap.size + 1 by omega)
    have t1 := sb.at_ hb s1 (show w2.heap.size < w4.heap.size + 1 by omega)
    have t2 := sb.at_ hb s2 (show w3.heap.size < w4.heap.size + 1 by omega)
    have t3 := sb.at_ hb s3 (show w4.heap.size < w4.heap.size + 1 by omega)
    refine hK.out _ _ ⟨t0, t1, t2, t3, (sb.step hb)⟩ (fun hS => ?_)
    clear hK K hb s0 t0 s1 t1 s2 t2 s3 t3 sb
    try simp only [Act.put, List.setIfInBounds_toArray, List.set_cons_zero, List.set_cons_succ]
    (refine wpAnyH_take (i := 43) (oi := { dst := some 55, op := Op.unOp UnOp.not 4 (Operand.tmp 54), type := 4, pos := "outright.go:19", after := #[{ on := 42, ground := Ground.data }, { on := 40, ground := Ground.guard }], guard := some (40, true) }) (v := ?_) rfl (by kernel_rfl) (by kernel_rfl) (by kernel_rfl) (fun _ _ _ h => h) (Or.inl ⟨by rfl, ?_⟩) hS ?_; rotate_left; focus (intro w' hSw; obtain ⟨s0, s1, s2, s3, sb⟩ := hSw; go_simp <;> try with_reducible rfl))
    try simp only [Act.put, List.setIfInBounds_toArray, List.set_cons_zero, List.set_cons_succ]
    (refine wpAnyH_take (i := 44) (oi := { dst := some 56, op := Op.pick (Operand.tmp 52) (Operand.tmp 55) (Operand.const (Value.bool false)), type := 4, pos := "outright.go:19", after := #[{ on := 40, ground := Ground.data }, { on := 43, ground := Ground.data }], guard := none }) (v := ?_) rfl (by kernel_rfl) (by kernel_rfl) (by kernel_rfl) (fun _ _ _ h => h) (Or.inl ⟨by rfl, ?_⟩) hS ?_; rotate_left; focus (intro w' hSw; obtain ⟨s0, s1, s2, s3, sb⟩ := hSw; go_simp <;> try with_reducible rfl))
    try simp only [Act.put, List.setIfInBounds_toArray, List.set_cons_zero, List.set_cons_succ]
    (refine wpAnyH_take (i := 45) (oi := { dst := some 57, op := Op.move (Operand.tmp 56), type := 4, pos := "outright.go:19", after := #[{ on := 44, ground := Ground.data }, { on := 42, ground := Ground.chain }], guard := none }) (v := ?_) rfl (by kernel_rfl) (by kernel_rfl) (by kernel_rfl) (fun _ _ _ h => h) (Or.inl ⟨by rfl, ?_⟩) hS ?_; rotate_left; focus (intro w' hSw; obtain ⟨s0, s1, s2, s3, sb⟩ := hSw; go_simp <;> try with_reducible rfl))
    try simp only [Act.put, List.setIfInBounds_toArray, List.set_cons_zero, List.set_cons_succ]
    (refine wpAnyH_take (i := 46) (oi := { dst := some 58, op := Op.load 25 (Operand.tmp 4), type := 25, pos := "outright.go:19", after := #[{ on := 45, ground := Ground.guard }], guard := some (45, true) }) (v := ?_) rfl (by kernel_rfl) (by kernel_rfl) (by kernel_rfl) (fun _ _ _ h => h) (Or.inl ⟨by rfl, ?_⟩) hS ?_; rotate_left; focus (intro w' hSw; obtain ⟨s0, s1, s2, s3, sb⟩ := hSw; obtain ⟨_, _, _, _, _, _, _, _, _⟩ := s0.out9; obtain ⟨_, _, _, _, _, _, _, _, _⟩ := s1.out9; obtain ⟨_, _, _, _, _, _, _, _, _⟩ := s2.out9; obtain ⟨_, _, _, _, _, _, _, _, _⟩ := s3.out9; go_simp <;> try with_reducible rfl))
    try simp only [Act.put, List.setIfInBounds_toArray, List.set_cons_zero, List.set_cons_succ]
    (refine wpAnyH_take (i := 47) (oi := { dst := some 59, op := Op.load 25 (Operand.tmp 1), type := 25, pos := "outright.go:19", after := #[{ on := 45, ground := Ground.guard }], guard := some (45, true) }) (v := ?_) rfl (by kernel_rfl) (by kernel_rfl) (by kernel_rfl) (fun _ _ _ h => h) (Or.inl ⟨by rfl, ?_⟩) hS ?_; rotate_left; focus (intro w' hSw; obtain ⟨s0, s1, s2, s3, sb⟩ := hSw; obtain ⟨_, _, _, _, _, _, _, _, _⟩ := s0.out9; obtain ⟨_, _, _, _, _, _, _, _, _⟩ := s1.out9; obtain ⟨_, _, _, _, _, _, _, _, _⟩ := s2.out9; obtain ⟨_, _, _, _, _, _, _, _, _⟩ := s3.out9; go_simp <;> try with_reducible rfl))
    try simp only [Act.put, List.setIfInBounds_toArray, List.set_cons_zero, List.set_cons_succ]
    refine wpAnyH_ready (rs := [48]) (by kernel_rfl) (by simp) ?_
    refine AllReadyH.cons (o := { dst := some 60, op := Op.call { callee := Callee.value (Operand.func 16), args := #[Operand.tmp 58, Operand.tmp 59], argTypes := #[25, 25] }, type := 4, pos := "outright.go:19", after := #[{ on := 46, ground := Ground.data }, { on := 47, ground := Ground.data }, { on := 45, ground := Ground.chain }, { on := 45, ground := Ground.guard }], guard := some (45, true) }) rfl (fun K hK => ?_) AllReadyH.nil
    refine take_if (by rfl) ?_
    obtain ⟨s0, s1, s2, s3, sb⟩ := hS
    go_simp
    (with_reducible refine (wk_less1 _).mono ?_)
    rintro e' g48 ⟨rfl, hb⟩
    have t0 := sb.at_ hb s0 (show w1.heap.size < w4.heap.size + 1 by omega)
    have t1 := sb.at_ hb s1 (show w2.heap.size < w4.heap.size + 1 by omega)
    have t2 := sb.at_ hb s2 (show w3.heap.size < w4.heap.size + 1 by omega)
    have t3 := sb.at_ hb s3 (show w4.heap.size < w4.heap.size + 1 by omega)
    refine hK.out _ _ ⟨t0, t1, t2, t3, (sb.step hb)⟩ (fun hS => ?_)
    clear hK K hb s0 t0 s1 t1 s2 t2 s3 t3 sb
    try simp only [Act.put, List.setIfInBounds_toArray, List.set_cons_zero, List.set_cons_succ]
    (refine wpAnyH_take (i := 49) (oi := { dst := some 61, op := Op.pick (Operand.tmp 57) (Operand.tmp 60) (Operand.const (Value.bool false)), type := 4, pos := "outright.go:19", after := #[{ on := 45, ground := Ground.data }, { on := 48, ground := Ground.data }], guard := none }) (v := ?_) rfl (by kernel_rfl) (by kernel_rfl) (by kernel_rfl) (fun _ _ _ h => h) (Or.inl ⟨by rfl, ?_⟩) hS ?_; rotate_left; focus (intro w' hSw; obtain ⟨s0, s1, s2, s3, sb⟩ := hSw; go_simp <;> try with_reducible rfl))
    try simp only [Act.put, List.setIfInBounds_toArray, List.set_cons_zero, List.set_cons_succ]
    (refine wpAnyH_take (i := 50) (oi := { dst := some 62, op := Op.move (Operand.tmp 61), type := 4, pos := "outright.go:19", after := #[{ on := 49, ground := Ground.data }, { on := 48, ground := Ground.chain }], guard := none }) (v := ?_) rfl (by kernel_rfl) (by kernel_rfl) (by kernel_rfl) (fun _ _ _ h => h) (Or.inl ⟨by rfl, ?_⟩) hS ?_; rotate_left; focus (intro w' hSw; obtain ⟨s0, s1, s2, s3, sb⟩ := hSw; go_simp <;> try with_reducible rfl))
    try simp only [Act.put, List.setIfInBounds_toArray, List.set_cons_zero, List.set_cons_succ]
    (refine wpAnyH_take (i := 51) (oi := { dst := some 63, op := Op.load 25 (Operand.tmp 1), type := 25, pos := "outright.go:19", after := #[{ on := 50, ground := Ground.guard }], guard := some (50, true) }) (v := ?_) rfl (by kernel_rfl) (by kernel_rfl) (by kernel_rfl) (fun _ _ _ h => h) (Or.inl ⟨by rfl, ?_⟩) hS ?_; rotate_left; focus (intro w' hSw; obtain ⟨s0, s1, s2, s3, sb⟩ := hSw; obtain ⟨_, _, _, _, _, _, _, _, _⟩ := s0.out9; obtain ⟨_, _, _, _, _, _, _, _, _⟩ := s1.out9; obtain ⟨_, _, _, _, _, _, _, _, _⟩ := s2.out9; obtain ⟨_, _, _, _, _, _, _, _, _⟩ := s3.out9; go_simp <;> try with_reducible rfl))
    try simp only [Act.put, List.setIfInBounds_toArray, List.set_cons_zero, List.set_cons_succ]
    (refine wpAnyH_take (i := 52) (oi := { dst := some 64, op := Op.load 25 (Operand.tmp 4), type := 25, pos := "outright.go:19", after := #[{ on := 50, ground := Ground.guard }], guard := some (50, true) }) (v := ?_) rfl (by kernel_rfl) (by kernel_rfl) (by kernel_rfl) (fun _ _ _ h => h) (Or.inl ⟨by rfl, ?_⟩) hS ?_; rotate_left; focus (intro w' hSw; obtain ⟨s0, s1, s2, s3, sb⟩ := hSw; obtain ⟨_, _, _, _, _, _, _, _, _⟩ := s0.out9; obtain ⟨_, _, _, _, _, _, _, _, _⟩ := s1.out9; obtain ⟨_, _, _, _, _, _, _, _, _⟩ := s2.out9; obtain ⟨_, _, _, _, _, _, _, _, _⟩ := s3.out9; go_simp <;> try with_reducible rfl))
    try simp only [Act.put, List.setIfInBounds_toArray, List.set_cons_zero, List.set_cons_succ]
    refine wpAnyH_ready (rs := [53]) (by kernel_rfl) (by simp) ?_
    refine AllReadyH.cons (o := { dst := some 65, op := Op.call { callee := Callee.value (Operand.func 16), args := #[Operand.tmp 63, Operand.tmp 64], argTypes := #[25, 25] }, type := 4, pos := "outright.go:19", after := #[{ on := 51, ground := Ground.data }, { on := 52, ground := Ground.data }, { on := 50, ground := Ground.chain }, { on := 50, ground := Ground.guard }], guard := some (50, true) }) rfl (fun K hK => ?_) AllReadyH.nil
    refine take_if (by rfl) ?_
    obtain ⟨s0, s1, s2, s3, sb⟩ := hS
    go_simp
    (with_reducible refine (wk_less2 _).mono ?_)
    rintro e' g53 ⟨rfl, hb⟩
    have t0 := sb.at_ hb s0 (show w1.heap.size < w4.heap.size + 1 by omega)
    have t1 := sb.at_ hb s1 (show w2.heap.size < w4.heap.size + 1 by omega)
    have t2 := sb.at_ hb s2 (show w3.heap.size < w4.heap.size + 1 by omega)
    have t3 := sb.at_ hb s3 (show w4.heap.size < w4.heap.size + 1 by omega)
    refine hK.out _ _ ⟨t0, t1, t2, t3, (sb.step hb)⟩ (fun hS => ?_)
    clear hK K hb s0 t0 s1 t1 s2 t2 s3 t3 sb
    try simp only [Act.put, List.setIfInBounds_toArray, List.set_cons_zero, List.set_cons_succ]
    (refine wpAnyH_take (i := 54) (oi := { dst := some 66, op := Op.unOp UnOp.not 4 (Operand.tmp 65), type := 4, pos := "outright.go:19", after := #[{ on := 53, ground := Ground.data }, { on := 50, ground := Ground.guard }], guard := some (50, true) }) (v := ?_) rfl (by kernel_rfl) (by kernel_rfl) (by kernel_rfl) (fun _ _ _ h => h) (Or.inl ⟨by rfl, ?_⟩) hS ?_; rotate_left; focus (intro w' hSw; obtain ⟨s0, s1, s2, s3, sb⟩ := hSw; go_simp <;> try with_reducible rfl))
    try simp only [Act.put, List.setIfInBounds_toArray, List.set_cons_zero, List.set_cons_succ]
    (refine wpAnyH_take (i := 55) (oi := { dst := some 67, op := Op.pick (Operand.tmp 62) (Operand.tmp 66) (Operand.const (Value.bool false)), type := 4, pos := "outright.go:19", after := #[{ on := 50, ground := Ground.data }, { on := 54, ground := Ground.data }], guard := none }) (v := ?_) rfl (by kernel_rfl) (by kernel_rfl) (by kernel_rfl) (fun _ _ _ h => h) (Or.inl ⟨by rfl, ?_⟩) hS ?_; rotate_left; focus (intro w' hSw; obtain ⟨s0, s1, s2, s3, sb⟩ := hSw; go_simp <;> try with_reducible rfl))
    try simp only [Act.put, List.setIfInBounds_toArray, List.set_cons_zero, List.set_cons_succ]
    (refine wpAnyH_take (i := 56) (oi := { dst := some 0, op := Op.assign (Operand.tmp 67), type := 4, pos := "outright.go:19", after := #[{ on := 55, ground := Ground.data }, { on := 53, ground := Ground.chain }, { on := 0, ground := Ground.phase }, { on := 1, ground := Ground.phase }, { on := 2, ground := Ground.phase }, { on := 3, ground := Ground.phase }, { on := 4, ground := Ground.phase }, { on := 5, ground := Ground.phase }, { on := 6, ground := Ground.phase }, { on := 7, ground := Ground.phase }, { on := 8, ground := Ground.phase }, { on := 9, ground := Ground.phase }, { on := 10, ground := Ground.phase }, { on := 11, ground := Ground.phase }, { on := 12, ground := Ground.phase }, { on := 13, ground := Ground.phase }, { on := 14, ground := Ground.phase }, { on := 15, ground := Ground.phase }, { on := 16, ground := Ground.phase }, { on := 17, ground := Ground.phase }, { on := 18, ground := Ground.phase }, { on := 19, ground := Ground.phase }, { on := 20, ground := Ground.phase }, { on := 21, ground := Ground.phase }, { on := 22, ground := Ground.phase }, { on := 23, ground := Ground.phase }, { on := 24, ground := Ground.phase }, { on := 25, ground := Ground.phase }, { on := 26, ground := Ground.phase }, { on := 27, ground := Ground.phase }, { on := 28, ground := Ground.phase }, { on := 29, ground := Ground.phase }, { on := 30, ground := Ground.phase }, { on := 31, ground := Ground.phase }, { on := 32, ground := Ground.phase }, { on := 33, ground := Ground.phase }, { on := 34, ground := Ground.phase }, { on := 35, ground := Ground.phase }, { on := 36, ground := Ground.phase }, { on := 37, ground := Ground.phase }, { on := 38, ground := Ground.phase }, { on := 39, ground := Ground.phase }, { on := 40, ground := Ground.phase }, { on := 41, ground := Ground.phase }, { on := 42, ground := Ground.phase }, { on := 43, ground := Ground.phase }, { on := 44, ground := Ground.phase }, { on := 45, ground := Ground.phase }, { on := 46, ground := Ground.phase }, { on := 47, ground := Ground.phase }, { on := 48, ground := Ground.phase }, { on := 49, ground := Ground.phase }, { on := 50, ground := Ground.phase }, { on := 51, ground := Ground.phase }, { on := 52, ground := Ground.phase }, { on := 53, ground := Ground.phase }, { on := 54, ground := Ground.phase }, { on := 55, ground := Ground.phase }], guard := none }) (v := ?_) rfl (by kernel_rfl) (by kernel_rfl) (by kernel_rfl) (fun _ _ _ h => h) (Or.inl ⟨by rfl, ?_⟩) hS ?_; rotate_left; focus (intro w' hSw; obtain ⟨s0, s1, s2, s3, sb⟩ := hSw; go_simp <;> try with_reducible rfl))
    try simp only [Act.put, List.setIfInBounds_toArray, List.set_cons_zero, List.set_cons_succ]
    refine wpAnyH_done (by kernel_rfl) ?_ _
    obtain ⟨s0, s1, s2, s3, sb⟩ := hS
    go_wp2
    go_ret
    exact ⟨rfl, sb.bl⟩
end Go.Proofs.Ytmehbildddlgaaa
