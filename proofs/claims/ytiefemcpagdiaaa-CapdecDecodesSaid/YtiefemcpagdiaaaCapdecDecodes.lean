/-
  Any word is the instruction that the document reads, or none, as CapdecDecodes asks. No condition.
-/
import Derived.Test.YtiefemcpagdiaaaDLaw
namespace Go.Proofs.Ytiefemcpagdiaaa.capdecDecodes
open Go.ChangeShapes Go.WideShapes Go.ChangeAt Go.RowKit
set_option linter.unusedVariables false
set_option linter.unusedSimpArgs false

theorem own : ownKnob Try.prog.godebug = none := by kernel_rfl
theorem u32_bd {a : Int} (h : (Lit.int .u32 a).wf = true) : 0 ≤ a ∧ a < 4294967296 := by
  have hm0 : IntKind.u32.min = 0 := rfl
  have hm1 : IntKind.u32.max = 4294967295 := rfl
  simp only [Lit.wf, Bool.and_eq_true, decide_eq_true_eq, hm0, hm1] at h
  omega
set_option maxHeartbeats 4000000 in
theorem walk (a0 : Int) (w0 : (Lit.int .u32 a0).wf = true) (w : World) :
    Calls Try.prog 3 #[.int .u32 a0] w fun e w' => e = .returned (.bool true) ∧ Grown w w' := by
  obtain ⟨h0, h1⟩ := u32_bd w0
  obtain ⟨o, ho⟩ : ∃ o, dspec a0 = o := ⟨_, rfl⟩
  have HO := Lib.hid ho
  clear ho
  rcases o with _ | ⟨op, fn, rd, r1, r2, imm, wid, wo, us⟩
  · have q1 := dins_eql 0 0 0 0 0 0 0 false false 0 0
    go_enter Try.func3, Try.ntmps3
    go_wp2_with (first | (go_at_call 7; (with_reducible refine (ddec_at (a0) h0 h1 _ HO.out _).mono ?_); rintro e' w1 ⟨rfl, qk⟩; have HKw1 := Lib.hid qk; dsimp only [ddV, Ins.v, zIns]; have szw1 := qk.size; (try simp at szw1); clear qk) | (go_at_call 8; (with_reducible refine (rdec9_at a0 h0 h1 _ HO.out _).mono ?_); rintro e' w2 ⟨rfl, qk⟩; have HKw2 := Lib.hid qk; have qw20 : w2.cell? ⟨w1.heap.size, 0, none⟩ = some (.int .i64 0) := (qk.cell (p := ⟨w1.heap.size, 0, none⟩) (by first | (simp; done) | (simp; omega) | omega)).trans (by simp [go_sem, *]); have qw21 : w2.cell? ⟨w1.heap.size, 1, none⟩ = some (.int .i64 0) := (qk.cell (p := ⟨w1.heap.size, 1, none⟩) (by first | (simp; done) | (simp; omega) | omega)).trans (by simp [go_sem, *]); have qw22 : w2.cell? ⟨w1.heap.size, 2, none⟩ = some (.int .i64 0) := (qk.cell (p := ⟨w1.heap.size, 2, none⟩) (by first | (simp; done) | (simp; omega) | omega)).trans (by simp [go_sem, *]); have qw23 : w2.cell? ⟨w1.heap.size, 3, none⟩ = some (.int .i64 0) := (qk.cell (p := ⟨w1.heap.size, 3, none⟩) (by first | (simp; done) | (simp; omega) | omega)).trans (by simp [go_sem, *]); have qw24 : w2.cell? ⟨w1.heap.size, 4, none⟩ = some (.int .i64 0) := (qk.cell (p := ⟨w1.heap.size, 4, none⟩) (by first | (simp; done) | (simp; omega) | omega)).trans (by simp [go_sem, *]); have qw25 : w2.cell? ⟨w1.heap.size, 5, none⟩ = some (.int .i64 0) := (qk.cell (p := ⟨w1.heap.size, 5, none⟩) (by first | (simp; done) | (simp; omega) | omega)).trans (by simp [go_sem, *]); have qw26 : w2.cell? ⟨w1.heap.size, 6, none⟩ = some (.int .i64 0) := (qk.cell (p := ⟨w1.heap.size, 6, none⟩) (by first | (simp; done) | (simp; omega) | omega)).trans (by simp [go_sem, *]); have qw27 : w2.cell? ⟨w1.heap.size, 7, none⟩ = some (.bool false) := (qk.cell (p := ⟨w1.heap.size, 7, none⟩) (by first | (simp; done) | (simp; omega) | omega)).trans (by simp [go_sem, *]); have qw28 : w2.cell? ⟨w1.heap.size, 8, none⟩ = some (.bool false) := (qk.cell (p := ⟨w1.heap.size, 8, none⟩) (by first | (simp; done) | (simp; omega) | omega)).trans (by simp [go_sem, *]); have qw29 : w2.cell? ⟨w1.heap.size, 9, none⟩ = some (.int .i64 0) := (qk.cell (p := ⟨w1.heap.size, 9, none⟩) (by first | (simp; done) | (simp; omega) | omega)).trans (by simp [go_sem, *]); have qw210 : w2.cell? ⟨w1.heap.size, 10, none⟩ = some (.int .u32 0) := (qk.cell (p := ⟨w1.heap.size, 10, none⟩) (by first | (simp; done) | (simp; omega) | omega)).trans (by simp [go_sem, *]); dsimp only [ddV, Ins.v, zIns]; have szw2 := qk.size; (try simp at szw2); have qa0 : w1.heap.size < w2.heap.size := (by omega); have qa1 : ¬ w1.heap.size = w2.heap.size := (by omega); have qa2 : ¬ w2.heap.size = w1.heap.size := (by omega); clear qk) | (go_at_call 9; (with_reducible refine (known9_w _).mono ?_); rintro e' w3 ⟨rfl, qk⟩; have HKw3 := Lib.hid qk; clear qk))
    go_ret
    exact ⟨rfl, by
      have k1 := HKw1.out
      have k2 := (k1.allocs _ _).trans HKw2.out
      have k3 := (k2.allocs _ _).trans HKw3.out
      exact k3.grown⟩
  · have q1 := dins_eql op fn rd r1 r2 imm wid wo us 4 a0
    go_enter Try.func3, Try.ntmps3
    go_wp2_with (first | (go_at_call 7; (with_reducible refine (ddec_at (a0) h0 h1 _ HO.out _).mono ?_); rintro e' w1 ⟨rfl, qk⟩; have HKw1 := Lib.hid qk; dsimp only [ddV, Ins.v, zIns]; have szw1 := qk.size; (try simp at szw1); clear qk) | (go_at_call 8; (with_reducible refine (rdec9_at a0 h0 h1 _ HO.out _).mono ?_); rintro e' w2 ⟨rfl, qk⟩; have HKw2 := Lib.hid qk; have qw20 : w2.cell? ⟨w1.heap.size, 0, none⟩ = some (.int .i64 op) := (qk.cell (p := ⟨w1.heap.size, 0, none⟩) (by first | (simp; done) | (simp; omega) | omega)).trans (by simp [go_sem, *]); have qw21 : w2.cell? ⟨w1.heap.size, 1, none⟩ = some (.int .i64 fn) := (qk.cell (p := ⟨w1.heap.size, 1, none⟩) (by first | (simp; done) | (simp; omega) | omega)).trans (by simp [go_sem, *]); have qw22 : w2.cell? ⟨w1.heap.size, 2, none⟩ = some (.int .i64 rd) := (qk.cell (p := ⟨w1.heap.size, 2, none⟩) (by first | (simp; done) | (simp; omega) | omega)).trans (by simp [go_sem, *]); have qw23 : w2.cell? ⟨w1.heap.size, 3, none⟩ = some (.int .i64 r1) := (qk.cell (p := ⟨w1.heap.size, 3, none⟩) (by first | (simp; done) | (simp; omega) | omega)).trans (by simp [go_sem, *]); have qw24 : w2.cell? ⟨w1.heap.size, 4, none⟩ = some (.int .i64 r2) := (qk.cell (p := ⟨w1.heap.size, 4, none⟩) (by first | (simp; done) | (simp; omega) | omega)).trans (by simp [go_sem, *]); have qw25 : w2.cell? ⟨w1.heap.size, 5, none⟩ = some (.int .i64 imm) := (qk.cell (p := ⟨w1.heap.size, 5, none⟩) (by first | (simp; done) | (simp; omega) | omega)).trans (by simp [go_sem, *]); have qw26 : w2.cell? ⟨w1.heap.size, 6, none⟩ = some (.int .i64 wid) := (qk.cell (p := ⟨w1.heap.size, 6, none⟩) (by first | (simp; done) | (simp; omega) | omega)).trans (by simp [go_sem, *]); have qw27 : w2.cell? ⟨w1.heap.size, 7, none⟩ = some (.bool wo) := (qk.cell (p := ⟨w1.heap.size, 7, none⟩) (by first | (simp; done) | (simp; omega) | omega)).trans (by simp [go_sem, *]); have qw28 : w2.cell? ⟨w1.heap.size, 8, none⟩ = some (.bool us) := (qk.cell (p := ⟨w1.heap.size, 8, none⟩) (by first | (simp; done) | (simp; omega) | omega)).trans (by simp [go_sem, *]); have qw29 : w2.cell? ⟨w1.heap.size, 9, none⟩ = some (.int .i64 4) := (qk.cell (p := ⟨w1.heap.size, 9, none⟩) (by first | (simp; done) | (simp; omega) | omega)).trans (by simp [go_sem, *]); have qw210 : w2.cell? ⟨w1.heap.size, 10, none⟩ = some (.int .u32 a0) := (qk.cell (p := ⟨w1.heap.size, 10, none⟩) (by first | (simp; done) | (simp; omega) | omega)).trans (by simp [go_sem, *]); dsimp only [ddV, Ins.v, zIns]; have szw2 := qk.size; (try simp at szw2); have qa0 : w1.heap.size < w2.heap.size := (by omega); have qa1 : ¬ w1.heap.size = w2.heap.size := (by omega); have qa2 : ¬ w2.heap.size = w1.heap.size := (by omega); clear qk) | (go_at_call 9; (with_reducible refine (known9_w _).mono ?_); rintro e' w3 ⟨rfl, qk⟩; have HKw3 := Lib.hid qk; clear qk))
    go_ret
    exact ⟨rfl, by
      have k1 := HKw1.out
      have k2 := (k1.allocs _ _).trans HKw2.out
      have k3 := (k2.allocs _ _).trans HKw3.out
      exact k3.grown⟩
end Go.Proofs.Ytiefemcpagdiaaa.capdecDecodes
