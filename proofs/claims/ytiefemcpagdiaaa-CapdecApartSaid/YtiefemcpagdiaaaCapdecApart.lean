/-
  No word is an instruction of capabilities and one of integers; what is one has registers from 0 to 31 and a class of capabilities, or is a load or store of one, as CapdecApart asks. No condition.
-/
import Derived.Test.YtiefemcpagdiaaaDLaw
import Derived.Test.YtiefemcpagdiaaaDFine
import Derived.Test.YtiefemcpagdiaaaIDec
namespace Go.Proofs.Ytiefemcpagdiaaa.capdecApart
open Go.ChangeShapes Go.WideShapes Go.ChangeAt Go.RowKit
set_option linter.unusedVariables false
set_option linter.unusedSimpArgs false

theorem own : ownKnob Try.prog.godebug = none := by kernel_rfl
theorem u32_bd {a : Int} (h : (Lit.int .u32 a).wf = true) : 0 ≤ a ∧ a < 4294967296 := by
  have hm0 : IntKind.u32.min = 0 := rfl
  have hm1 : IntKind.u32.max = 4294967295 := rfl
  simp only [Lit.wf, Bool.and_eq_true, decide_eq_true_eq, hm0, hm1] at h
  omega
theorem decode_at (x : Int) (x0 : 0 ≤ x) (x1 : x < 4294967296) (o : Option Ins) (ho : spec x = o) (w : World) :
    Calls Try.prog 10 #[.int .u32 x] w fun e w' => e = .returned (decV o x) ∧ Kp w w' := by subst ho; exact decode_w x x0 x1 w
set_option maxHeartbeats 4000000 in
theorem none_none (a0 : Int) (h0 : 0 ≤ a0) (h1 : a0 < 4294967296) (ho : dspec a0 = none) (hb : spec a0 = none) (w : World) :
    Calls Try.prog 4 #[.int .u32 a0] w fun e w' => e = .returned (.bool true) ∧ Grown w w' := by
  have HO := Lib.hid ho
  have HB := Lib.hid hb
  clear ho hb
  have q1 := dins_eql 0 0 0 0 0 0 0 false false 0 0
  go_enter Try.func4, Try.ntmps4
  go_wp2_with (first | (go_at_call 7; (with_reducible refine (ddec_at (a0) h0 h1 _ HO.out _).mono ?_); rintro e' w1 ⟨rfl, qk⟩; have HKw1 := Lib.hid qk; dsimp only [ddV, Ins.v, zIns]; have szw1 := qk.size; (try simp at szw1); clear qk) | (go_at_call 10; (with_reducible refine (decode_at a0 h0 h1 none HB.out _).mono ?_); rintro e' w2 ⟨rfl, qk⟩; have HKw2 := Lib.hid qk; have qw20 : w2.cell? ⟨w1.heap.size, 0, none⟩ = some (.int .i64 0) := (qk.cell (p := ⟨w1.heap.size, 0, none⟩) (by first | (simp; done) | (simp; omega) | omega)).trans (by simp [go_sem, *]); have qw21 : w2.cell? ⟨w1.heap.size, 1, none⟩ = some (.int .i64 0) := (qk.cell (p := ⟨w1.heap.size, 1, none⟩) (by first | (simp; done) | (simp; omega) | omega)).trans (by simp [go_sem, *]); have qw22 : w2.cell? ⟨w1.heap.size, 2, none⟩ = some (.int .i64 0) := (qk.cell (p := ⟨w1.heap.size, 2, none⟩) (by first | (simp; done) | (simp; omega) | omega)).trans (by simp [go_sem, *]); have qw23 : w2.cell? ⟨w1.heap.size, 3, none⟩ = some (.int .i64 0) := (qk.cell (p := ⟨w1.heap.size, 3, none⟩) (by first | (simp; done) | (simp; omega) | omega)).trans (by simp [go_sem, *]); have qw24 : w2.cell? ⟨w1.heap.size, 4, none⟩ = some (.int .i64 0) := (qk.cell (p := ⟨w1.heap.size, 4, none⟩) (by first | (simp; done) | (simp; omega) | omega)).trans (by simp [go_sem, *]); have qw25 : w2.cell? ⟨w1.heap.size, 5, none⟩ = some (.int .i64 0) := (qk.cell (p := ⟨w1.heap.size, 5, none⟩) (by first | (simp; done) | (simp; omega) | omega)).trans (by simp [go_sem, *]); have qw26 : w2.cell? ⟨w1.heap.size, 6, none⟩ = some (.int .i64 0) := (qk.cell (p := ⟨w1.heap.size, 6, none⟩) (by first | (simp; done) | (simp; omega) | omega)).trans (by simp [go_sem, *]); have qw27 : w2.cell? ⟨w1.heap.size, 7, none⟩ = some (.bool false) := (qk.cell (p := ⟨w1.heap.size, 7, none⟩) (by first | (simp; done) | (simp; omega) | omega)).trans (by simp [go_sem, *]); have qw28 : w2.cell? ⟨w1.heap.size, 8, none⟩ = some (.bool false) := (qk.cell (p := ⟨w1.heap.size, 8, none⟩) (by first | (simp; done) | (simp; omega) | omega)).trans (by simp [go_sem, *]); have qw29 : w2.cell? ⟨w1.heap.size, 9, none⟩ = some (.int .i64 0) := (qk.cell (p := ⟨w1.heap.size, 9, none⟩) (by first | (simp; done) | (simp; omega) | omega)).trans (by simp [go_sem, *]); have qw210 : w2.cell? ⟨w1.heap.size, 10, none⟩ = some (.int .u32 0) := (qk.cell (p := ⟨w1.heap.size, 10, none⟩) (by first | (simp; done) | (simp; omega) | omega)).trans (by simp [go_sem, *]); dsimp only [decV, Ins.v, zIns]; have szw2 := qk.size; (try simp at szw2); have qa0 : w1.heap.size < w2.heap.size := (by omega); have qa1 : ¬ w1.heap.size = w2.heap.size := (by omega); have qa2 : ¬ w2.heap.size = w1.heap.size := (by omega); clear qk) | (go_at_call 9; (with_reducible refine (known9_w _).mono ?_); rintro e' w3 ⟨rfl, qk⟩; have HKw3 := Lib.hid qk; clear qk))
  go_ret
  exact ⟨rfl, by
      have k1 := HKw1.out
      have k2 := (k1.allocs _ _).trans HKw2.out
      have k3 := (k2.allocs _ _).trans HKw3.out
      exact k3.grown⟩
set_option maxHeartbeats 4000000 in
theorem none_some (a0 : Int) (h0 : 0 ≤ a0) (h1 : a0 < 4294967296) (i : Ins) (ho : dspec a0 = none) (hb : spec a0 = some i) (w : World) :
    Calls Try.prog 4 #[.int .u32 a0] w fun e w' => e = .returned (.bool true) ∧ Grown w w' := by
  obtain ⟨op, fn, rd, r1, r2, imm, wid, wo, us⟩ := i
  have HO := Lib.hid ho
  have HB := Lib.hid hb
  clear ho hb
  have q1 := dins_eql 0 0 0 0 0 0 0 false false 0 0
  go_enter Try.func4, Try.ntmps4
  go_wp2_with (first | (go_at_call 7; (with_reducible refine (ddec_at (a0) h0 h1 _ HO.out _).mono ?_); rintro e' w1 ⟨rfl, qk⟩; have HKw1 := Lib.hid qk; dsimp only [ddV, Ins.v, zIns]; have szw1 := qk.size; (try simp at szw1); clear qk) | (go_at_call 10; (with_reducible refine (decode_at a0 h0 h1 (some ⟨op, fn, rd, r1, r2, imm, wid, wo, us⟩) HB.out _).mono ?_); rintro e' w2 ⟨rfl, qk⟩; have HKw2 := Lib.hid qk; have qw20 : w2.cell? ⟨w1.heap.size, 0, none⟩ = some (.int .i64 0) := (qk.cell (p := ⟨w1.heap.size, 0, none⟩) (by first | (simp; done) | (simp; omega) | omega)).trans (by simp [go_sem, *]); have qw21 : w2.cell? ⟨w1.heap.size, 1, none⟩ = some (.int .i64 0) := (qk.cell (p := ⟨w1.heap.size, 1, none⟩) (by first | (simp; done) | (simp; omega) | omega)).trans (by simp [go_sem, *]); have qw22 : w2.cell? ⟨w1.heap.size, 2, none⟩ = some (.int .i64 0) := (qk.cell (p := ⟨w1.heap.size, 2, none⟩) (by first | (simp; done) | (simp; omega) | omega)).trans (by simp [go_sem, *]); have qw23 : w2.cell? ⟨w1.heap.size, 3, none⟩ = some (.int .i64 0) := (qk.cell (p := ⟨w1.heap.size, 3, none⟩) (by first | (simp; done) | (simp; omega) | omega)).trans (by simp [go_sem, *]); have qw24 : w2.cell? ⟨w1.heap.size, 4, none⟩ = some (.int .i64 0) := (qk.cell (p := ⟨w1.heap.size, 4, none⟩) (by first | (simp; done) | (simp; omega) | omega)).trans (by simp [go_sem, *]); have qw25 : w2.cell? ⟨w1.heap.size, 5, none⟩ = some (.int .i64 0) := (qk.cell (p := ⟨w1.heap.size, 5, none⟩) (by first | (simp; done) | (simp; omega) | omega)).trans (by simp [go_sem, *]); have qw26 : w2.cell? ⟨w1.heap.size, 6, none⟩ = some (.int .i64 0) := (qk.cell (p := ⟨w1.heap.size, 6, none⟩) (by first | (simp; done) | (simp; omega) | omega)).trans (by simp [go_sem, *]); have qw27 : w2.cell? ⟨w1.heap.size, 7, none⟩ = some (.bool false) := (qk.cell (p := ⟨w1.heap.size, 7, none⟩) (by first | (simp; done) | (simp; omega) | omega)).trans (by simp [go_sem, *]); have qw28 : w2.cell? ⟨w1.heap.size, 8, none⟩ = some (.bool false) := (qk.cell (p := ⟨w1.heap.size, 8, none⟩) (by first | (simp; done) | (simp; omega) | omega)).trans (by simp [go_sem, *]); have qw29 : w2.cell? ⟨w1.heap.size, 9, none⟩ = some (.int .i64 0) := (qk.cell (p := ⟨w1.heap.size, 9, none⟩) (by first | (simp; done) | (simp; omega) | omega)).trans (by simp [go_sem, *]); have qw210 : w2.cell? ⟨w1.heap.size, 10, none⟩ = some (.int .u32 0) := (qk.cell (p := ⟨w1.heap.size, 10, none⟩) (by first | (simp; done) | (simp; omega) | omega)).trans (by simp [go_sem, *]); dsimp only [decV, Ins.v, zIns]; have szw2 := qk.size; (try simp at szw2); have qa0 : w1.heap.size < w2.heap.size := (by omega); have qa1 : ¬ w1.heap.size = w2.heap.size := (by omega); have qa2 : ¬ w2.heap.size = w1.heap.size := (by omega); clear qk) | (go_at_call 9; (with_reducible refine (known9_w _).mono ?_); rintro e' w3 ⟨rfl, qk⟩; have HKw3 := Lib.hid qk; clear qk))
  go_ret
  exact ⟨rfl, by
      have k1 := HKw1.out
      have k2 := (k1.allocs _ _).trans HKw2.out
      have k3 := (k2.allocs _ _).trans HKw3.out
      exact k3.grown⟩
set_option maxHeartbeats 4000000 in
theorem some_cap (a0 : Int) (h0 : 0 ≤ a0) (h1 : a0 < 4294967296) (i : Ins) (hf : FineD i) (ho : dspec a0 = some i) (hb : spec a0 = none) (hop : 23 ≤ i.op ∧ i.op ≤ 29) (w : World) :
    Calls Try.prog 4 #[.int .u32 a0] w fun e w' => e = .returned (.bool true) ∧ Grown w w' := by
  obtain ⟨op, fn, rd, r1, r2, imm, wid, wo, us⟩ := i
  obtain ⟨⟨⟨d0, d1⟩, ⟨e0, e1⟩, ⟨f0, f1⟩⟩, -⟩ := hf
  dsimp only at *
  have t0 : (decide (rd < 0)) = false := by simp; omega
  have t1 : (decide (r1 < 0)) = false := by simp; omega
  have t2 : (decide (r2 < 0)) = false := by simp; omega
  have t3 : (decide (31 < rd)) = false := by simp; omega
  have t4 : (decide (31 < r1)) = false := by simp; omega
  have t5 : (decide (31 < r2)) = false := by simp; omega
  have t6 : (decide (23 ≤ op)) = true := by simp; omega
  have t7 : (decide (op ≤ 29)) = true := by simp; omega
  have HO := Lib.hid ho
  have HB := Lib.hid hb
  clear ho hb d0 d1 e0 e1 f0 f1
  (try clear hop)
  go_enter Try.func4, Try.ntmps4
  go_wp2_with (first | (go_at_call 7; (with_reducible refine (ddec_at (a0) h0 h1 _ HO.out _).mono ?_); rintro e' w1 ⟨rfl, qk⟩; have HKw1 := Lib.hid qk; dsimp only [ddV, Ins.v, zIns]; have szw1 := qk.size; (try simp at szw1); clear qk) | (go_at_call 10; (with_reducible refine (decode_at a0 h0 h1 none HB.out _).mono ?_); rintro e' w2 ⟨rfl, qk⟩; have HKw2 := Lib.hid qk; have qw20 : w2.cell? ⟨w1.heap.size, 0, none⟩ = some (.int .i64 op) := (qk.cell (p := ⟨w1.heap.size, 0, none⟩) (by first | (simp; done) | (simp; omega) | omega)).trans (by simp [go_sem, *]); have qw21 : w2.cell? ⟨w1.heap.size, 1, none⟩ = some (.int .i64 fn) := (qk.cell (p := ⟨w1.heap.size, 1, none⟩) (by first | (simp; done) | (simp; omega) | omega)).trans (by simp [go_sem, *]); have qw22 : w2.cell? ⟨w1.heap.size, 2, none⟩ = some (.int .i64 rd) := (qk.cell (p := ⟨w1.heap.size, 2, none⟩) (by first | (simp; done) | (simp; omega) | omega)).trans (by simp [go_sem, *]); have qw23 : w2.cell? ⟨w1.heap.size, 3, none⟩ = some (.int .i64 r1) := (qk.cell (p := ⟨w1.heap.size, 3, none⟩) (by first | (simp; done) | (simp; omega) | omega)).trans (by simp [go_sem, *]); have qw24 : w2.cell? ⟨w1.heap.size, 4, none⟩ = some (.int .i64 r2) := (qk.cell (p := ⟨w1.heap.size, 4, none⟩) (by first | (simp; done) | (simp; omega) | omega)).trans (by simp [go_sem, *]); have qw25 : w2.cell? ⟨w1.heap.size, 5, none⟩ = some (.int .i64 imm) := (qk.cell (p := ⟨w1.heap.size, 5, none⟩) (by first | (simp; done) | (simp; omega) | omega)).trans (by simp [go_sem, *]); have qw26 : w2.cell? ⟨w1.heap.size, 6, none⟩ = some (.int .i64 wid) := (qk.cell (p := ⟨w1.heap.size, 6, none⟩) (by first | (simp; done) | (simp; omega) | omega)).trans (by simp [go_sem, *]); have qw27 : w2.cell? ⟨w1.heap.size, 7, none⟩ = some (.bool wo) := (qk.cell (p := ⟨w1.heap.size, 7, none⟩) (by first | (simp; done) | (simp; omega) | omega)).trans (by simp [go_sem, *]); have qw28 : w2.cell? ⟨w1.heap.size, 8, none⟩ = some (.bool us) := (qk.cell (p := ⟨w1.heap.size, 8, none⟩) (by first | (simp; done) | (simp; omega) | omega)).trans (by simp [go_sem, *]); have qw29 : w2.cell? ⟨w1.heap.size, 9, none⟩ = some (.int .i64 4) := (qk.cell (p := ⟨w1.heap.size, 9, none⟩) (by first | (simp; done) | (simp; omega) | omega)).trans (by simp [go_sem, *]); have qw210 : w2.cell? ⟨w1.heap.size, 10, none⟩ = some (.int .u32 a0) := (qk.cell (p := ⟨w1.heap.size, 10, none⟩) (by first | (simp; done) | (simp; omega) | omega)).trans (by simp [go_sem, *]); dsimp only [decV, Ins.v, zIns]; have szw2 := qk.size; (try simp at szw2); have qa0 : w1.heap.size < w2.heap.size := (by omega); have qa1 : ¬ w1.heap.size = w2.heap.size := (by omega); have qa2 : ¬ w2.heap.size = w1.heap.size := (by omega); clear qk) | (go_at_call 9; (with_reducible refine (known9_w _).mono ?_); rintro e' w3 ⟨rfl, qk⟩; have HKw3 := Lib.hid qk; clear qk))
  go_ret
  exact ⟨rfl, by
      have k1 := HKw1.out
      have k2 := (k1.allocs _ _).trans HKw2.out
      have k3 := (k2.allocs _ _).trans HKw3.out
      exact k3.grown⟩
set_option maxHeartbeats 4000000 in
theorem some_6 (a0 : Int) (h0 : 0 ≤ a0) (h1 : a0 < 4294967296) (i : Ins) (hf : FineD i) (ho : dspec a0 = some i) (hb : spec a0 = none) (hop : i.op = 6 ∧ i.wid = 7) (w : World) :
    Calls Try.prog 4 #[.int .u32 a0] w fun e w' => e = .returned (.bool true) ∧ Grown w w' := by
  obtain ⟨op, fn, rd, r1, r2, imm, wid, wo, us⟩ := i
  obtain ⟨⟨⟨d0, d1⟩, ⟨e0, e1⟩, ⟨f0, f1⟩⟩, -⟩ := hf
  dsimp only at *
  have t0 : (decide (rd < 0)) = false := by simp; omega
  have t1 : (decide (r1 < 0)) = false := by simp; omega
  have t2 : (decide (r2 < 0)) = false := by simp; omega
  have t3 : (decide (31 < rd)) = false := by simp; omega
  have t4 : (decide (31 < r1)) = false := by simp; omega
  have t5 : (decide (31 < r2)) = false := by simp; omega
  have t6 : (decide (23 ≤ op)) = false := by simp; omega
  have t7 : (op == 6) = true := by simp; omega
  have t8 : (wid == 7) = true := by simp; omega
  have HO := Lib.hid ho
  have HB := Lib.hid hb
  clear ho hb d0 d1 e0 e1 f0 f1
  (try clear hop)
  go_enter Try.func4, Try.ntmps4
  go_wp2_with (first | (go_at_call 7; (with_reducible refine (ddec_at (a0) h0 h1 _ HO.out _).mono ?_); rintro e' w1 ⟨rfl, qk⟩; have HKw1 := Lib.hid qk; dsimp only [ddV, Ins.v, zIns]; have szw1 := qk.size; (try simp at szw1); clear qk) | (go_at_call 10; (with_reducible refine (decode_at a0 h0 h1 none HB.out _).mono ?_); rintro e' w2 ⟨rfl, qk⟩; have HKw2 := Lib.hid qk; have qw20 : w2.cell? ⟨w1.heap.size, 0, none⟩ = some (.int .i64 op) := (qk.cell (p := ⟨w1.heap.size, 0, none⟩) (by first | (simp; done) | (simp; omega) | omega)).trans (by simp [go_sem, *]); have qw21 : w2.cell? ⟨w1.heap.size, 1, none⟩ = some (.int .i64 fn) := (qk.cell (p := ⟨w1.heap.size, 1, none⟩) (by first | (simp; done) | (simp; omega) | omega)).trans (by simp [go_sem, *]); have qw22 : w2.cell? ⟨w1.heap.size, 2, none⟩ = some (.int .i64 rd) := (qk.cell (p := ⟨w1.heap.size, 2, none⟩) (by first | (simp; done) | (simp; omega) | omega)).trans (by simp [go_sem, *]); have qw23 : w2.cell? ⟨w1.heap.size, 3, none⟩ = some (.int .i64 r1) := (qk.cell (p := ⟨w1.heap.size, 3, none⟩) (by first | (simp; done) | (simp; omega) | omega)).trans (by simp [go_sem, *]); have qw24 : w2.cell? ⟨w1.heap.size, 4, none⟩ = some (.int .i64 r2) := (qk.cell (p := ⟨w1.heap.size, 4, none⟩) (by first | (simp; done) | (simp; omega) | omega)).trans (by simp [go_sem, *]); have qw25 : w2.cell? ⟨w1.heap.size, 5, none⟩ = some (.int .i64 imm) := (qk.cell (p := ⟨w1.heap.size, 5, none⟩) (by first | (simp; done) | (simp; omega) | omega)).trans (by simp [go_sem, *]); have qw26 : w2.cell? ⟨w1.heap.size, 6, none⟩ = some (.int .i64 wid) := (qk.cell (p := ⟨w1.heap.size, 6, none⟩) (by first | (simp; done) | (simp; omega) | omega)).trans (by simp [go_sem, *]); have qw27 : w2.cell? ⟨w1.heap.size, 7, none⟩ = some (.bool wo) := (qk.cell (p := ⟨w1.heap.size, 7, none⟩) (by first | (simp; done) | (simp; omega) | omega)).trans (by simp [go_sem, *]); have qw28 : w2.cell? ⟨w1.heap.size, 8, none⟩ = some (.bool us) := (qk.cell (p := ⟨w1.heap.size, 8, none⟩) (by first | (simp; done) | (simp; omega) | omega)).trans (by simp [go_sem, *]); have qw29 : w2.cell? ⟨w1.heap.size, 9, none⟩ = some (.int .i64 4) := (qk.cell (p := ⟨w1.heap.size, 9, none⟩) (by first | (simp; done) | (simp; omega) | omega)).trans (by simp [go_sem, *]); have qw210 : w2.cell? ⟨w1.heap.size, 10, none⟩ = some (.int .u32 a0) := (qk.cell (p := ⟨w1.heap.size, 10, none⟩) (by first | (simp; done) | (simp; omega) | omega)).trans (by simp [go_sem, *]); dsimp only [decV, Ins.v, zIns]; have szw2 := qk.size; (try simp at szw2); have qa0 : w1.heap.size < w2.heap.size := (by omega); have qa1 : ¬ w1.heap.size = w2.heap.size := (by omega); have qa2 : ¬ w2.heap.size = w1.heap.size := (by omega); clear qk) | (go_at_call 9; (with_reducible refine (known9_w _).mono ?_); rintro e' w3 ⟨rfl, qk⟩; have HKw3 := Lib.hid qk; clear qk))
  go_ret
  exact ⟨rfl, by
      have k1 := HKw1.out
      have k2 := (k1.allocs _ _).trans HKw2.out
      have k3 := (k2.allocs _ _).trans HKw3.out
      exact k3.grown⟩
set_option maxHeartbeats 4000000 in
theorem some_7 (a0 : Int) (h0 : 0 ≤ a0) (h1 : a0 < 4294967296) (i : Ins) (hf : FineD i) (ho : dspec a0 = some i) (hb : spec a0 = none) (hop : i.op = 7 ∧ i.wid = 7) (w : World) :
    Calls Try.prog 4 #[.int .u32 a0] w fun e w' => e = .returned (.bool true) ∧ Grown w w' := by
  obtain ⟨op, fn, rd, r1, r2, imm, wid, wo, us⟩ := i
  obtain ⟨⟨⟨d0, d1⟩, ⟨e0, e1⟩, ⟨f0, f1⟩⟩, -⟩ := hf
  dsimp only at *
  have t0 : (decide (rd < 0)) = false := by simp; omega
  have t1 : (decide (r1 < 0)) = false := by simp; omega
  have t2 : (decide (r2 < 0)) = false := by simp; omega
  have t3 : (decide (31 < rd)) = false := by simp; omega
  have t4 : (decide (31 < r1)) = false := by simp; omega
  have t5 : (decide (31 < r2)) = false := by simp; omega
  have t6 : (decide (23 ≤ op)) = false := by simp; omega
  have t7 : (op == 6) = false := by simp; omega
  have t8 : (op == 7) = true := by simp; omega
  have t9 : (wid == 7) = true := by simp; omega
  have HO := Lib.hid ho
  have HB := Lib.hid hb
  clear ho hb d0 d1 e0 e1 f0 f1
  (try clear hop)
  go_enter Try.func4, Try.ntmps4
  go_wp2_with (first | (go_at_call 7; (with_reducible refine (ddec_at (a0) h0 h1 _ HO.out _).mono ?_); rintro e' w1 ⟨rfl, qk⟩; have HKw1 := Lib.hid qk; dsimp only [ddV, Ins.v, zIns]; have szw1 := qk.size; (try simp at szw1); clear qk) | (go_at_call 10; (with_reducible refine (decode_at a0 h0 h1 none HB.out _).mono ?_); rintro e' w2 ⟨rfl, qk⟩; have HKw2 := Lib.hid qk; have qw20 : w2.cell? ⟨w1.heap.size, 0, none⟩ = some (.int .i64 op) := (qk.cell (p := ⟨w1.heap.size, 0, none⟩) (by first | (simp; done) | (simp; omega) | omega)).trans (by simp [go_sem, *]); have qw21 : w2.cell? ⟨w1.heap.size, 1, none⟩ = some (.int .i64 fn) := (qk.cell (p := ⟨w1.heap.size, 1, none⟩) (by first | (simp; done) | (simp; omega) | omega)).trans (by simp [go_sem, *]); have qw22 : w2.cell? ⟨w1.heap.size, 2, none⟩ = some (.int .i64 rd) := (qk.cell (p := ⟨w1.heap.size, 2, none⟩) (by first | (simp; done) | (simp; omega) | omega)).trans (by simp [go_sem, *]); have qw23 : w2.cell? ⟨w1.heap.size, 3, none⟩ = some (.int .i64 r1) := (qk.cell (p := ⟨w1.heap.size, 3, none⟩) (by first | (simp; done) | (simp; omega) | omega)).trans (by simp [go_sem, *]); have qw24 : w2.cell? ⟨w1.heap.size, 4, none⟩ = some (.int .i64 r2) := (qk.cell (p := ⟨w1.heap.size, 4, none⟩) (by first | (simp; done) | (simp; omega) | omega)).trans (by simp [go_sem, *]); have qw25 : w2.cell? ⟨w1.heap.size, 5, none⟩ = some (.int .i64 imm) := (qk.cell (p := ⟨w1.heap.size, 5, none⟩) (by first | (simp; done) | (simp; omega) | omega)).trans (by simp [go_sem, *]); have qw26 : w2.cell? ⟨w1.heap.size, 6, none⟩ = some (.int .i64 wid) := (qk.cell (p := ⟨w1.heap.size, 6, none⟩) (by first | (simp; done) | (simp; omega) | omega)).trans (by simp [go_sem, *]); have qw27 : w2.cell? ⟨w1.heap.size, 7, none⟩ = some (.bool wo) := (qk.cell (p := ⟨w1.heap.size, 7, none⟩) (by first | (simp; done) | (simp; omega) | omega)).trans (by simp [go_sem, *]); have qw28 : w2.cell? ⟨w1.heap.size, 8, none⟩ = some (.bool us) := (qk.cell (p := ⟨w1.heap.size, 8, none⟩) (by first | (simp; done) | (simp; omega) | omega)).trans (by simp [go_sem, *]); have qw29 : w2.cell? ⟨w1.heap.size, 9, none⟩ = some (.int .i64 4) := (qk.cell (p := ⟨w1.heap.size, 9, none⟩) (by first | (simp; done) | (simp; omega) | omega)).trans (by simp [go_sem, *]); have qw210 : w2.cell? ⟨w1.heap.size, 10, none⟩ = some (.int .u32 a0) := (qk.cell (p := ⟨w1.heap.size, 10, none⟩) (by first | (simp; done) | (simp; omega) | omega)).trans (by simp [go_sem, *]); dsimp only [decV, Ins.v, zIns]; have szw2 := qk.size; (try simp at szw2); have qa0 : w1.heap.size < w2.heap.size := (by omega); have qa1 : ¬ w1.heap.size = w2.heap.size := (by omega); have qa2 : ¬ w2.heap.size = w1.heap.size := (by omega); clear qk) | (go_at_call 9; (with_reducible refine (known9_w _).mono ?_); rintro e' w3 ⟨rfl, qk⟩; have HKw3 := Lib.hid qk; clear qk))
  go_ret
  exact ⟨rfl, by
      have k1 := HKw1.out
      have k2 := (k1.allocs _ _).trans HKw2.out
      have k3 := (k2.allocs _ _).trans HKw3.out
      exact k3.grown⟩
theorem walk (a0 : Int) (w0 : (Lit.int .u32 a0).wf = true) (w : World) :
    Calls Try.prog 4 #[.int .u32 a0] w fun e w' => e = .returned (.bool true) ∧ Grown w w' := by
  obtain ⟨h0, h1⟩ := u32_bd w0
  rcases ho : dspec a0 with _ | i
  · rcases hb : spec a0 with _ | j
    · exact none_none a0 h0 h1 ho hb w
    · exact none_some a0 h0 h1 j ho hb w
  · have hf := fined a0 i ho
    have hb := dapart a0 i ho
    rcases hf.2 with h | ⟨h | h, h2⟩
    · exact some_cap a0 h0 h1 i hf ho hb h w
    · exact some_6 a0 h0 h1 i hf ho hb ⟨h, h2⟩ w
    · exact some_7 a0 h0 h1 i hf ho hb ⟨h, h2⟩ w
end Go.Proofs.Ytiefemcpagdiaaa.capdecApart
