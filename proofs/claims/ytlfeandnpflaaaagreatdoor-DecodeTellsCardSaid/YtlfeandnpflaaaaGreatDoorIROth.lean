/-
  Contracts of the document's readers for layer 7: the others. No condition.
-/
import Derived.Test.YtlfeandnpflaaaaGreatDoorIRAlu
import Derived.Test.YtlfeandnpflaaaaGreatDoorMC
namespace Go.Proofs.YtlfeandnpflaaaaGreatDoor
open Go.ChangeShapes Go.WideShapes Go.ChangeAt Go.RowKit
set_option linter.unusedVariables false
set_option linter.unusedSimpArgs false

set_option maxHeartbeats 4000000 in
theorem roth_67 (x : Int) (x0 : 0 ≤ x) (x1 : x < 4294967296) (h : fl x 1 128 = 103) (w : World) :
    Calls Tryz.prog 41 #[.int .u32 x] w fun e w' => RdQ e x (spJalr x) ∧ Kp w w' := by
  have brd := fl_bd x 128 32 (by omega)
  have bf3 := fl_bd x 4096 8 (by omega)
  have br1 := fl_bd x 32768 32 (by omega)
  have br2 := fl_bd x 1048576 32 (by omega)
  have bf7 := fl_bd x 33554432 128 (by omega)
  · have t0 : (fl x 1 128 == 103) = true := by simp; omega
    have Hh := Lib.hid h
    clear h
    go_enter Tryz.func41, Tryz.ntmps41
    go_wp2_with (first | (go_at_call 93; (with_reducible refine (rfields_w x 0 x0 x1 _).mono ?_); rintro e' w1 ⟨rfl, qk⟩; have HKw1 := Lib.hid qk; obtain ⟨qw10, qw11, qw12, qw13, qw14, qw15, qw16, qw17, qw18, qw19, qw110⟩ := qk.c11 (b := w.heap.size) (.int .i64 0) (.int .i64 0) (.int .i64 0) (.int .i64 0) (.int .i64 0) (.int .i64 0) (.int .i64 0) (.bool false) (.bool false) (.int .i64 0) (.int .u32 0); obtain ⟨zw10, zw11, zw12, zw13, zw14, zw15, zw16, zw17, zw18, zw19, zw110⟩ := qk.z11 (b := w.heap.size); have sz := qk.size; (try simp at sz); have KW := Lib.hid (Kp.trans ((Kp.refl w).allocs _ _) qk); have ql0 : w.heap.size < w1.heap.size := (by omega); have ql1 : ¬ w.heap.size = w1.heap.size := (by omega); have ql2 : ¬ w1.heap.size = w.heap.size := (by omega); clear qk) | (go_at_call 34; with_reducible refine (rf_6_0 x x0 x1 _).mono ?_; rintro e' w1 ⟨rfl, rfl⟩) | (go_at_call 44; with_reducible refine (rI_w x x0 x1 _).mono ?_; rintro e' w2 ⟨rfl, rfl⟩) | (go_at_call 95; with_reducible refine (rB_w x x0 x1 _).mono ?_; rintro e' w2 ⟨rfl, rfl⟩) | (go_at_call 43; with_reducible refine (rS_w x x0 x1 _).mono ?_; rintro e' w2 ⟨rfl, rfl⟩))
    refine bodyPost_ret (v := .tuple #[Ins.v ⟨4, 0, (fl x 128 32), (fl x 32768 32), 0, iI x, 0, false, false⟩ 4 x, .bool (fl x 4096 8 == 0)]) (by simp [results, Tryz.results41, go_sem, Ins.v, *]) rfl ⟨RdQ.mk ⟨4, 0, (fl x 128 32), (fl x 32768 32), 0, iI x, 0, false, false⟩ 4 x (fl x 4096 8 == 0) rfl (by have h := Hh.out; by_cases g : fl x 4096 8 = 0 <;> simp [spJalr, g]) (fun _ => ⟨rfl, rfl⟩), by (repeat' (first | with_reducible refine Kp.setCell ?_ ?_ _ | with_reducible refine Kp.allocs ?_ _ _ | with_reducible refine Kp.drew ?_ | with_reducible refine Kp.drewN ?_ _)); all_goals first | exact KW.out | (dsimp only; omega)⟩
set_option maxHeartbeats 4000000 in
theorem roth_63 (x : Int) (x0 : 0 ≤ x) (x1 : x < 4294967296) (h : fl x 1 128 = 99) (w : World) :
    Calls Tryz.prog 41 #[.int .u32 x] w fun e w' => RdQ e x (spBranch x) ∧ Kp w w' := by
  have brd := fl_bd x 128 32 (by omega)
  have bf3 := fl_bd x 4096 8 (by omega)
  have br1 := fl_bd x 32768 32 (by omega)
  have br2 := fl_bd x 1048576 32 (by omega)
  have bf7 := fl_bd x 33554432 128 (by omega)
  rcases (show fl x 4096 8 = 2 ∨ ¬ fl x 4096 8 = 2 by omega) with h2 | h2
  · have t0 : (fl x 1 128 == 103) = false := by simp; omega
    have t1 : (fl x 1 128 == 99) = true := by simp; omega
    have t2 : (fl x 4096 8 != 2) = false := by simp; omega
    have Hh := Lib.hid h
    have Hh2 := Lib.hid h2
    clear h h2
    go_enter Tryz.func41, Tryz.ntmps41
    go_wp2_with (first | (go_at_call 93; (with_reducible refine (rfields_w x 0 x0 x1 _).mono ?_); rintro e' w1 ⟨rfl, qk⟩; have HKw1 := Lib.hid qk; obtain ⟨qw10, qw11, qw12, qw13, qw14, qw15, qw16, qw17, qw18, qw19, qw110⟩ := qk.c11 (b := w.heap.size) (.int .i64 0) (.int .i64 0) (.int .i64 0) (.int .i64 0) (.int .i64 0) (.int .i64 0) (.int .i64 0) (.bool false) (.bool false) (.int .i64 0) (.int .u32 0); obtain ⟨zw10, zw11, zw12, zw13, zw14, zw15, zw16, zw17, zw18, zw19, zw110⟩ := qk.z11 (b := w.heap.size); have sz := qk.size; (try simp at sz); have KW := Lib.hid (Kp.trans ((Kp.refl w).allocs _ _) qk); have ql0 : w.heap.size < w1.heap.size := (by omega); have ql1 : ¬ w.heap.size = w1.heap.size := (by omega); have ql2 : ¬ w1.heap.size = w.heap.size := (by omega); clear qk) | (go_at_call 34; with_reducible refine (rf_6_0 x x0 x1 _).mono ?_; rintro e' w1 ⟨rfl, rfl⟩) | (go_at_call 44; with_reducible refine (rI_w x x0 x1 _).mono ?_; rintro e' w2 ⟨rfl, rfl⟩) | (go_at_call 95; with_reducible refine (rB_w x x0 x1 _).mono ?_; rintro e' w2 ⟨rfl, rfl⟩) | (go_at_call 43; with_reducible refine (rS_w x x0 x1 _).mono ?_; rintro e' w2 ⟨rfl, rfl⟩))
    refine bodyPost_ret (v := .tuple #[Ins.v ⟨5, (fl x 4096 8), 0, (fl x 32768 32), (fl x 1048576 32), iB x, 0, false, false⟩ 4 x, .bool (false)]) (by simp [results, Tryz.results41, go_sem, Ins.v, *]) rfl ⟨RdQ.mk ⟨5, (fl x 4096 8), 0, (fl x 32768 32), (fl x 1048576 32), iB x, 0, false, false⟩ 4 x (false) rfl (by have h := Hh.out; have h2 := Hh2.out; simp [spBranch, h2]) (fun _ => ⟨rfl, rfl⟩), by (repeat' (first | with_reducible refine Kp.setCell ?_ ?_ _ | with_reducible refine Kp.allocs ?_ _ _ | with_reducible refine Kp.drew ?_ | with_reducible refine Kp.drewN ?_ _)); all_goals first | exact KW.out | (dsimp only; omega)⟩
  · have t0 : (fl x 1 128 == 103) = false := by simp; omega
    have t1 : (fl x 1 128 == 99) = true := by simp; omega
    have t2 : (fl x 4096 8 != 2) = true := by simp; omega
    have Hh := Lib.hid h
    have Hh2 := Lib.hid h2
    clear h h2
    go_enter Tryz.func41, Tryz.ntmps41
    go_wp2_with (first | (go_at_call 93; (with_reducible refine (rfields_w x 0 x0 x1 _).mono ?_); rintro e' w1 ⟨rfl, qk⟩; have HKw1 := Lib.hid qk; obtain ⟨qw10, qw11, qw12, qw13, qw14, qw15, qw16, qw17, qw18, qw19, qw110⟩ := qk.c11 (b := w.heap.size) (.int .i64 0) (.int .i64 0) (.int .i64 0) (.int .i64 0) (.int .i64 0) (.int .i64 0) (.int .i64 0) (.bool false) (.bool false) (.int .i64 0) (.int .u32 0); obtain ⟨zw10, zw11, zw12, zw13, zw14, zw15, zw16, zw17, zw18, zw19, zw110⟩ := qk.z11 (b := w.heap.size); have sz := qk.size; (try simp at sz); have KW := Lib.hid (Kp.trans ((Kp.refl w).allocs _ _) qk); have ql0 : w.heap.size < w1.heap.size := (by omega); have ql1 : ¬ w.heap.size = w1.heap.size := (by omega); have ql2 : ¬ w1.heap.size = w.heap.size := (by omega); clear qk) | (go_at_call 34; with_reducible refine (rf_6_0 x x0 x1 _).mono ?_; rintro e' w1 ⟨rfl, rfl⟩) | (go_at_call 44; with_reducible refine (rI_w x x0 x1 _).mono ?_; rintro e' w2 ⟨rfl, rfl⟩) | (go_at_call 95; with_reducible refine (rB_w x x0 x1 _).mono ?_; rintro e' w2 ⟨rfl, rfl⟩) | (go_at_call 43; with_reducible refine (rS_w x x0 x1 _).mono ?_; rintro e' w2 ⟨rfl, rfl⟩))
    refine bodyPost_ret (v := .tuple #[Ins.v ⟨5, (fl x 4096 8), 0, (fl x 32768 32), (fl x 1048576 32), iB x, 0, false, false⟩ 4 x, .bool (fl x 4096 8 != 3)]) (by simp [results, Tryz.results41, go_sem, Ins.v, *]) rfl ⟨RdQ.mk ⟨5, (fl x 4096 8), 0, (fl x 32768 32), (fl x 1048576 32), iB x, 0, false, false⟩ 4 x (fl x 4096 8 != 3) rfl (by have h := Hh.out; have h2 := Hh2.out; by_cases g : fl x 4096 8 = 3 <;> simp [spBranch, h2, g]) (fun _ => ⟨rfl, rfl⟩), by (repeat' (first | with_reducible refine Kp.setCell ?_ ?_ _ | with_reducible refine Kp.allocs ?_ _ _ | with_reducible refine Kp.drew ?_ | with_reducible refine Kp.drewN ?_ _)); all_goals first | exact KW.out | (dsimp only; omega)⟩
set_option maxHeartbeats 4000000 in
theorem roth_03 (x : Int) (x0 : 0 ≤ x) (x1 : x < 4294967296) (h : fl x 1 128 = 3) (w : World) :
    Calls Tryz.prog 41 #[.int .u32 x] w fun e w' => RdQ e x (spLoad x) ∧ Kp w w' := by
  have brd := fl_bd x 128 32 (by omega)
  have bf3 := fl_bd x 4096 8 (by omega)
  have br1 := fl_bd x 32768 32 (by omega)
  have br2 := fl_bd x 1048576 32 (by omega)
  have bf7 := fl_bd x 33554432 128 (by omega)
  · have t0 : (fl x 1 128 == 103) = false := by simp; omega
    have t1 : (fl x 1 128 == 99) = false := by simp; omega
    have t2 : (fl x 1 128 == 3) = true := by simp; omega
    have Hh := Lib.hid h
    clear h
    go_enter Tryz.func41, Tryz.ntmps41
    go_wp2_with (first | (go_at_call 93; (with_reducible refine (rfields_w x 0 x0 x1 _).mono ?_); rintro e' w1 ⟨rfl, qk⟩; have HKw1 := Lib.hid qk; obtain ⟨qw10, qw11, qw12, qw13, qw14, qw15, qw16, qw17, qw18, qw19, qw110⟩ := qk.c11 (b := w.heap.size) (.int .i64 0) (.int .i64 0) (.int .i64 0) (.int .i64 0) (.int .i64 0) (.int .i64 0) (.int .i64 0) (.bool false) (.bool false) (.int .i64 0) (.int .u32 0); obtain ⟨zw10, zw11, zw12, zw13, zw14, zw15, zw16, zw17, zw18, zw19, zw110⟩ := qk.z11 (b := w.heap.size); have sz := qk.size; (try simp at sz); have KW := Lib.hid (Kp.trans ((Kp.refl w).allocs _ _) qk); have ql0 : w.heap.size < w1.heap.size := (by omega); have ql1 : ¬ w.heap.size = w1.heap.size := (by omega); have ql2 : ¬ w1.heap.size = w.heap.size := (by omega); clear qk) | (go_at_call 34; with_reducible refine (rf_6_0 x x0 x1 _).mono ?_; rintro e' w1 ⟨rfl, rfl⟩) | (go_at_call 44; with_reducible refine (rI_w x x0 x1 _).mono ?_; rintro e' w2 ⟨rfl, rfl⟩) | (go_at_call 95; with_reducible refine (rB_w x x0 x1 _).mono ?_; rintro e' w2 ⟨rfl, rfl⟩) | (go_at_call 43; with_reducible refine (rS_w x x0 x1 _).mono ?_; rintro e' w2 ⟨rfl, rfl⟩))
    refine bodyPost_ret (v := .tuple #[Ins.v ⟨6, 0, (fl x 128 32), (fl x 32768 32), 0, iI x, (fl x 4096 8), false, false⟩ 4 x, .bool (decide (fl x 4096 8 < 7))]) (by simp [results, Tryz.results41, go_sem, Ins.v, *]) rfl ⟨RdQ.mk ⟨6, 0, (fl x 128 32), (fl x 32768 32), 0, iI x, (fl x 4096 8), false, false⟩ 4 x (decide (fl x 4096 8 < 7)) rfl (by have h := Hh.out; by_cases g : fl x 4096 8 < 7 <;> simp [spLoad, g]) (fun _ => ⟨rfl, rfl⟩), by (repeat' (first | with_reducible refine Kp.setCell ?_ ?_ _ | with_reducible refine Kp.allocs ?_ _ _ | with_reducible refine Kp.drew ?_ | with_reducible refine Kp.drewN ?_ _)); all_goals first | exact KW.out | (dsimp only; omega)⟩
set_option maxHeartbeats 4000000 in
theorem roth_23 (x : Int) (x0 : 0 ≤ x) (x1 : x < 4294967296) (h : fl x 1 128 = 35) (w : World) :
    Calls Tryz.prog 41 #[.int .u32 x] w fun e w' => RdQ e x (spStore x) ∧ Kp w w' := by
  have brd := fl_bd x 128 32 (by omega)
  have bf3 := fl_bd x 4096 8 (by omega)
  have br1 := fl_bd x 32768 32 (by omega)
  have br2 := fl_bd x 1048576 32 (by omega)
  have bf7 := fl_bd x 33554432 128 (by omega)
  · have t0 : (fl x 1 128 == 103) = false := by simp; omega
    have t1 : (fl x 1 128 == 99) = false := by simp; omega
    have t2 : (fl x 1 128 == 3) = false := by simp; omega
    have t3 : (fl x 1 128 == 35) = true := by simp; omega
    have Hh := Lib.hid h
    clear h
    go_enter Tryz.func41, Tryz.ntmps41
    go_wp2_with (first | (go_at_call 93; (with_reducible refine (rfields_w x 0 x0 x1 _).mono ?_); rintro e' w1 ⟨rfl, qk⟩; have HKw1 := Lib.hid qk; obtain ⟨qw10, qw11, qw12, qw13, qw14, qw15, qw16, qw17, qw18, qw19, qw110⟩ := qk.c11 (b := w.heap.size) (.int .i64 0) (.int .i64 0) (.int .i64 0) (.int .i64 0) (.int .i64 0) (.int .i64 0) (.int .i64 0) (.bool false) (.bool false) (.int .i64 0) (.int .u32 0); obtain ⟨zw10, zw11, zw12, zw13, zw14, zw15, zw16, zw17, zw18, zw19, zw110⟩ := qk.z11 (b := w.heap.size); have sz := qk.size; (try simp at sz); have KW := Lib.hid (Kp.trans ((Kp.refl w).allocs _ _) qk); have ql0 : w.heap.size < w1.heap.size := (by omega); have ql1 : ¬ w.heap.size = w1.heap.size := (by omega); have ql2 : ¬ w1.heap.size = w.heap.size := (by omega); clear qk) | (go_at_call 34; with_reducible refine (rf_6_0 x x0 x1 _).mono ?_; rintro e' w1 ⟨rfl, rfl⟩) | (go_at_call 44; with_reducible refine (rI_w x x0 x1 _).mono ?_; rintro e' w2 ⟨rfl, rfl⟩) | (go_at_call 95; with_reducible refine (rB_w x x0 x1 _).mono ?_; rintro e' w2 ⟨rfl, rfl⟩) | (go_at_call 43; with_reducible refine (rS_w x x0 x1 _).mono ?_; rintro e' w2 ⟨rfl, rfl⟩))
    refine bodyPost_ret (v := .tuple #[Ins.v ⟨7, 0, 0, (fl x 32768 32), (fl x 1048576 32), iS x, (fl x 4096 8), false, false⟩ 4 x, .bool (decide (fl x 4096 8 < 4))]) (by simp [results, Tryz.results41, go_sem, Ins.v, *]) rfl ⟨RdQ.mk ⟨7, 0, 0, (fl x 32768 32), (fl x 1048576 32), iS x, (fl x 4096 8), false, false⟩ 4 x (decide (fl x 4096 8 < 4)) rfl (by have h := Hh.out; by_cases g : fl x 4096 8 < 4 <;> simp [spStore, g]) (fun _ => ⟨rfl, rfl⟩), by (repeat' (first | with_reducible refine Kp.setCell ?_ ?_ _ | with_reducible refine Kp.allocs ?_ _ _ | with_reducible refine Kp.drew ?_ | with_reducible refine Kp.drewN ?_ _)); all_goals first | exact KW.out | (dsimp only; omega)⟩
set_option maxHeartbeats 4000000 in
theorem roth_0f (x : Int) (x0 : 0 ≤ x) (x1 : x < 4294967296) (h : fl x 1 128 = 15) (w : World) :
    Calls Tryz.prog 41 #[.int .u32 x] w fun e w' => RdQ e x (spFence x) ∧ Kp w w' := by
  have brd := fl_bd x 128 32 (by omega)
  have bf3 := fl_bd x 4096 8 (by omega)
  have br1 := fl_bd x 32768 32 (by omega)
  have br2 := fl_bd x 1048576 32 (by omega)
  have bf7 := fl_bd x 33554432 128 (by omega)
  · have t0 : (fl x 1 128 == 103) = false := by simp; omega
    have t1 : (fl x 1 128 == 99) = false := by simp; omega
    have t2 : (fl x 1 128 == 3) = false := by simp; omega
    have t3 : (fl x 1 128 == 35) = false := by simp; omega
    have Hh := Lib.hid h
    clear h
    go_enter Tryz.func41, Tryz.ntmps41
    go_wp2_with (first | (go_at_call 93; (with_reducible refine (rfields_w x 0 x0 x1 _).mono ?_); rintro e' w1 ⟨rfl, qk⟩; have HKw1 := Lib.hid qk; obtain ⟨qw10, qw11, qw12, qw13, qw14, qw15, qw16, qw17, qw18, qw19, qw110⟩ := qk.c11 (b := w.heap.size) (.int .i64 0) (.int .i64 0) (.int .i64 0) (.int .i64 0) (.int .i64 0) (.int .i64 0) (.int .i64 0) (.bool false) (.bool false) (.int .i64 0) (.int .u32 0); obtain ⟨zw10, zw11, zw12, zw13, zw14, zw15, zw16, zw17, zw18, zw19, zw110⟩ := qk.z11 (b := w.heap.size); have sz := qk.size; (try simp at sz); have KW := Lib.hid (Kp.trans ((Kp.refl w).allocs _ _) qk); have ql0 : w.heap.size < w1.heap.size := (by omega); have ql1 : ¬ w.heap.size = w1.heap.size := (by omega); have ql2 : ¬ w1.heap.size = w.heap.size := (by omega); clear qk) | (go_at_call 34; with_reducible refine (rf_6_0 x x0 x1 _).mono ?_; rintro e' w1 ⟨rfl, rfl⟩) | (go_at_call 44; with_reducible refine (rI_w x x0 x1 _).mono ?_; rintro e' w2 ⟨rfl, rfl⟩) | (go_at_call 95; with_reducible refine (rB_w x x0 x1 _).mono ?_; rintro e' w2 ⟨rfl, rfl⟩) | (go_at_call 43; with_reducible refine (rS_w x x0 x1 _).mono ?_; rintro e' w2 ⟨rfl, rfl⟩))
    refine bodyPost_ret (v := .tuple #[Ins.v ⟨11 + (fl x 4096 8), 0, 0, 0, 0, 0, 0, false, false⟩ 4 x, .bool (decide (fl x 4096 8 < 2))]) (by simp [results, Tryz.results41, go_sem, Ins.v, *]) rfl ⟨RdQ.mk ⟨11 + (fl x 4096 8), 0, 0, 0, 0, 0, 0, false, false⟩ 4 x (decide (fl x 4096 8 < 2)) rfl (by have h := Hh.out; rcases (show fl x 4096 8 = 0 ∨ fl x 4096 8 = 1 ∨ ¬ fl x 4096 8 < 2 by omega) with g | g | g; (simp [spFence, g]); (simp [spFence, g]); (simp [spFence, g, show ¬ fl x 4096 8 = 0 by omega, show ¬ fl x 4096 8 = 1 by omega])) (fun _ => ⟨rfl, rfl⟩), by (repeat' (first | with_reducible refine Kp.setCell ?_ ?_ _ | with_reducible refine Kp.allocs ?_ _ _ | with_reducible refine Kp.drew ?_ | with_reducible refine Kp.drewN ?_ _)); all_goals first | exact KW.out | (dsimp only; omega)⟩
end Go.Proofs.YtlfeandnpflaaaaGreatDoor
