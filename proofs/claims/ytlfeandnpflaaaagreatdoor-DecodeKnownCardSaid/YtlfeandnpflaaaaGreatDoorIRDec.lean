/-
  Contracts of the document's reading of a word for layer 7. No condition.
-/
import Derived.Test.YtlfeandnpflaaaaGreatDoorIRImm
import Derived.Test.YtlfeandnpflaaaaGreatDoorIRSys
import Derived.Test.YtlfeandnpflaaaaGreatDoorIRAmo
import Derived.Test.YtlfeandnpflaaaaGreatDoorIROth
import Derived.Test.YtlfeandnpflaaaaGreatDoorIDec
namespace Go.Proofs.YtlfeandnpflaaaaGreatDoor
open Go.ChangeShapes Go.WideShapes Go.ChangeAt Go.RowKit
set_option linter.unusedVariables false
set_option linter.unusedSimpArgs false

set_option maxRecDepth 4000 in
set_option maxHeartbeats 4000000 in
theorem rrow_lui (x : Int) (x0 : 0 ≤ x) (x1 : x < 4294967296) (h : fl x 1 128 = 55) (w : World) :
    Calls Tryz.prog 23 #[.int .u32 x] w fun e w' => RdQ e x (spUpper 1 x) ∧ Kp w w' := by
  have brd := fl_bd x 128 32 (by omega)
  have bf3 := fl_bd x 4096 8 (by omega)
  have br1 := fl_bd x 32768 32 (by omega)
  have br2 := fl_bd x 1048576 32 (by omega)
  have bf7 := fl_bd x 33554432 128 (by omega)
  have bu := fl_bd x 4096 1048576 (by omega)
  have bs := sgn_bd 1048576 (fl x 4096 1048576) (by omega) (by omega)
  · have t0 : (fl x 1 128 == 55) = true := by simp; omega
    have Hh := Lib.hid h
    clear h
    go_enter Tryz.func23, Tryz.ntmps23
    go_wp2_with (first | (go_at_call 34; with_reducible refine (rf_6_0 x x0 x1 _).mono ?_; rintro e' w1 ⟨rfl, rfl⟩) | (go_at_call 34; with_reducible refine (rf_11_7 x x0 x1 _).mono ?_; rintro e' w1 ⟨rfl, rfl⟩) | (go_at_call 34; with_reducible refine (rf_31_12 x x0 x1 _).mono ?_; rintro e' w1 ⟨rfl, rfl⟩) | (go_at_call 35; with_reducible refine (rsg_20 _ (by omega) (by omega) _).mono ?_; rintro e' w9 ⟨rfl, rfl⟩) | (go_at_call 36; with_reducible refine (rJ_w x x0 x1 _).mono ?_; rintro e' w9 ⟨rfl, rfl⟩))
    refine bodyPost_ret (v := .tuple #[Ins.v ⟨1, 0, (fl x 128 32), 0, 0, sgn 1048576 (fl x 4096 1048576) * 4096, 0, false, false⟩ 4 x, .bool (true)]) (by simp [results, Tryz.results23, go_sem, Ins.v, *]) rfl ⟨RdQ.mk ⟨1, 0, (fl x 128 32), 0, 0, sgn 1048576 (fl x 4096 1048576) * 4096, 0, false, false⟩ 4 x (true) rfl (by have h := Hh.out; rfl) (fun _ => ⟨rfl, rfl⟩), by (repeat' (first | with_reducible refine Kp.setCell ?_ ?_ _ | with_reducible refine Kp.allocs ?_ _ _ | with_reducible refine Kp.drew ?_ | with_reducible refine Kp.drewN ?_ _)); all_goals first | exact Kp.refl w | (dsimp only; omega)⟩
set_option maxRecDepth 4000 in
set_option maxHeartbeats 4000000 in
theorem rrow_auipc (x : Int) (x0 : 0 ≤ x) (x1 : x < 4294967296) (h : fl x 1 128 = 23) (w : World) :
    Calls Tryz.prog 23 #[.int .u32 x] w fun e w' => RdQ e x (spUpper 2 x) ∧ Kp w w' := by
  have brd := fl_bd x 128 32 (by omega)
  have bf3 := fl_bd x 4096 8 (by omega)
  have br1 := fl_bd x 32768 32 (by omega)
  have br2 := fl_bd x 1048576 32 (by omega)
  have bf7 := fl_bd x 33554432 128 (by omega)
  have bu := fl_bd x 4096 1048576 (by omega)
  have bs := sgn_bd 1048576 (fl x 4096 1048576) (by omega) (by omega)
  · have t0 : (fl x 1 128 == 55) = false := by simp; omega
    have t1 : (fl x 1 128 == 23) = true := by simp; omega
    have Hh := Lib.hid h
    clear h
    go_enter Tryz.func23, Tryz.ntmps23
    go_wp2_with (first | (go_at_call 34; with_reducible refine (rf_6_0 x x0 x1 _).mono ?_; rintro e' w1 ⟨rfl, rfl⟩) | (go_at_call 34; with_reducible refine (rf_11_7 x x0 x1 _).mono ?_; rintro e' w1 ⟨rfl, rfl⟩) | (go_at_call 34; with_reducible refine (rf_31_12 x x0 x1 _).mono ?_; rintro e' w1 ⟨rfl, rfl⟩) | (go_at_call 35; with_reducible refine (rsg_20 _ (by omega) (by omega) _).mono ?_; rintro e' w9 ⟨rfl, rfl⟩) | (go_at_call 36; with_reducible refine (rJ_w x x0 x1 _).mono ?_; rintro e' w9 ⟨rfl, rfl⟩))
    refine bodyPost_ret (v := .tuple #[Ins.v ⟨2, 0, (fl x 128 32), 0, 0, sgn 1048576 (fl x 4096 1048576) * 4096, 0, false, false⟩ 4 x, .bool (true)]) (by simp [results, Tryz.results23, go_sem, Ins.v, *]) rfl ⟨RdQ.mk ⟨2, 0, (fl x 128 32), 0, 0, sgn 1048576 (fl x 4096 1048576) * 4096, 0, false, false⟩ 4 x (true) rfl (by have h := Hh.out; rfl) (fun _ => ⟨rfl, rfl⟩), by (repeat' (first | with_reducible refine Kp.setCell ?_ ?_ _ | with_reducible refine Kp.allocs ?_ _ _ | with_reducible refine Kp.drew ?_ | with_reducible refine Kp.drewN ?_ _)); all_goals first | exact Kp.refl w | (dsimp only; omega)⟩
set_option maxRecDepth 4000 in
set_option maxHeartbeats 4000000 in
theorem rrow_jal (x : Int) (x0 : 0 ≤ x) (x1 : x < 4294967296) (h : fl x 1 128 = 111) (w : World) :
    Calls Tryz.prog 23 #[.int .u32 x] w fun e w' => RdQ e x (spJal x) ∧ Kp w w' := by
  have brd := fl_bd x 128 32 (by omega)
  have bf3 := fl_bd x 4096 8 (by omega)
  have br1 := fl_bd x 32768 32 (by omega)
  have br2 := fl_bd x 1048576 32 (by omega)
  have bf7 := fl_bd x 33554432 128 (by omega)
  have bu := fl_bd x 4096 1048576 (by omega)
  have bs := sgn_bd 1048576 (fl x 4096 1048576) (by omega) (by omega)
  · have t0 : (fl x 1 128 == 55) = false := by simp; omega
    have t1 : (fl x 1 128 == 23) = false := by simp; omega
    have t2 : (fl x 1 128 == 111) = true := by simp; omega
    have Hh := Lib.hid h
    clear h
    go_enter Tryz.func23, Tryz.ntmps23
    go_wp2_with (first | (go_at_call 34; with_reducible refine (rf_6_0 x x0 x1 _).mono ?_; rintro e' w1 ⟨rfl, rfl⟩) | (go_at_call 34; with_reducible refine (rf_11_7 x x0 x1 _).mono ?_; rintro e' w1 ⟨rfl, rfl⟩) | (go_at_call 34; with_reducible refine (rf_31_12 x x0 x1 _).mono ?_; rintro e' w1 ⟨rfl, rfl⟩) | (go_at_call 35; with_reducible refine (rsg_20 _ (by omega) (by omega) _).mono ?_; rintro e' w9 ⟨rfl, rfl⟩) | (go_at_call 36; with_reducible refine (rJ_w x x0 x1 _).mono ?_; rintro e' w9 ⟨rfl, rfl⟩))
    refine bodyPost_ret (v := .tuple #[Ins.v ⟨3, 0, (fl x 128 32), 0, 0, iJ x, 0, false, false⟩ 4 x, .bool (true)]) (by simp [results, Tryz.results23, go_sem, Ins.v, *]) rfl ⟨RdQ.mk ⟨3, 0, (fl x 128 32), 0, 0, iJ x, 0, false, false⟩ 4 x (true) rfl (by have h := Hh.out; rfl) (fun _ => ⟨rfl, rfl⟩), by (repeat' (first | with_reducible refine Kp.setCell ?_ ?_ _ | with_reducible refine Kp.allocs ?_ _ _ | with_reducible refine Kp.drew ?_ | with_reducible refine Kp.drewN ?_ _)); all_goals first | exact Kp.refl w | (dsimp only; omega)⟩
set_option maxRecDepth 4000 in
set_option maxHeartbeats 4000000 in
theorem rrow_imm (x : Int) (x0 : 0 ≤ x) (x1 : x < 4294967296) (h : fl x 1 128 = 19) (w : World) :
    Calls Tryz.prog 23 #[.int .u32 x] w fun e w' => RdQ e x (spImm x) ∧ Kp w w' := by
  have brd := fl_bd x 128 32 (by omega)
  have bf3 := fl_bd x 4096 8 (by omega)
  have br1 := fl_bd x 32768 32 (by omega)
  have br2 := fl_bd x 1048576 32 (by omega)
  have bf7 := fl_bd x 33554432 128 (by omega)
  have bu := fl_bd x 4096 1048576 (by omega)
  have bs := sgn_bd 1048576 (fl x 4096 1048576) (by omega) (by omega)
  · have t0 : (fl x 1 128 == 55) = false := by simp; omega
    have t1 : (fl x 1 128 == 23) = false := by simp; omega
    have t2 : (fl x 1 128 == 111) = false := by simp; omega
    have t3 : (fl x 1 128 == 19) = true := by simp; omega
    have Hh := Lib.hid h
    clear h
    go_enter Tryz.func23, Tryz.ntmps23
    go_wp2_with (first | (go_at_call 34; with_reducible refine (rf_6_0 x x0 x1 _).mono ?_; rintro e' w1 ⟨rfl, rfl⟩) | (go_at_call 34; with_reducible refine (rf_11_7 x x0 x1 _).mono ?_; rintro e' w1 ⟨rfl, rfl⟩) | (go_at_call 34; with_reducible refine (rf_31_12 x x0 x1 _).mono ?_; rintro e' w1 ⟨rfl, rfl⟩) | (go_at_call 35; with_reducible refine (rsg_20 _ (by omega) (by omega) _).mono ?_; rintro e' w9 ⟨rfl, rfl⟩) | (go_at_call 36; with_reducible refine (rJ_w x x0 x1 _).mono ?_; rintro e' w9 ⟨rfl, rfl⟩) | (go_at_call 37; (with_reducible refine (raluImm_n x x0 x1 _).mono ?_); rintro e' w1 ⟨⟨⟨op, fn, rd, r1, r2, imm, wid, wo, us⟩, len, raw, ok, rfl, hs, hl⟩, qk⟩; have HSw1 := Lib.hid hs; have HLw1 := Lib.hid hl; clear hs hl; dsimp only [Ins.v]; have HKw1 := Lib.hid qk; obtain ⟨qw10, qw11, qw12, qw13, qw14, qw15, qw16, qw17, qw18, qw19, qw110⟩ := qk.c11 (b := w.heap.size) (.int .i64 0) (.int .i64 0) (.int .i64 0) (.int .i64 0) (.int .i64 0) (.int .i64 0) (.int .i64 0) (.bool false) (.bool false) (.int .i64 0) (.int .u32 0); obtain ⟨zw10, zw11, zw12, zw13, zw14, zw15, zw16, zw17, zw18, zw19, zw110⟩ := qk.z11 (b := w.heap.size); have sz := HKw1.out.size; (try simp at sz); have KW := Lib.hid (Kp.trans (((Kp.refl w).allocs _ _).allocs _ _) HKw1.out); have ql0 : w.heap.size < w1.heap.size := (by omega); have ql1 : ¬ w.heap.size = w1.heap.size := (by omega); have ql2 : ¬ w1.heap.size = w.heap.size := (by omega); clear qk))
    refine bodyPost_ret (v := .tuple #[Ins.v ⟨op, fn, rd, r1, r2, imm, wid, wo, us⟩ len raw, .bool (ok)]) (by simp [results, Tryz.results23, go_sem, Ins.v, *]) rfl ⟨RdQ.mk ⟨op, fn, rd, r1, r2, imm, wid, wo, us⟩ len raw (ok) rfl (by have h := Hh.out; exact HSw1.out) (HLw1.out), by (repeat' (first | with_reducible refine Kp.setCell ?_ ?_ _ | with_reducible refine Kp.allocs ?_ _ _ | with_reducible refine Kp.drew ?_ | with_reducible refine Kp.drewN ?_ _)); all_goals first | exact KW.out | (dsimp only; omega)⟩
set_option maxRecDepth 4000 in
set_option maxHeartbeats 4000000 in
theorem rrow_immw (x : Int) (x0 : 0 ≤ x) (x1 : x < 4294967296) (h : fl x 1 128 = 27) (w : World) :
    Calls Tryz.prog 23 #[.int .u32 x] w fun e w' => RdQ e x (nar (spImm x)) ∧ Kp w w' := by
  have brd := fl_bd x 128 32 (by omega)
  have bf3 := fl_bd x 4096 8 (by omega)
  have br1 := fl_bd x 32768 32 (by omega)
  have br2 := fl_bd x 1048576 32 (by omega)
  have bf7 := fl_bd x 33554432 128 (by omega)
  have bu := fl_bd x 4096 1048576 (by omega)
  have bs := sgn_bd 1048576 (fl x 4096 1048576) (by omega) (by omega)
  · have t0 : (fl x 1 128 == 55) = false := by simp; omega
    have t1 : (fl x 1 128 == 23) = false := by simp; omega
    have t2 : (fl x 1 128 == 111) = false := by simp; omega
    have t3 : (fl x 1 128 == 19) = false := by simp; omega
    have t4 : (fl x 1 128 == 27) = true := by simp; omega
    have Hh := Lib.hid h
    clear h
    go_enter Tryz.func23, Tryz.ntmps23
    go_wp2_with (first | (go_at_call 34; with_reducible refine (rf_6_0 x x0 x1 _).mono ?_; rintro e' w1 ⟨rfl, rfl⟩) | (go_at_call 34; with_reducible refine (rf_11_7 x x0 x1 _).mono ?_; rintro e' w1 ⟨rfl, rfl⟩) | (go_at_call 34; with_reducible refine (rf_31_12 x x0 x1 _).mono ?_; rintro e' w1 ⟨rfl, rfl⟩) | (go_at_call 35; with_reducible refine (rsg_20 _ (by omega) (by omega) _).mono ?_; rintro e' w9 ⟨rfl, rfl⟩) | (go_at_call 36; with_reducible refine (rJ_w x x0 x1 _).mono ?_; rintro e' w9 ⟨rfl, rfl⟩) | (go_at_call 37; (with_reducible refine (raluImm_w x x0 x1 _).mono ?_); rintro e' w1 ⟨⟨⟨op, fn, rd, r1, r2, imm, wid, wo, us⟩, len, raw, ok, rfl, hs, hl⟩, qk⟩; have HSw1 := Lib.hid hs; have HLw1 := Lib.hid hl; clear hs hl; dsimp only [Ins.v]; have HKw1 := Lib.hid qk; obtain ⟨qw10, qw11, qw12, qw13, qw14, qw15, qw16, qw17, qw18, qw19, qw110⟩ := qk.c11 (b := w.heap.size) (.int .i64 0) (.int .i64 0) (.int .i64 0) (.int .i64 0) (.int .i64 0) (.int .i64 0) (.int .i64 0) (.bool false) (.bool false) (.int .i64 0) (.int .u32 0); obtain ⟨zw10, zw11, zw12, zw13, zw14, zw15, zw16, zw17, zw18, zw19, zw110⟩ := qk.z11 (b := w.heap.size); have sz := HKw1.out.size; (try simp at sz); have KW := Lib.hid (Kp.trans (((Kp.refl w).allocs _ _).allocs _ _) HKw1.out); have ql0 : w.heap.size < w1.heap.size := (by omega); have ql1 : ¬ w.heap.size = w1.heap.size := (by omega); have ql2 : ¬ w1.heap.size = w.heap.size := (by omega); clear qk))
    refine bodyPost_ret (v := .tuple #[Ins.v ⟨op, fn, rd, r1, r2, imm, wid, wo, us⟩ len raw, .bool (ok)]) (by simp [results, Tryz.results23, go_sem, Ins.v, *]) rfl ⟨RdQ.mk ⟨op, fn, rd, r1, r2, imm, wid, wo, us⟩ len raw (ok) rfl (by have h := Hh.out; exact HSw1.out) (HLw1.out), by (repeat' (first | with_reducible refine Kp.setCell ?_ ?_ _ | with_reducible refine Kp.allocs ?_ _ _ | with_reducible refine Kp.drew ?_ | with_reducible refine Kp.drewN ?_ _)); all_goals first | exact KW.out | (dsimp only; omega)⟩
set_option maxRecDepth 4000 in
set_option maxHeartbeats 4000000 in
theorem rrow_alu (x : Int) (x0 : 0 ≤ x) (x1 : x < 4294967296) (h : fl x 1 128 = 51) (w : World) :
    Calls Tryz.prog 23 #[.int .u32 x] w fun e w' => RdQ e x (spAlu x) ∧ Kp w w' := by
  have brd := fl_bd x 128 32 (by omega)
  have bf3 := fl_bd x 4096 8 (by omega)
  have br1 := fl_bd x 32768 32 (by omega)
  have br2 := fl_bd x 1048576 32 (by omega)
  have bf7 := fl_bd x 33554432 128 (by omega)
  have bu := fl_bd x 4096 1048576 (by omega)
  have bs := sgn_bd 1048576 (fl x 4096 1048576) (by omega) (by omega)
  · have t0 : (fl x 1 128 == 55) = false := by simp; omega
    have t1 : (fl x 1 128 == 23) = false := by simp; omega
    have t2 : (fl x 1 128 == 111) = false := by simp; omega
    have t3 : (fl x 1 128 == 19) = false := by simp; omega
    have t4 : (fl x 1 128 == 27) = false := by simp; omega
    have t5 : (fl x 1 128 == 51) = true := by simp; omega
    have Hh := Lib.hid h
    clear h
    go_enter Tryz.func23, Tryz.ntmps23
    go_wp2_with (first | (go_at_call 34; with_reducible refine (rf_6_0 x x0 x1 _).mono ?_; rintro e' w1 ⟨rfl, rfl⟩) | (go_at_call 34; with_reducible refine (rf_11_7 x x0 x1 _).mono ?_; rintro e' w1 ⟨rfl, rfl⟩) | (go_at_call 34; with_reducible refine (rf_31_12 x x0 x1 _).mono ?_; rintro e' w1 ⟨rfl, rfl⟩) | (go_at_call 35; with_reducible refine (rsg_20 _ (by omega) (by omega) _).mono ?_; rintro e' w9 ⟨rfl, rfl⟩) | (go_at_call 36; with_reducible refine (rJ_w x x0 x1 _).mono ?_; rintro e' w9 ⟨rfl, rfl⟩) | (go_at_call 38; (with_reducible refine (ralu_n x x0 x1 _).mono ?_); rintro e' w1 ⟨⟨⟨op, fn, rd, r1, r2, imm, wid, wo, us⟩, len, raw, ok, rfl, hs, hl⟩, qk⟩; have HSw1 := Lib.hid hs; have HLw1 := Lib.hid hl; clear hs hl; dsimp only [Ins.v]; have HKw1 := Lib.hid qk; obtain ⟨qw10, qw11, qw12, qw13, qw14, qw15, qw16, qw17, qw18, qw19, qw110⟩ := qk.c11 (b := w.heap.size) (.int .i64 0) (.int .i64 0) (.int .i64 0) (.int .i64 0) (.int .i64 0) (.int .i64 0) (.int .i64 0) (.bool false) (.bool false) (.int .i64 0) (.int .u32 0); obtain ⟨zw10, zw11, zw12, zw13, zw14, zw15, zw16, zw17, zw18, zw19, zw110⟩ := qk.z11 (b := w.heap.size); have sz := HKw1.out.size; (try simp at sz); have KW := Lib.hid (Kp.trans (((Kp.refl w).allocs _ _).allocs _ _) HKw1.out); have ql0 : w.heap.size < w1.heap.size := (by omega); have ql1 : ¬ w.heap.size = w1.heap.size := (by omega); have ql2 : ¬ w1.heap.size = w.heap.size := (by omega); clear qk))
    refine bodyPost_ret (v := .tuple #[Ins.v ⟨op, fn, rd, r1, r2, imm, wid, wo, us⟩ len raw, .bool (ok)]) (by simp [results, Tryz.results23, go_sem, Ins.v, *]) rfl ⟨RdQ.mk ⟨op, fn, rd, r1, r2, imm, wid, wo, us⟩ len raw (ok) rfl (by have h := Hh.out; exact HSw1.out) (HLw1.out), by (repeat' (first | with_reducible refine Kp.setCell ?_ ?_ _ | with_reducible refine Kp.allocs ?_ _ _ | with_reducible refine Kp.drew ?_ | with_reducible refine Kp.drewN ?_ _)); all_goals first | exact KW.out | (dsimp only; omega)⟩
set_option maxRecDepth 4000 in
set_option maxHeartbeats 4000000 in
theorem rrow_aluw (x : Int) (x0 : 0 ≤ x) (x1 : x < 4294967296) (h : fl x 1 128 = 59) (w : World) :
    Calls Tryz.prog 23 #[.int .u32 x] w fun e w' => RdQ e x (nar (spAlu x)) ∧ Kp w w' := by
  have brd := fl_bd x 128 32 (by omega)
  have bf3 := fl_bd x 4096 8 (by omega)
  have br1 := fl_bd x 32768 32 (by omega)
  have br2 := fl_bd x 1048576 32 (by omega)
  have bf7 := fl_bd x 33554432 128 (by omega)
  have bu := fl_bd x 4096 1048576 (by omega)
  have bs := sgn_bd 1048576 (fl x 4096 1048576) (by omega) (by omega)
  · have t0 : (fl x 1 128 == 55) = false := by simp; omega
    have t1 : (fl x 1 128 == 23) = false := by simp; omega
    have t2 : (fl x 1 128 == 111) = false := by simp; omega
    have t3 : (fl x 1 128 == 19) = false := by simp; omega
    have t4 : (fl x 1 128 == 27) = false := by simp; omega
    have t5 : (fl x 1 128 == 51) = false := by simp; omega
    have t6 : (fl x 1 128 == 59) = true := by simp; omega
    have Hh := Lib.hid h
    clear h
    go_enter Tryz.func23, Tryz.ntmps23
    go_wp2_with (first | (go_at_call 34; with_reducible refine (rf_6_0 x x0 x1 _).mono ?_; rintro e' w1 ⟨rfl, rfl⟩) | (go_at_call 34; with_reducible refine (rf_11_7 x x0 x1 _).mono ?_; rintro e' w1 ⟨rfl, rfl⟩) | (go_at_call 34; with_reducible refine (rf_31_12 x x0 x1 _).mono ?_; rintro e' w1 ⟨rfl, rfl⟩) | (go_at_call 35; with_reducible refine (rsg_20 _ (by omega) (by omega) _).mono ?_; rintro e' w9 ⟨rfl, rfl⟩) | (go_at_call 36; with_reducible refine (rJ_w x x0 x1 _).mono ?_; rintro e' w9 ⟨rfl, rfl⟩) | (go_at_call 38; (with_reducible refine (ralu_w x x0 x1 _).mono ?_); rintro e' w1 ⟨⟨⟨op, fn, rd, r1, r2, imm, wid, wo, us⟩, len, raw, ok, rfl, hs, hl⟩, qk⟩; have HSw1 := Lib.hid hs; have HLw1 := Lib.hid hl; clear hs hl; dsimp only [Ins.v]; have HKw1 := Lib.hid qk; obtain ⟨qw10, qw11, qw12, qw13, qw14, qw15, qw16, qw17, qw18, qw19, qw110⟩ := qk.c11 (b := w.heap.size) (.int .i64 0) (.int .i64 0) (.int .i64 0) (.int .i64 0) (.int .i64 0) (.int .i64 0) (.int .i64 0) (.bool false) (.bool false) (.int .i64 0) (.int .u32 0); obtain ⟨zw10, zw11, zw12, zw13, zw14, zw15, zw16, zw17, zw18, zw19, zw110⟩ := qk.z11 (b := w.heap.size); have sz := HKw1.out.size; (try simp at sz); have KW := Lib.hid (Kp.trans (((Kp.refl w).allocs _ _).allocs _ _) HKw1.out); have ql0 : w.heap.size < w1.heap.size := (by omega); have ql1 : ¬ w.heap.size = w1.heap.size := (by omega); have ql2 : ¬ w1.heap.size = w.heap.size := (by omega); clear qk))
    refine bodyPost_ret (v := .tuple #[Ins.v ⟨op, fn, rd, r1, r2, imm, wid, wo, us⟩ len raw, .bool (ok)]) (by simp [results, Tryz.results23, go_sem, Ins.v, *]) rfl ⟨RdQ.mk ⟨op, fn, rd, r1, r2, imm, wid, wo, us⟩ len raw (ok) rfl (by have h := Hh.out; exact HSw1.out) (HLw1.out), by (repeat' (first | with_reducible refine Kp.setCell ?_ ?_ _ | with_reducible refine Kp.allocs ?_ _ _ | with_reducible refine Kp.drew ?_ | with_reducible refine Kp.drewN ?_ _)); all_goals first | exact KW.out | (dsimp only; omega)⟩
set_option maxRecDepth 4000 in
set_option maxHeartbeats 4000000 in
theorem rrow_sys (x : Int) (x0 : 0 ≤ x) (x1 : x < 4294967296) (h : fl x 1 128 = 115) (w : World) :
    Calls Tryz.prog 23 #[.int .u32 x] w fun e w' => RdQ e x (spSys x) ∧ Kp w w' := by
  have brd := fl_bd x 128 32 (by omega)
  have bf3 := fl_bd x 4096 8 (by omega)
  have br1 := fl_bd x 32768 32 (by omega)
  have br2 := fl_bd x 1048576 32 (by omega)
  have bf7 := fl_bd x 33554432 128 (by omega)
  have bu := fl_bd x 4096 1048576 (by omega)
  have bs := sgn_bd 1048576 (fl x 4096 1048576) (by omega) (by omega)
  · have t0 : (fl x 1 128 == 55) = false := by simp; omega
    have t1 : (fl x 1 128 == 23) = false := by simp; omega
    have t2 : (fl x 1 128 == 111) = false := by simp; omega
    have t3 : (fl x 1 128 == 19) = false := by simp; omega
    have t4 : (fl x 1 128 == 27) = false := by simp; omega
    have t5 : (fl x 1 128 == 51) = false := by simp; omega
    have t6 : (fl x 1 128 == 59) = false := by simp; omega
    have t7 : (fl x 1 128 == 115) = true := by simp; omega
    have Hh := Lib.hid h
    clear h
    go_enter Tryz.func23, Tryz.ntmps23
    go_wp2_with (first | (go_at_call 34; with_reducible refine (rf_6_0 x x0 x1 _).mono ?_; rintro e' w1 ⟨rfl, rfl⟩) | (go_at_call 34; with_reducible refine (rf_11_7 x x0 x1 _).mono ?_; rintro e' w1 ⟨rfl, rfl⟩) | (go_at_call 34; with_reducible refine (rf_31_12 x x0 x1 _).mono ?_; rintro e' w1 ⟨rfl, rfl⟩) | (go_at_call 35; with_reducible refine (rsg_20 _ (by omega) (by omega) _).mono ?_; rintro e' w9 ⟨rfl, rfl⟩) | (go_at_call 36; with_reducible refine (rJ_w x x0 x1 _).mono ?_; rintro e' w9 ⟨rfl, rfl⟩) | (go_at_call 39; (with_reducible refine (rsys_w x x0 x1 _).mono ?_); rintro e' w1 ⟨⟨⟨op, fn, rd, r1, r2, imm, wid, wo, us⟩, len, raw, ok, rfl, hs, hl⟩, qk⟩; have HSw1 := Lib.hid hs; have HLw1 := Lib.hid hl; clear hs hl; dsimp only [Ins.v]; have HKw1 := Lib.hid qk; obtain ⟨qw10, qw11, qw12, qw13, qw14, qw15, qw16, qw17, qw18, qw19, qw110⟩ := qk.c11 (b := w.heap.size) (.int .i64 0) (.int .i64 0) (.int .i64 0) (.int .i64 0) (.int .i64 0) (.int .i64 0) (.int .i64 0) (.bool false) (.bool false) (.int .i64 0) (.int .u32 0); obtain ⟨zw10, zw11, zw12, zw13, zw14, zw15, zw16, zw17, zw18, zw19, zw110⟩ := qk.z11 (b := w.heap.size); have sz := HKw1.out.size; (try simp at sz); have KW := Lib.hid (Kp.trans (((Kp.refl w).allocs _ _).allocs _ _) HKw1.out); have ql0 : w.heap.size < w1.heap.size := (by omega); have ql1 : ¬ w.heap.size = w1.heap.size := (by omega); have ql2 : ¬ w1.heap.size = w.heap.size := (by omega); clear qk))
    refine bodyPost_ret (v := .tuple #[Ins.v ⟨op, fn, rd, r1, r2, imm, wid, wo, us⟩ len raw, .bool (ok)]) (by simp [results, Tryz.results23, go_sem, Ins.v, *]) rfl ⟨RdQ.mk ⟨op, fn, rd, r1, r2, imm, wid, wo, us⟩ len raw (ok) rfl (by have h := Hh.out; exact HSw1.out) (HLw1.out), by (repeat' (first | with_reducible refine Kp.setCell ?_ ?_ _ | with_reducible refine Kp.allocs ?_ _ _ | with_reducible refine Kp.drew ?_ | with_reducible refine Kp.drewN ?_ _)); all_goals first | exact KW.out | (dsimp only; omega)⟩
set_option maxRecDepth 4000 in
set_option maxHeartbeats 4000000 in
theorem rrow_amo (x : Int) (x0 : 0 ≤ x) (x1 : x < 4294967296) (h : fl x 1 128 = 47) (w : World) :
    Calls Tryz.prog 23 #[.int .u32 x] w fun e w' => RdQ e x (spAmo x) ∧ Kp w w' := by
  have brd := fl_bd x 128 32 (by omega)
  have bf3 := fl_bd x 4096 8 (by omega)
  have br1 := fl_bd x 32768 32 (by omega)
  have br2 := fl_bd x 1048576 32 (by omega)
  have bf7 := fl_bd x 33554432 128 (by omega)
  have bu := fl_bd x 4096 1048576 (by omega)
  have bs := sgn_bd 1048576 (fl x 4096 1048576) (by omega) (by omega)
  · have t0 : (fl x 1 128 == 55) = false := by simp; omega
    have t1 : (fl x 1 128 == 23) = false := by simp; omega
    have t2 : (fl x 1 128 == 111) = false := by simp; omega
    have t3 : (fl x 1 128 == 19) = false := by simp; omega
    have t4 : (fl x 1 128 == 27) = false := by simp; omega
    have t5 : (fl x 1 128 == 51) = false := by simp; omega
    have t6 : (fl x 1 128 == 59) = false := by simp; omega
    have t7 : (fl x 1 128 == 115) = false := by simp; omega
    have t8 : (fl x 1 128 == 47) = true := by simp; omega
    have Hh := Lib.hid h
    clear h
    go_enter Tryz.func23, Tryz.ntmps23
    go_wp2_with (first | (go_at_call 34; with_reducible refine (rf_6_0 x x0 x1 _).mono ?_; rintro e' w1 ⟨rfl, rfl⟩) | (go_at_call 34; with_reducible refine (rf_11_7 x x0 x1 _).mono ?_; rintro e' w1 ⟨rfl, rfl⟩) | (go_at_call 34; with_reducible refine (rf_31_12 x x0 x1 _).mono ?_; rintro e' w1 ⟨rfl, rfl⟩) | (go_at_call 35; with_reducible refine (rsg_20 _ (by omega) (by omega) _).mono ?_; rintro e' w9 ⟨rfl, rfl⟩) | (go_at_call 36; with_reducible refine (rJ_w x x0 x1 _).mono ?_; rintro e' w9 ⟨rfl, rfl⟩) | (go_at_call 40; (with_reducible refine (ratomic_w x x0 x1 _).mono ?_); rintro e' w1 ⟨⟨⟨op, fn, rd, r1, r2, imm, wid, wo, us⟩, len, raw, ok, rfl, hs, hl⟩, qk⟩; have HSw1 := Lib.hid hs; have HLw1 := Lib.hid hl; clear hs hl; dsimp only [Ins.v]; have HKw1 := Lib.hid qk; obtain ⟨qw10, qw11, qw12, qw13, qw14, qw15, qw16, qw17, qw18, qw19, qw110⟩ := qk.c11 (b := w.heap.size) (.int .i64 0) (.int .i64 0) (.int .i64 0) (.int .i64 0) (.int .i64 0) (.int .i64 0) (.int .i64 0) (.bool false) (.bool false) (.int .i64 0) (.int .u32 0); obtain ⟨zw10, zw11, zw12, zw13, zw14, zw15, zw16, zw17, zw18, zw19, zw110⟩ := qk.z11 (b := w.heap.size); have sz := HKw1.out.size; (try simp at sz); have KW := Lib.hid (Kp.trans (((Kp.refl w).allocs _ _).allocs _ _) HKw1.out); have ql0 : w.heap.size < w1.heap.size := (by omega); have ql1 : ¬ w.heap.size = w1.heap.size := (by omega); have ql2 : ¬ w1.heap.size = w.heap.size := (by omega); clear qk))
    refine bodyPost_ret (v := .tuple #[Ins.v ⟨op, fn, rd, r1, r2, imm, wid, wo, us⟩ len raw, .bool (ok)]) (by simp [results, Tryz.results23, go_sem, Ins.v, *]) rfl ⟨RdQ.mk ⟨op, fn, rd, r1, r2, imm, wid, wo, us⟩ len raw (ok) rfl (by have h := Hh.out; exact HSw1.out) (HLw1.out), by (repeat' (first | with_reducible refine Kp.setCell ?_ ?_ _ | with_reducible refine Kp.allocs ?_ _ _ | with_reducible refine Kp.drew ?_ | with_reducible refine Kp.drewN ?_ _)); all_goals first | exact KW.out | (dsimp only; omega)⟩
set_option maxRecDepth 4000 in
set_option maxHeartbeats 4000000 in
theorem rrow_jalr (x : Int) (x0 : 0 ≤ x) (x1 : x < 4294967296) (h : fl x 1 128 = 103) (w : World) :
    Calls Tryz.prog 23 #[.int .u32 x] w fun e w' => RdQ e x (spJalr x) ∧ Kp w w' := by
  have brd := fl_bd x 128 32 (by omega)
  have bf3 := fl_bd x 4096 8 (by omega)
  have br1 := fl_bd x 32768 32 (by omega)
  have br2 := fl_bd x 1048576 32 (by omega)
  have bf7 := fl_bd x 33554432 128 (by omega)
  have bu := fl_bd x 4096 1048576 (by omega)
  have bs := sgn_bd 1048576 (fl x 4096 1048576) (by omega) (by omega)
  · have t0 : (fl x 1 128 == 55) = false := by simp; omega
    have t1 : (fl x 1 128 == 23) = false := by simp; omega
    have t2 : (fl x 1 128 == 111) = false := by simp; omega
    have t3 : (fl x 1 128 == 19) = false := by simp; omega
    have t4 : (fl x 1 128 == 27) = false := by simp; omega
    have t5 : (fl x 1 128 == 51) = false := by simp; omega
    have t6 : (fl x 1 128 == 59) = false := by simp; omega
    have t7 : (fl x 1 128 == 115) = false := by simp; omega
    have t8 : (fl x 1 128 == 47) = false := by simp; omega
    have t9 : (fl x 1 128 == 103) = true := by simp; omega
    have Hh := Lib.hid h
    clear h
    go_enter Tryz.func23, Tryz.ntmps23
    go_wp2_with (first | (go_at_call 34; with_reducible refine (rf_6_0 x x0 x1 _).mono ?_; rintro e' w1 ⟨rfl, rfl⟩) | (go_at_call 34; with_reducible refine (rf_11_7 x x0 x1 _).mono ?_; rintro e' w1 ⟨rfl, rfl⟩) | (go_at_call 34; with_reducible refine (rf_31_12 x x0 x1 _).mono ?_; rintro e' w1 ⟨rfl, rfl⟩) | (go_at_call 35; with_reducible refine (rsg_20 _ (by omega) (by omega) _).mono ?_; rintro e' w9 ⟨rfl, rfl⟩) | (go_at_call 36; with_reducible refine (rJ_w x x0 x1 _).mono ?_; rintro e' w9 ⟨rfl, rfl⟩) | (go_at_call 41; (with_reducible refine (roth_67 x x0 x1 Hh.out _).mono ?_); rintro e' w1 ⟨⟨⟨op, fn, rd, r1, r2, imm, wid, wo, us⟩, len, raw, ok, rfl, hs, hl⟩, qk⟩; have HSw1 := Lib.hid hs; have HLw1 := Lib.hid hl; clear hs hl; dsimp only [Ins.v]; have HKw1 := Lib.hid qk; obtain ⟨qw10, qw11, qw12, qw13, qw14, qw15, qw16, qw17, qw18, qw19, qw110⟩ := qk.c11 (b := w.heap.size) (.int .i64 0) (.int .i64 0) (.int .i64 0) (.int .i64 0) (.int .i64 0) (.int .i64 0) (.int .i64 0) (.bool false) (.bool false) (.int .i64 0) (.int .u32 0); obtain ⟨zw10, zw11, zw12, zw13, zw14, zw15, zw16, zw17, zw18, zw19, zw110⟩ := qk.z11 (b := w.heap.size); have sz := HKw1.out.size; (try simp at sz); have KW := Lib.hid (Kp.trans (((Kp.refl w).allocs _ _).allocs _ _) HKw1.out); have ql0 : w.heap.size < w1.heap.size := (by omega); have ql1 : ¬ w.heap.size = w1.heap.size := (by omega); have ql2 : ¬ w1.heap.size = w.heap.size := (by omega); clear qk))
    refine bodyPost_ret (v := .tuple #[Ins.v ⟨op, fn, rd, r1, r2, imm, wid, wo, us⟩ len raw, .bool (ok)]) (by simp [results, Tryz.results23, go_sem, Ins.v, *]) rfl ⟨RdQ.mk ⟨op, fn, rd, r1, r2, imm, wid, wo, us⟩ len raw (ok) rfl (by have h := Hh.out; exact HSw1.out) (HLw1.out), by (repeat' (first | with_reducible refine Kp.setCell ?_ ?_ _ | with_reducible refine Kp.allocs ?_ _ _ | with_reducible refine Kp.drew ?_ | with_reducible refine Kp.drewN ?_ _)); all_goals first | exact KW.out | (dsimp only; omega)⟩
set_option maxRecDepth 4000 in
set_option maxHeartbeats 4000000 in
theorem rrow_branch (x : Int) (x0 : 0 ≤ x) (x1 : x < 4294967296) (h : fl x 1 128 = 99) (w : World) :
    Calls Tryz.prog 23 #[.int .u32 x] w fun e w' => RdQ e x (spBranch x) ∧ Kp w w' := by
  have brd := fl_bd x 128 32 (by omega)
  have bf3 := fl_bd x 4096 8 (by omega)
  have br1 := fl_bd x 32768 32 (by omega)
  have br2 := fl_bd x 1048576 32 (by omega)
  have bf7 := fl_bd x 33554432 128 (by omega)
  have bu := fl_bd x 4096 1048576 (by omega)
  have bs := sgn_bd 1048576 (fl x 4096 1048576) (by omega) (by omega)
  · have t0 : (fl x 1 128 == 55) = false := by simp; omega
    have t1 : (fl x 1 128 == 23) = false := by simp; omega
    have t2 : (fl x 1 128 == 111) = false := by simp; omega
    have t3 : (fl x 1 128 == 19) = false := by simp; omega
    have t4 : (fl x 1 128 == 27) = false := by simp; omega
    have t5 : (fl x 1 128 == 51) = false := by simp; omega
    have t6 : (fl x 1 128 == 59) = false := by simp; omega
    have t7 : (fl x 1 128 == 115) = false := by simp; omega
    have t8 : (fl x 1 128 == 47) = false := by simp; omega
    have t9 : (fl x 1 128 == 103) = false := by simp; omega
    have t10 : (fl x 1 128 == 99) = true := by simp; omega
    have Hh := Lib.hid h
    clear h
    go_enter Tryz.func23, Tryz.ntmps23
    go_wp2_with (first | (go_at_call 34; with_reducible refine (rf_6_0 x x0 x1 _).mono ?_; rintro e' w1 ⟨rfl, rfl⟩) | (go_at_call 34; with_reducible refine (rf_11_7 x x0 x1 _).mono ?_; rintro e' w1 ⟨rfl, rfl⟩) | (go_at_call 34; with_reducible refine (rf_31_12 x x0 x1 _).mono ?_; rintro e' w1 ⟨rfl, rfl⟩) | (go_at_call 35; with_reducible refine (rsg_20 _ (by omega) (by omega) _).mono ?_; rintro e' w9 ⟨rfl, rfl⟩) | (go_at_call 36; with_reducible refine (rJ_w x x0 x1 _).mono ?_; rintro e' w9 ⟨rfl, rfl⟩) | (go_at_call 41; (with_reducible refine (roth_63 x x0 x1 Hh.out _).mono ?_); rintro e' w1 ⟨⟨⟨op, fn, rd, r1, r2, imm, wid, wo, us⟩, len, raw, ok, rfl, hs, hl⟩, qk⟩; have HSw1 := Lib.hid hs; have HLw1 := Lib.hid hl; clear hs hl; dsimp only [Ins.v]; have HKw1 := Lib.hid qk; obtain ⟨qw10, qw11, qw12, qw13, qw14, qw15, qw16, qw17, qw18, qw19, qw110⟩ := qk.c11 (b := w.heap.size) (.int .i64 0) (.int .i64 0) (.int .i64 0) (.int .i64 0) (.int .i64 0) (.int .i64 0) (.int .i64 0) (.bool false) (.bool false) (.int .i64 0) (.int .u32 0); obtain ⟨zw10, zw11, zw12, zw13, zw14, zw15, zw16, zw17, zw18, zw19, zw110⟩ := qk.z11 (b := w.heap.size); have sz := HKw1.out.size; (try simp at sz); have KW := Lib.hid (Kp.trans (((Kp.refl w).allocs _ _).allocs _ _) HKw1.out); have ql0 : w.heap.size < w1.heap.size := (by omega); have ql1 : ¬ w.heap.size = w1.heap.size := (by omega); have ql2 : ¬ w1.heap.size = w.heap.size := (by omega); clear qk))
    refine bodyPost_ret (v := .tuple #[Ins.v ⟨op, fn, rd, r1, r2, imm, wid, wo, us⟩ len raw, .bool (ok)]) (by simp [results, Tryz.results23, go_sem, Ins.v, *]) rfl ⟨RdQ.mk ⟨op, fn, rd, r1, r2, imm, wid, wo, us⟩ len raw (ok) rfl (by have h := Hh.out; exact HSw1.out) (HLw1.out), by (repeat' (first | with_reducible refine Kp.setCell ?_ ?_ _ | with_reducible refine Kp.allocs ?_ _ _ | with_reducible refine Kp.drew ?_ | with_reducible refine Kp.drewN ?_ _)); all_goals first | exact KW.out | (dsimp only; omega)⟩
set_option maxRecDepth 4000 in
set_option maxHeartbeats 4000000 in
theorem rrow_load (x : Int) (x0 : 0 ≤ x) (x1 : x < 4294967296) (h : fl x 1 128 = 3) (w : World) :
    Calls Tryz.prog 23 #[.int .u32 x] w fun e w' => RdQ e x (spLoad x) ∧ Kp w w' := by
  have brd := fl_bd x 128 32 (by omega)
  have bf3 := fl_bd x 4096 8 (by omega)
  have br1 := fl_bd x 32768 32 (by omega)
  have br2 := fl_bd x 1048576 32 (by omega)
  have bf7 := fl_bd x 33554432 128 (by omega)
  have bu := fl_bd x 4096 1048576 (by omega)
  have bs := sgn_bd 1048576 (fl x 4096 1048576) (by omega) (by omega)
  · have t0 : (fl x 1 128 == 55) = false := by simp; omega
    have t1 : (fl x 1 128 == 23) = false := by simp; omega
    have t2 : (fl x 1 128 == 111) = false := by simp; omega
    have t3 : (fl x 1 128 == 19) = false := by simp; omega
    have t4 : (fl x 1 128 == 27) = false := by simp; omega
    have t5 : (fl x 1 128 == 51) = false := by simp; omega
    have t6 : (fl x 1 128 == 59) = false := by simp; omega
    have t7 : (fl x 1 128 == 115) = false := by simp; omega
    have t8 : (fl x 1 128 == 47) = false := by simp; omega
    have t9 : (fl x 1 128 == 103) = false := by simp; omega
    have t10 : (fl x 1 128 == 99) = false := by simp; omega
    have t11 : (fl x 1 128 == 3) = true := by simp; omega
    have Hh := Lib.hid h
    clear h
    go_enter Tryz.func23, Tryz.ntmps23
    go_wp2_with (first | (go_at_call 34; with_reducible refine (rf_6_0 x x0 x1 _).mono ?_; rintro e' w1 ⟨rfl, rfl⟩) | (go_at_call 34; with_reducible refine (rf_11_7 x x0 x1 _).mono ?_; rintro e' w1 ⟨rfl, rfl⟩) | (go_at_call 34; with_reducible refine (rf_31_12 x x0 x1 _).mono ?_; rintro e' w1 ⟨rfl, rfl⟩) | (go_at_call 35; with_reducible refine (rsg_20 _ (by omega) (by omega) _).mono ?_; rintro e' w9 ⟨rfl, rfl⟩) | (go_at_call 36; with_reducible refine (rJ_w x x0 x1 _).mono ?_; rintro e' w9 ⟨rfl, rfl⟩) | (go_at_call 41; (with_reducible refine (roth_03 x x0 x1 Hh.out _).mono ?_); rintro e' w1 ⟨⟨⟨op, fn, rd, r1, r2, imm, wid, wo, us⟩, len, raw, ok, rfl, hs, hl⟩, qk⟩; have HSw1 := Lib.hid hs; have HLw1 := Lib.hid hl; clear hs hl; dsimp only [Ins.v]; have HKw1 := Lib.hid qk; obtain ⟨qw10, qw11, qw12, qw13, qw14, qw15, qw16, qw17, qw18, qw19, qw110⟩ := qk.c11 (b := w.heap.size) (.int .i64 0) (.int .i64 0) (.int .i64 0) (.int .i64 0) (.int .i64 0) (.int .i64 0) (.int .i64 0) (.bool false) (.bool false) (.int .i64 0) (.int .u32 0); obtain ⟨zw10, zw11, zw12, zw13, zw14, zw15, zw16, zw17, zw18, zw19, zw110⟩ := qk.z11 (b := w.heap.size); have sz := HKw1.out.size; (try simp at sz); have KW := Lib.hid (Kp.trans (((Kp.refl w).allocs _ _).allocs _ _) HKw1.out); have ql0 : w.heap.size < w1.heap.size := (by omega); have ql1 : ¬ w.heap.size = w1.heap.size := (by omega); have ql2 : ¬ w1.heap.size = w.heap.size := (by omega); clear qk))
    refine bodyPost_ret (v := .tuple #[Ins.v ⟨op, fn, rd, r1, r2, imm, wid, wo, us⟩ len raw, .bool (ok)]) (by simp [results, Tryz.results23, go_sem, Ins.v, *]) rfl ⟨RdQ.mk ⟨op, fn, rd, r1, r2, imm, wid, wo, us⟩ len raw (ok) rfl (by have h := Hh.out; exact HSw1.out) (HLw1.out), by (repeat' (first | with_reducible refine Kp.setCell ?_ ?_ _ | with_reducible refine Kp.allocs ?_ _ _ | with_reducible refine Kp.drew ?_ | with_reducible refine Kp.drewN ?_ _)); all_goals first | exact KW.out | (dsimp only; omega)⟩
set_option maxRecDepth 4000 in
set_option maxHeartbeats 4000000 in
theorem rrow_store (x : Int) (x0 : 0 ≤ x) (x1 : x < 4294967296) (h : fl x 1 128 = 35) (w : World) :
    Calls Tryz.prog 23 #[.int .u32 x] w fun e w' => RdQ e x (spStore x) ∧ Kp w w' := by
  have brd := fl_bd x 128 32 (by omega)
  have bf3 := fl_bd x 4096 8 (by omega)
  have br1 := fl_bd x 32768 32 (by omega)
  have br2 := fl_bd x 1048576 32 (by omega)
  have bf7 := fl_bd x 33554432 128 (by omega)
  have bu := fl_bd x 4096 1048576 (by omega)
  have bs := sgn_bd 1048576 (fl x 4096 1048576) (by omega) (by omega)
  · have t0 : (fl x 1 128 == 55) = false := by simp; omega
    have t1 : (fl x 1 128 == 23) = false := by simp; omega
    have t2 : (fl x 1 128 == 111) = false := by simp; omega
    have t3 : (fl x 1 128 == 19) = false := by simp; omega
    have t4 : (fl x 1 128 == 27) = false := by simp; omega
    have t5 : (fl x 1 128 == 51) = false := by simp; omega
    have t6 : (fl x 1 128 == 59) = false := by simp; omega
    have t7 : (fl x 1 128 == 115) = false := by simp; omega
    have t8 : (fl x 1 128 == 47) = false := by simp; omega
    have t9 : (fl x 1 128 == 103) = false := by simp; omega
    have t10 : (fl x 1 128 == 99) = false := by simp; omega
    have t11 : (fl x 1 128 == 3) = false := by simp; omega
    have t12 : (fl x 1 128 == 35) = true := by simp; omega
    have Hh := Lib.hid h
    clear h
    go_enter Tryz.func23, Tryz.ntmps23
    go_wp2_with (first | (go_at_call 34; with_reducible refine (rf_6_0 x x0 x1 _).mono ?_; rintro e' w1 ⟨rfl, rfl⟩) | (go_at_call 34; with_reducible refine (rf_11_7 x x0 x1 _).mono ?_; rintro e' w1 ⟨rfl, rfl⟩) | (go_at_call 34; with_reducible refine (rf_31_12 x x0 x1 _).mono ?_; rintro e' w1 ⟨rfl, rfl⟩) | (go_at_call 35; with_reducible refine (rsg_20 _ (by omega) (by omega) _).mono ?_; rintro e' w9 ⟨rfl, rfl⟩) | (go_at_call 36; with_reducible refine (rJ_w x x0 x1 _).mono ?_; rintro e' w9 ⟨rfl, rfl⟩) | (go_at_call 41; (with_reducible refine (roth_23 x x0 x1 Hh.out _).mono ?_); rintro e' w1 ⟨⟨⟨op, fn, rd, r1, r2, imm, wid, wo, us⟩, len, raw, ok, rfl, hs, hl⟩, qk⟩; have HSw1 := Lib.hid hs; have HLw1 := Lib.hid hl; clear hs hl; dsimp only [Ins.v]; have HKw1 := Lib.hid qk; obtain ⟨qw10, qw11, qw12, qw13, qw14, qw15, qw16, qw17, qw18, qw19, qw110⟩ := qk.c11 (b := w.heap.size) (.int .i64 0) (.int .i64 0) (.int .i64 0) (.int .i64 0) (.int .i64 0) (.int .i64 0) (.int .i64 0) (.bool false) (.bool false) (.int .i64 0) (.int .u32 0); obtain ⟨zw10, zw11, zw12, zw13, zw14, zw15, zw16, zw17, zw18, zw19, zw110⟩ := qk.z11 (b := w.heap.size); have sz := HKw1.out.size; (try simp at sz); have KW := Lib.hid (Kp.trans (((Kp.refl w).allocs _ _).allocs _ _) HKw1.out); have ql0 : w.heap.size < w1.heap.size := (by omega); have ql1 : ¬ w.heap.size = w1.heap.size := (by omega); have ql2 : ¬ w1.heap.size = w.heap.size := (by omega); clear qk))
    refine bodyPost_ret (v := .tuple #[Ins.v ⟨op, fn, rd, r1, r2, imm, wid, wo, us⟩ len raw, .bool (ok)]) (by simp [results, Tryz.results23, go_sem, Ins.v, *]) rfl ⟨RdQ.mk ⟨op, fn, rd, r1, r2, imm, wid, wo, us⟩ len raw (ok) rfl (by have h := Hh.out; exact HSw1.out) (HLw1.out), by (repeat' (first | with_reducible refine Kp.setCell ?_ ?_ _ | with_reducible refine Kp.allocs ?_ _ _ | with_reducible refine Kp.drew ?_ | with_reducible refine Kp.drewN ?_ _)); all_goals first | exact KW.out | (dsimp only; omega)⟩
set_option maxRecDepth 4000 in
set_option maxHeartbeats 4000000 in
theorem rrow_fence (x : Int) (x0 : 0 ≤ x) (x1 : x < 4294967296) (h : fl x 1 128 = 15) (w : World) :
    Calls Tryz.prog 23 #[.int .u32 x] w fun e w' => RdQ e x (spFence x) ∧ Kp w w' := by
  have brd := fl_bd x 128 32 (by omega)
  have bf3 := fl_bd x 4096 8 (by omega)
  have br1 := fl_bd x 32768 32 (by omega)
  have br2 := fl_bd x 1048576 32 (by omega)
  have bf7 := fl_bd x 33554432 128 (by omega)
  have bu := fl_bd x 4096 1048576 (by omega)
  have bs := sgn_bd 1048576 (fl x 4096 1048576) (by omega) (by omega)
  · have t0 : (fl x 1 128 == 55) = false := by simp; omega
    have t1 : (fl x 1 128 == 23) = false := by simp; omega
    have t2 : (fl x 1 128 == 111) = false := by simp; omega
    have t3 : (fl x 1 128 == 19) = false := by simp; omega
    have t4 : (fl x 1 128 == 27) = false := by simp; omega
    have t5 : (fl x 1 128 == 51) = false := by simp; omega
    have t6 : (fl x 1 128 == 59) = false := by simp; omega
    have t7 : (fl x 1 128 == 115) = false := by simp; omega
    have t8 : (fl x 1 128 == 47) = false := by simp; omega
    have t9 : (fl x 1 128 == 103) = false := by simp; omega
    have t10 : (fl x 1 128 == 99) = false := by simp; omega
    have t11 : (fl x 1 128 == 3) = false := by simp; omega
    have t12 : (fl x 1 128 == 35) = false := by simp; omega
    have t13 : (fl x 1 128 == 15) = true := by simp; omega
    have Hh := Lib.hid h
    clear h
    go_enter Tryz.func23, Tryz.ntmps23
    go_wp2_with (first | (go_at_call 34; with_reducible refine (rf_6_0 x x0 x1 _).mono ?_; rintro e' w1 ⟨rfl, rfl⟩) | (go_at_call 34; with_reducible refine (rf_11_7 x x0 x1 _).mono ?_; rintro e' w1 ⟨rfl, rfl⟩) | (go_at_call 34; with_reducible refine (rf_31_12 x x0 x1 _).mono ?_; rintro e' w1 ⟨rfl, rfl⟩) | (go_at_call 35; with_reducible refine (rsg_20 _ (by omega) (by omega) _).mono ?_; rintro e' w9 ⟨rfl, rfl⟩) | (go_at_call 36; with_reducible refine (rJ_w x x0 x1 _).mono ?_; rintro e' w9 ⟨rfl, rfl⟩) | (go_at_call 41; (with_reducible refine (roth_0f x x0 x1 Hh.out _).mono ?_); rintro e' w1 ⟨⟨⟨op, fn, rd, r1, r2, imm, wid, wo, us⟩, len, raw, ok, rfl, hs, hl⟩, qk⟩; have HSw1 := Lib.hid hs; have HLw1 := Lib.hid hl; clear hs hl; dsimp only [Ins.v]; have HKw1 := Lib.hid qk; obtain ⟨qw10, qw11, qw12, qw13, qw14, qw15, qw16, qw17, qw18, qw19, qw110⟩ := qk.c11 (b := w.heap.size) (.int .i64 0) (.int .i64 0) (.int .i64 0) (.int .i64 0) (.int .i64 0) (.int .i64 0) (.int .i64 0) (.bool false) (.bool false) (.int .i64 0) (.int .u32 0); obtain ⟨zw10, zw11, zw12, zw13, zw14, zw15, zw16, zw17, zw18, zw19, zw110⟩ := qk.z11 (b := w.heap.size); have sz := HKw1.out.size; (try simp at sz); have KW := Lib.hid (Kp.trans (((Kp.refl w).allocs _ _).allocs _ _) HKw1.out); have ql0 : w.heap.size < w1.heap.size := (by omega); have ql1 : ¬ w.heap.size = w1.heap.size := (by omega); have ql2 : ¬ w1.heap.size = w.heap.size := (by omega); clear qk))
    refine bodyPost_ret (v := .tuple #[Ins.v ⟨op, fn, rd, r1, r2, imm, wid, wo, us⟩ len raw, .bool (ok)]) (by simp [results, Tryz.results23, go_sem, Ins.v, *]) rfl ⟨RdQ.mk ⟨op, fn, rd, r1, r2, imm, wid, wo, us⟩ len raw (ok) rfl (by have h := Hh.out; exact HSw1.out) (HLw1.out), by (repeat' (first | with_reducible refine Kp.setCell ?_ ?_ _ | with_reducible refine Kp.allocs ?_ _ _ | with_reducible refine Kp.drew ?_ | with_reducible refine Kp.drewN ?_ _)); all_goals first | exact KW.out | (dsimp only; omega)⟩
set_option maxRecDepth 4000 in
set_option maxHeartbeats 4000000 in
theorem rrow_none (x : Int) (x0 : 0 ≤ x) (x1 : x < 4294967296) (h : ¬ fl x 1 128 = 55 ∧ ¬ fl x 1 128 = 23 ∧ ¬ fl x 1 128 = 111 ∧ ¬ fl x 1 128 = 19 ∧ ¬ fl x 1 128 = 27 ∧ ¬ fl x 1 128 = 51 ∧ ¬ fl x 1 128 = 59 ∧ ¬ fl x 1 128 = 115 ∧ ¬ fl x 1 128 = 47 ∧ ¬ fl x 1 128 = 103 ∧ ¬ fl x 1 128 = 99 ∧ ¬ fl x 1 128 = 3 ∧ ¬ fl x 1 128 = 35 ∧ ¬ fl x 1 128 = 15) (w : World) :
    Calls Tryz.prog 23 #[.int .u32 x] w fun e w' => RdQ e x (none) ∧ Kp w w' := by
  have brd := fl_bd x 128 32 (by omega)
  have bf3 := fl_bd x 4096 8 (by omega)
  have br1 := fl_bd x 32768 32 (by omega)
  have br2 := fl_bd x 1048576 32 (by omega)
  have bf7 := fl_bd x 33554432 128 (by omega)
  have bu := fl_bd x 4096 1048576 (by omega)
  have bs := sgn_bd 1048576 (fl x 4096 1048576) (by omega) (by omega)
  · have t0 : (fl x 1 128 == 55) = false := by simp; omega
    have t1 : (fl x 1 128 == 23) = false := by simp; omega
    have t2 : (fl x 1 128 == 111) = false := by simp; omega
    have t3 : (fl x 1 128 == 19) = false := by simp; omega
    have t4 : (fl x 1 128 == 27) = false := by simp; omega
    have t5 : (fl x 1 128 == 51) = false := by simp; omega
    have t6 : (fl x 1 128 == 59) = false := by simp; omega
    have t7 : (fl x 1 128 == 115) = false := by simp; omega
    have t8 : (fl x 1 128 == 47) = false := by simp; omega
    have t9 : (fl x 1 128 == 103) = false := by simp; omega
    have t10 : (fl x 1 128 == 99) = false := by simp; omega
    have t11 : (fl x 1 128 == 3) = false := by simp; omega
    have t12 : (fl x 1 128 == 35) = false := by simp; omega
    have t13 : (fl x 1 128 == 15) = false := by simp; omega
    have Hh := Lib.hid h
    clear h
    go_enter Tryz.func23, Tryz.ntmps23
    go_wp2_with (first | (go_at_call 34; with_reducible refine (rf_6_0 x x0 x1 _).mono ?_; rintro e' w1 ⟨rfl, rfl⟩) | (go_at_call 34; with_reducible refine (rf_11_7 x x0 x1 _).mono ?_; rintro e' w1 ⟨rfl, rfl⟩) | (go_at_call 34; with_reducible refine (rf_31_12 x x0 x1 _).mono ?_; rintro e' w1 ⟨rfl, rfl⟩) | (go_at_call 35; with_reducible refine (rsg_20 _ (by omega) (by omega) _).mono ?_; rintro e' w9 ⟨rfl, rfl⟩) | (go_at_call 36; with_reducible refine (rJ_w x x0 x1 _).mono ?_; rintro e' w9 ⟨rfl, rfl⟩))
    refine bodyPost_ret (v := .tuple #[Ins.v zIns 0 0, .bool (false)]) (by simp [results, Tryz.results23, go_sem, Ins.v, zIns]) rfl ⟨RdQ.mk zIns 0 0 (false) rfl (by have h := Hh.out; rfl) (fun h => by cases h), by (repeat' (first | with_reducible refine Kp.setCell ?_ ?_ _ | with_reducible refine Kp.allocs ?_ _ _ | with_reducible refine Kp.drew ?_ | with_reducible refine Kp.drewN ?_ _)); all_goals first | exact Kp.refl w | (dsimp only; omega)⟩
theorem rrow_w (x : Int) (x0 : 0 ≤ x) (x1 : x < 4294967296) (w : World) :
    Calls Tryz.prog 23 #[.int .u32 x] w fun e w' => RdQ e x (spec x) ∧ Kp w w' := by
  rcases (show fl x 1 128 = 55 ∨ fl x 1 128 = 23 ∨ fl x 1 128 = 111 ∨ fl x 1 128 = 19 ∨ fl x 1 128 = 27 ∨ fl x 1 128 = 51 ∨ fl x 1 128 = 59 ∨ fl x 1 128 = 115 ∨ fl x 1 128 = 47 ∨ fl x 1 128 = 103 ∨ fl x 1 128 = 99 ∨ fl x 1 128 = 3 ∨ fl x 1 128 = 35 ∨ fl x 1 128 = 15 ∨ (¬ fl x 1 128 = 55 ∧ ¬ fl x 1 128 = 23 ∧ ¬ fl x 1 128 = 111 ∧ ¬ fl x 1 128 = 19 ∧ ¬ fl x 1 128 = 27 ∧ ¬ fl x 1 128 = 51 ∧ ¬ fl x 1 128 = 59 ∧ ¬ fl x 1 128 = 115 ∧ ¬ fl x 1 128 = 47 ∧ ¬ fl x 1 128 = 103 ∧ ¬ fl x 1 128 = 99 ∧ ¬ fl x 1 128 = 3 ∧ ¬ fl x 1 128 = 35 ∧ ¬ fl x 1 128 = 15) by omega) with h | h | h | h | h | h | h | h | h | h | h | h | h | h | h
  · have e : spec x = spUpper 1 x := by simp [spec, h]
    rw [e]; exact rrow_lui x x0 x1 h w
  · have e : spec x = spUpper 2 x := by simp [spec, h]
    rw [e]; exact rrow_auipc x x0 x1 h w
  · have e : spec x = spJal x := by simp [spec, h]
    rw [e]; exact rrow_jal x x0 x1 h w
  · have e : spec x = spImm x := by simp [spec, h]
    rw [e]; exact rrow_imm x x0 x1 h w
  · have e : spec x = nar (spImm x) := by simp [spec, h]
    rw [e]; exact rrow_immw x x0 x1 h w
  · have e : spec x = spAlu x := by simp [spec, h]
    rw [e]; exact rrow_alu x x0 x1 h w
  · have e : spec x = nar (spAlu x) := by simp [spec, h]
    rw [e]; exact rrow_aluw x x0 x1 h w
  · have e : spec x = spSys x := by simp [spec, h]
    rw [e]; exact rrow_sys x x0 x1 h w
  · have e : spec x = spAmo x := by simp [spec, h]
    rw [e]; exact rrow_amo x x0 x1 h w
  · have e : spec x = spJalr x := by simp [spec, h]
    rw [e]; exact rrow_jalr x x0 x1 h w
  · have e : spec x = spBranch x := by simp [spec, h]
    rw [e]; exact rrow_branch x x0 x1 h w
  · have e : spec x = spLoad x := by simp [spec, h]
    rw [e]; exact rrow_load x x0 x1 h w
  · have e : spec x = spStore x := by simp [spec, h]
    rw [e]; exact rrow_store x x0 x1 h w
  · have e : spec x = spFence x := by simp [spec, h]
    rw [e]; exact rrow_fence x x0 x1 h w
  · have e : spec x = none := by
      obtain ⟨h55, h23, h111, h19, h27, h51, h59, h115, h47, h103, h99, h3, h35, h15⟩ := h
      simp [spec, h55, h23, h111, h19, h27, h51, h59, h115, h47, h103, h99, h3, h35, h15]
    rw [e]; exact rrow_none x x0 x1 h w
set_option maxRecDepth 4000 in
set_option maxHeartbeats 4000000 in
theorem rdecode_w (x : Int) (x0 : 0 ≤ x) (x1 : x < 4294967296) (w : World) :
    Calls Tryz.prog 14 #[.int .u32 x] w fun e w' => e = .returned (decV (spec x) x) ∧ Kp w w' := by
  go_enter Tryz.func14, Tryz.ntmps14
  go_wp2_with (first | (go_at_call 23; (with_reducible refine (rrow_w x x0 x1 _).mono ?_); rintro e' w1 ⟨⟨⟨op, fn, rd, r1, r2, imm, wid, wo, us⟩, len, raw, ok, rfl, hs, hl⟩, qk⟩; have HSw1 := Lib.hid hs; have HLw1 := Lib.hid hl; clear hs hl; dsimp only [Ins.v]; have HKw1 := Lib.hid qk; obtain ⟨qw10, qw11, qw12, qw13, qw14, qw15, qw16, qw17, qw18, qw19, qw110⟩ := qk.c11 (b := w.heap.size) (.int .i64 0) (.int .i64 0) (.int .i64 0) (.int .i64 0) (.int .i64 0) (.int .i64 0) (.int .i64 0) (.bool false) (.bool false) (.int .i64 0) (.int .u32 0); obtain ⟨zw10, zw11, zw12, zw13, zw14, zw15, zw16, zw17, zw18, zw19, zw110⟩ := qk.z11 (b := w.heap.size); have sz := HKw1.out.size; (try simp at sz); have KW := Lib.hid (Kp.trans ((Kp.refl w).allocs _ _) HKw1.out); have ql0 : w.heap.size < w1.heap.size := (by omega); have ql1 : ¬ w.heap.size = w1.heap.size := (by omega); have ql2 : ¬ w1.heap.size = w.heap.size := (by omega); cases ok; clear qk))
  · refine bodyPost_ret (v := .tuple #[.agg #[.int .i64 0, .int .i64 0, .int .i64 0, .int .i64 0, .int .i64 0, .int .i64 0, .int .i64 0, .bool false, .bool false, .int .i64 0, .int .u32 0], .bool false]) ?_ rfl ⟨?_, by (repeat' (first | with_reducible refine Kp.setCell ?_ ?_ _ | with_reducible refine Kp.allocs ?_ _ _ | with_reducible refine Kp.drew ?_ | with_reducible refine Kp.drewN ?_ _)); all_goals first | exact KW.out | (dsimp only; omega)⟩
    · simp [results, Tryz.results14, go_sem, *]
    · have hs := HSw1.out
      rw [hs]; rfl
  · refine bodyPost_ret (v := .tuple #[.agg #[.int .i64 op, .int .i64 fn, .int .i64 rd, .int .i64 r1, .int .i64 r2, .int .i64 imm, .int .i64 wid, .bool wo, .bool us, .int .i64 len, .int .u32 raw], .bool true]) ?_ rfl ⟨?_, by (repeat' (first | with_reducible refine Kp.setCell ?_ ?_ _ | with_reducible refine Kp.allocs ?_ _ _ | with_reducible refine Kp.drew ?_ | with_reducible refine Kp.drewN ?_ _)); all_goals first | exact KW.out | (dsimp only; omega)⟩
    · simp [results, Tryz.results14, go_sem, *]
    · have hs := HSw1.out
      obtain ⟨rfl, rfl⟩ := HLw1.out (by first | exact rfl | exact trivial)
      rw [hs]; rfl
end Go.Proofs.YtlfeandnpflaaaaGreatDoor
