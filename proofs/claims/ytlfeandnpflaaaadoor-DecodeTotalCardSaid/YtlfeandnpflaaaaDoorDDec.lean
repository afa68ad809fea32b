/-
  Contract of capdec.Decode: any word is what the document says it is. No condition.
-/
import Derived.Test.YtlfeandnpflaaaaDoorDReg
import Derived.WalkMore
namespace Go.Proofs.YtlfeandnpflaaaaDoor
open Go.ChangeShapes Go.WideShapes Go.ChangeAt Go.RowKit
set_option linter.unusedVariables false
set_option linter.unusedSimpArgs false

set_option maxHeartbeats 4000000 in
theorem dcap_0 (x : Int) (x0 : 0 ≤ x) (x1 : x < 4294967296) (h : fl x 4096 8 = 0) (w : World) :
    Calls Tryd.prog 57 #[.int .u32 x] w fun e w' => RdP e (dsCap x) ∧ Kp w w' := by
  have brd := fl_bd x 128 32 (by omega)
  have bf3 := fl_bd x 4096 8 (by omega)
  have br1 := fl_bd x 32768 32 (by omega)
  have br2 := fl_bd x 1048576 32 (by omega)
  have bf7 := fl_bd x 33554432 128 (by omega)
  have hr : dsCap x = dsReg x := by simp [dsCap, h]
  rw [hr]; clear hr
  go_enter Tryd.func57, Tryd.ntmps57
  go_wp2_with (first | (go_at_call 51; with_reducible refine (drd_w x x0 x1 _).mono ?_; rintro e' w1 ⟨rfl, rfl⟩) | (go_at_call 52; with_reducible refine (drs1_w x x0 x1 _).mono ?_; rintro e' w1 ⟨rfl, rfl⟩) | (go_at_call 53; with_reducible refine (dimmI_w x x0 x1 _).mono ?_; rintro e' w1 ⟨rfl, rfl⟩) | (go_at_call 92; with_reducible refine (dfield_31_20 x x0 x1 _).mono ?_; rintro e' w1 ⟨rfl, rfl⟩) | (go_at_call 54; with_reducible refine (df3_w x x0 x1 _).mono ?_; rintro e' w1 ⟨rfl, rfl⟩; (try rw [h])) | (go_at_call 94; (with_reducible refine (dreg_w x x0 x1 _).mono ?_); rintro e' w2 ⟨⟨⟨op, fn, rd, r1, r2, imm, wid, wo, us⟩, ok, rfl, hs⟩, qk⟩; have HSw2 := Lib.hid hs; clear hs; dsimp only [Ins.v]; have HKw2 := Lib.hid qk; have qw20 : w2.cell? ⟨w.heap.size, 0, none⟩ = some (.int .i64 0) := (qk.cell (p := ⟨w.heap.size, 0, none⟩) (by first | (simp; done) | (simp; omega) | omega)).trans (by simp [go_sem, *]); have qw21 : w2.cell? ⟨w.heap.size, 1, none⟩ = some (.int .i64 0) := (qk.cell (p := ⟨w.heap.size, 1, none⟩) (by first | (simp; done) | (simp; omega) | omega)).trans (by simp [go_sem, *]); have qw22 : w2.cell? ⟨w.heap.size, 2, none⟩ = some (.int .i64 0) := (qk.cell (p := ⟨w.heap.size, 2, none⟩) (by first | (simp; done) | (simp; omega) | omega)).trans (by simp [go_sem, *]); have qw23 : w2.cell? ⟨w.heap.size, 3, none⟩ = some (.int .i64 0) := (qk.cell (p := ⟨w.heap.size, 3, none⟩) (by first | (simp; done) | (simp; omega) | omega)).trans (by simp [go_sem, *]); have qw24 : w2.cell? ⟨w.heap.size, 4, none⟩ = some (.int .i64 0) := (qk.cell (p := ⟨w.heap.size, 4, none⟩) (by first | (simp; done) | (simp; omega) | omega)).trans (by simp [go_sem, *]); have qw25 : w2.cell? ⟨w.heap.size, 5, none⟩ = some (.int .i64 0) := (qk.cell (p := ⟨w.heap.size, 5, none⟩) (by first | (simp; done) | (simp; omega) | omega)).trans (by simp [go_sem, *]); have qw26 : w2.cell? ⟨w.heap.size, 6, none⟩ = some (.int .i64 0) := (qk.cell (p := ⟨w.heap.size, 6, none⟩) (by first | (simp; done) | (simp; omega) | omega)).trans (by simp [go_sem, *]); have qw27 : w2.cell? ⟨w.heap.size, 7, none⟩ = some (.bool false) := (qk.cell (p := ⟨w.heap.size, 7, none⟩) (by first | (simp; done) | (simp; omega) | omega)).trans (by simp [go_sem, *]); have qw28 : w2.cell? ⟨w.heap.size, 8, none⟩ = some (.bool false) := (qk.cell (p := ⟨w.heap.size, 8, none⟩) (by first | (simp; done) | (simp; omega) | omega)).trans (by simp [go_sem, *]); have qw29 : w2.cell? ⟨w.heap.size, 9, none⟩ = some (.int .i64 0) := (qk.cell (p := ⟨w.heap.size, 9, none⟩) (by first | (simp; done) | (simp; omega) | omega)).trans (by simp [go_sem, *]); have qw210 : w2.cell? ⟨w.heap.size, 10, none⟩ = some (.int .u32 0) := (qk.cell (p := ⟨w.heap.size, 10, none⟩) (by first | (simp; done) | (simp; omega) | omega)).trans (by simp [go_sem, *]); have zw20 : w2.frozen? ⟨w.heap.size, 0, none⟩ = false := (qk.2 _).trans (by simp [go_sem, *]); have zw21 : w2.frozen? ⟨w.heap.size, 1, none⟩ = false := (qk.2 _).trans (by simp [go_sem, *]); have zw22 : w2.frozen? ⟨w.heap.size, 2, none⟩ = false := (qk.2 _).trans (by simp [go_sem, *]); have zw23 : w2.frozen? ⟨w.heap.size, 3, none⟩ = false := (qk.2 _).trans (by simp [go_sem, *]); have zw24 : w2.frozen? ⟨w.heap.size, 4, none⟩ = false := (qk.2 _).trans (by simp [go_sem, *]); have zw25 : w2.frozen? ⟨w.heap.size, 5, none⟩ = false := (qk.2 _).trans (by simp [go_sem, *]); have zw26 : w2.frozen? ⟨w.heap.size, 6, none⟩ = false := (qk.2 _).trans (by simp [go_sem, *]); have zw27 : w2.frozen? ⟨w.heap.size, 7, none⟩ = false := (qk.2 _).trans (by simp [go_sem, *]); have zw28 : w2.frozen? ⟨w.heap.size, 8, none⟩ = false := (qk.2 _).trans (by simp [go_sem, *]); have zw29 : w2.frozen? ⟨w.heap.size, 9, none⟩ = false := (qk.2 _).trans (by simp [go_sem, *]); have zw210 : w2.frozen? ⟨w.heap.size, 10, none⟩ = false := (qk.2 _).trans (by simp [go_sem, *]); have sz := qk.size; (try simp at sz); have KW := Lib.hid (Kp.trans (((Kp.refl w).allocs _ _).allocs _ _) qk); have ql0 : w.heap.size < w2.heap.size := (by omega); have ql1 : ¬ w.heap.size = w2.heap.size := (by omega); have ql2 : ¬ w2.heap.size = w.heap.size := (by omega); clear qk))
  refine bodyPost_ret (v := .tuple #[Ins.v ⟨op, fn, rd, r1, r2, imm, wid, wo, us⟩ 0 0, .bool (ok)]) (by simp [results, Tryd.results57, go_sem, Ins.v, *]) rfl ⟨RdP.mk ⟨op, fn, rd, r1, r2, imm, wid, wo, us⟩ (ok) rfl (HSw2.out), by (repeat' (first | with_reducible refine Kp.setCell ?_ ?_ _ | with_reducible refine Kp.allocs ?_ _ _ | with_reducible refine Kp.drew ?_ | with_reducible refine Kp.drewN ?_ _)); all_goals first | exact KW.out | (dsimp only; omega)⟩
set_option maxHeartbeats 4000000 in
theorem dcap_1 (x : Int) (x0 : 0 ≤ x) (x1 : x < 4294967296) (h : fl x 4096 8 = 1) (w : World) :
    Calls Tryd.prog 57 #[.int .u32 x] w fun e w' => RdP e (dsCap x) ∧ Kp w w' := by
  have brd := fl_bd x 128 32 (by omega)
  have bf3 := fl_bd x 4096 8 (by omega)
  have br1 := fl_bd x 32768 32 (by omega)
  have br2 := fl_bd x 1048576 32 (by omega)
  have bf7 := fl_bd x 33554432 128 (by omega)
  go_enter Tryd.func57, Tryd.ntmps57
  go_wp2_with (first | (go_at_call 51; with_reducible refine (drd_w x x0 x1 _).mono ?_; rintro e' w1 ⟨rfl, rfl⟩) | (go_at_call 52; with_reducible refine (drs1_w x x0 x1 _).mono ?_; rintro e' w1 ⟨rfl, rfl⟩) | (go_at_call 53; with_reducible refine (dimmI_w x x0 x1 _).mono ?_; rintro e' w1 ⟨rfl, rfl⟩) | (go_at_call 92; with_reducible refine (dfield_31_20 x x0 x1 _).mono ?_; rintro e' w1 ⟨rfl, rfl⟩) | (go_at_call 54; with_reducible refine (df3_w x x0 x1 _).mono ?_; rintro e' w1 ⟨rfl, rfl⟩; (try rw [h])))
  refine bodyPost_ret (v := .tuple #[Ins.v ⟨25, 1, (fl x 128 32), (fl x 32768 32), 0, iI x, 0, false, false⟩ 0 0, .bool (true)]) (by simp [results, Tryd.results57, go_sem, Ins.v, *]) rfl ⟨RdP.mk ⟨25, 1, (fl x 128 32), (fl x 32768 32), 0, iI x, 0, false, false⟩ (true) rfl (by simp [dsCap, h]), by (repeat' (first | with_reducible refine Kp.setCell ?_ ?_ _ | with_reducible refine Kp.allocs ?_ _ _ | with_reducible refine Kp.drew ?_ | with_reducible refine Kp.drewN ?_ _)); all_goals first | exact Kp.refl w | (dsimp only; omega)⟩
set_option maxHeartbeats 4000000 in
theorem dcap_2 (x : Int) (x0 : 0 ≤ x) (x1 : x < 4294967296) (h : fl x 4096 8 = 2) (w : World) :
    Calls Tryd.prog 57 #[.int .u32 x] w fun e w' => RdP e (dsCap x) ∧ Kp w w' := by
  have brd := fl_bd x 128 32 (by omega)
  have bf3 := fl_bd x 4096 8 (by omega)
  have br1 := fl_bd x 32768 32 (by omega)
  have br2 := fl_bd x 1048576 32 (by omega)
  have bf7 := fl_bd x 33554432 128 (by omega)
  go_enter Tryd.func57, Tryd.ntmps57
  go_wp2_with (first | (go_at_call 51; with_reducible refine (drd_w x x0 x1 _).mono ?_; rintro e' w1 ⟨rfl, rfl⟩) | (go_at_call 52; with_reducible refine (drs1_w x x0 x1 _).mono ?_; rintro e' w1 ⟨rfl, rfl⟩) | (go_at_call 53; with_reducible refine (dimmI_w x x0 x1 _).mono ?_; rintro e' w1 ⟨rfl, rfl⟩) | (go_at_call 92; with_reducible refine (dfield_31_20 x x0 x1 _).mono ?_; rintro e' w1 ⟨rfl, rfl⟩) | (go_at_call 54; with_reducible refine (df3_w x x0 x1 _).mono ?_; rintro e' w1 ⟨rfl, rfl⟩; (try rw [h])))
  refine bodyPost_ret (v := .tuple #[Ins.v ⟨25, 2, (fl x 128 32), (fl x 32768 32), 0, fl x 1048576 4096, 0, false, false⟩ 0 0, .bool (true)]) (by simp [results, Tryd.results57, go_sem, Ins.v, *]) rfl ⟨RdP.mk ⟨25, 2, (fl x 128 32), (fl x 32768 32), 0, fl x 1048576 4096, 0, false, false⟩ (true) rfl (by simp [dsCap, h]), by (repeat' (first | with_reducible refine Kp.setCell ?_ ?_ _ | with_reducible refine Kp.allocs ?_ _ _ | with_reducible refine Kp.drew ?_ | with_reducible refine Kp.drewN ?_ _)); all_goals first | exact Kp.refl w | (dsimp only; omega)⟩
set_option maxHeartbeats 4000000 in
theorem dcap_n (x : Int) (x0 : 0 ≤ x) (x1 : x < 4294967296) (h : 2 < fl x 4096 8) (w : World) :
    Calls Tryd.prog 57 #[.int .u32 x] w fun e w' => RdP e (dsCap x) ∧ Kp w w' := by
  have brd := fl_bd x 128 32 (by omega)
  have bf3 := fl_bd x 4096 8 (by omega)
  have br1 := fl_bd x 32768 32 (by omega)
  have br2 := fl_bd x 1048576 32 (by omega)
  have bf7 := fl_bd x 33554432 128 (by omega)
  have hs : dsCap x = none := by simp [dsCap, show ¬ fl x 4096 8 = 0 by omega, show ¬ fl x 4096 8 = 1 by omega, show ¬ fl x 4096 8 = 2 by omega]
  have t0 : (fl x 4096 8 == 0) = false := by simp; omega
  have t1 : (fl x 4096 8 == 1) = false := by simp; omega
  have t2 : (fl x 4096 8 == 2) = false := by simp; omega
  have HH := Lib.hid h
  clear h
  go_enter Tryd.func57, Tryd.ntmps57
  go_wp2_with (first | (go_at_call 51; with_reducible refine (drd_w x x0 x1 _).mono ?_; rintro e' w1 ⟨rfl, rfl⟩) | (go_at_call 52; with_reducible refine (drs1_w x x0 x1 _).mono ?_; rintro e' w1 ⟨rfl, rfl⟩) | (go_at_call 54; with_reducible refine (df3_w x x0 x1 _).mono ?_; rintro e' w1 ⟨rfl, rfl⟩))
  refine bodyPost_ret (v := .tuple #[Ins.v zIns 0 0, .bool (false)]) (by simp [results, Tryd.results57, go_sem, Ins.v, zIns, *]) rfl ⟨RdP.mk zIns (false) rfl (hs), by (repeat' (first | with_reducible refine Kp.setCell ?_ ?_ _ | with_reducible refine Kp.allocs ?_ _ _ | with_reducible refine Kp.drew ?_ | with_reducible refine Kp.drewN ?_ _)); all_goals first | exact Kp.refl w | (dsimp only; omega)⟩
theorem dcap_w (x : Int) (x0 : 0 ≤ x) (x1 : x < 4294967296) (w : World) :
    Calls Tryd.prog 57 #[.int .u32 x] w fun e w' => RdP e (dsCap x) ∧ Kp w w' := by
  have bf3 := fl_bd x 4096 8 (by omega)
  rcases (show fl x 4096 8 = 0 ∨ fl x 4096 8 = 1 ∨ fl x 4096 8 = 2 ∨ 2 < fl x 4096 8 by omega) with h | h | h | h
  · exact dcap_0 x x0 x1 h w
  · exact dcap_1 x x0 x1 h w
  · exact dcap_2 x x0 x1 h w
  · exact dcap_n x x0 x1 h w
set_option maxHeartbeats 4000000 in
theorem dread_15 (x : Int) (x0 : 0 ≤ x) (x1 : x < 4294967296) (h : fl x 1 128 = 15) (w : World) :
    Calls Tryd.prog 19 #[.int .u32 x] w fun e w' => RdP e (dspec x) ∧ Kp w w' := by
  have brd := fl_bd x 128 32 (by omega)
  have bf3 := fl_bd x 4096 8 (by omega)
  have br1 := fl_bd x 32768 32 (by omega)
  have br2 := fl_bd x 1048576 32 (by omega)
  have bf7 := fl_bd x 33554432 128 (by omega)
  go_enter Tryd.func19, Tryd.ntmps19
  go_wp2_with (first | (go_at_call 51; with_reducible refine (drd_w x x0 x1 _).mono ?_; rintro e' w1 ⟨rfl, rfl⟩) | (go_at_call 52; with_reducible refine (drs1_w x x0 x1 _).mono ?_; rintro e' w1 ⟨rfl, rfl⟩) | (go_at_call 55; with_reducible refine (drs2_w x x0 x1 _).mono ?_; rintro e' w1 ⟨rfl, rfl⟩) | (go_at_call 53; with_reducible refine (dimmI_w x x0 x1 _).mono ?_; rintro e' w1 ⟨rfl, rfl⟩) | (go_at_call 56; with_reducible refine (dimmS_w x x0 x1 _).mono ?_; rintro e' w1 ⟨rfl, rfl⟩) | (go_at_call 54; with_reducible refine (df3_w x x0 x1 _).mono ?_; rintro e' w1 ⟨rfl, rfl⟩) | (go_at_call 50; with_reducible refine (dop_w x x0 x1 _).mono ?_; rintro e' w1 ⟨rfl, rfl⟩; (try rw [h])))
  refine bodyPost_ret (v := .tuple #[Ins.v ⟨6, 0, (fl x 128 32), (fl x 32768 32), 0, iI x, 7, false, false⟩ 0 0, .bool (fl x 4096 8 == 2)]) (by simp [results, Tryd.results19, go_sem, Ins.v, *]) rfl ⟨RdP.mk ⟨6, 0, (fl x 128 32), (fl x 32768 32), 0, iI x, 7, false, false⟩ (fl x 4096 8 == 2) rfl (by by_cases g : fl x 4096 8 = 2 <;> simp [dspec, h, g]), by (repeat' (first | with_reducible refine Kp.setCell ?_ ?_ _ | with_reducible refine Kp.allocs ?_ _ _ | with_reducible refine Kp.drew ?_ | with_reducible refine Kp.drewN ?_ _)); all_goals first | exact Kp.refl w | (dsimp only; omega)⟩
set_option maxHeartbeats 4000000 in
theorem dread_35 (x : Int) (x0 : 0 ≤ x) (x1 : x < 4294967296) (h : fl x 1 128 = 35) (w : World) :
    Calls Tryd.prog 19 #[.int .u32 x] w fun e w' => RdP e (dspec x) ∧ Kp w w' := by
  have brd := fl_bd x 128 32 (by omega)
  have bf3 := fl_bd x 4096 8 (by omega)
  have br1 := fl_bd x 32768 32 (by omega)
  have br2 := fl_bd x 1048576 32 (by omega)
  have bf7 := fl_bd x 33554432 128 (by omega)
  go_enter Tryd.func19, Tryd.ntmps19
  go_wp2_with (first | (go_at_call 51; with_reducible refine (drd_w x x0 x1 _).mono ?_; rintro e' w1 ⟨rfl, rfl⟩) | (go_at_call 52; with_reducible refine (drs1_w x x0 x1 _).mono ?_; rintro e' w1 ⟨rfl, rfl⟩) | (go_at_call 55; with_reducible refine (drs2_w x x0 x1 _).mono ?_; rintro e' w1 ⟨rfl, rfl⟩) | (go_at_call 53; with_reducible refine (dimmI_w x x0 x1 _).mono ?_; rintro e' w1 ⟨rfl, rfl⟩) | (go_at_call 56; with_reducible refine (dimmS_w x x0 x1 _).mono ?_; rintro e' w1 ⟨rfl, rfl⟩) | (go_at_call 54; with_reducible refine (df3_w x x0 x1 _).mono ?_; rintro e' w1 ⟨rfl, rfl⟩) | (go_at_call 50; with_reducible refine (dop_w x x0 x1 _).mono ?_; rintro e' w1 ⟨rfl, rfl⟩; (try rw [h])))
  refine bodyPost_ret (v := .tuple #[Ins.v ⟨7, 0, 0, (fl x 32768 32), (fl x 1048576 32), iS x, 7, false, false⟩ 0 0, .bool (fl x 4096 8 == 4)]) (by simp [results, Tryd.results19, go_sem, Ins.v, *]) rfl ⟨RdP.mk ⟨7, 0, 0, (fl x 32768 32), (fl x 1048576 32), iS x, 7, false, false⟩ (fl x 4096 8 == 4) rfl (by by_cases g : fl x 4096 8 = 4 <;> simp [dspec, h, g]), by (repeat' (first | with_reducible refine Kp.setCell ?_ ?_ _ | with_reducible refine Kp.allocs ?_ _ _ | with_reducible refine Kp.drew ?_ | with_reducible refine Kp.drewN ?_ _)); all_goals first | exact Kp.refl w | (dsimp only; omega)⟩
set_option maxHeartbeats 4000000 in
theorem dread_91 (x : Int) (x0 : 0 ≤ x) (x1 : x < 4294967296) (h : fl x 1 128 = 91) (w : World) :
    Calls Tryd.prog 19 #[.int .u32 x] w fun e w' => RdP e (dspec x) ∧ Kp w w' := by
  have brd := fl_bd x 128 32 (by omega)
  have bf3 := fl_bd x 4096 8 (by omega)
  have br1 := fl_bd x 32768 32 (by omega)
  have br2 := fl_bd x 1048576 32 (by omega)
  have bf7 := fl_bd x 33554432 128 (by omega)
  have hr : dspec x = dsCap x := by simp [dspec, h]
  rw [hr]; clear hr
  go_enter Tryd.func19, Tryd.ntmps19
  go_wp2_with (first | (go_at_call 51; with_reducible refine (drd_w x x0 x1 _).mono ?_; rintro e' w1 ⟨rfl, rfl⟩) | (go_at_call 52; with_reducible refine (drs1_w x x0 x1 _).mono ?_; rintro e' w1 ⟨rfl, rfl⟩) | (go_at_call 55; with_reducible refine (drs2_w x x0 x1 _).mono ?_; rintro e' w1 ⟨rfl, rfl⟩) | (go_at_call 53; with_reducible refine (dimmI_w x x0 x1 _).mono ?_; rintro e' w1 ⟨rfl, rfl⟩) | (go_at_call 56; with_reducible refine (dimmS_w x x0 x1 _).mono ?_; rintro e' w1 ⟨rfl, rfl⟩) | (go_at_call 54; with_reducible refine (df3_w x x0 x1 _).mono ?_; rintro e' w1 ⟨rfl, rfl⟩) | (go_at_call 50; with_reducible refine (dop_w x x0 x1 _).mono ?_; rintro e' w1 ⟨rfl, rfl⟩; (try rw [h])) | (go_at_call 57; (with_reducible refine (dcap_w x x0 x1 _).mono ?_); rintro e' w2 ⟨⟨⟨op, fn, rd, r1, r2, imm, wid, wo, us⟩, ok, rfl, hs⟩, qk⟩; have HSw2 := Lib.hid hs; clear hs; dsimp only [Ins.v]; have HKw2 := Lib.hid qk; have qw20 : w2.cell? ⟨w.heap.size, 0, none⟩ = some (.int .i64 0) := (qk.cell (p := ⟨w.heap.size, 0, none⟩) (by first | (simp; done) | (simp; omega) | omega)).trans (by simp [go_sem, *]); have qw21 : w2.cell? ⟨w.heap.size, 1, none⟩ = some (.int .i64 0) := (qk.cell (p := ⟨w.heap.size, 1, none⟩) (by first | (simp; done) | (simp; omega) | omega)).trans (by simp [go_sem, *]); have qw22 : w2.cell? ⟨w.heap.size, 2, none⟩ = some (.int .i64 0) := (qk.cell (p := ⟨w.heap.size, 2, none⟩) (by first | (simp; done) | (simp; omega) | omega)).trans (by simp [go_sem, *]); have qw23 : w2.cell? ⟨w.heap.size, 3, none⟩ = some (.int .i64 0) := (qk.cell (p := ⟨w.heap.size, 3, none⟩) (by first | (simp; done) | (simp; omega) | omega)).trans (by simp [go_sem, *]); have qw24 : w2.cell? ⟨w.heap.size, 4, none⟩ = some (.int .i64 0) := (qk.cell (p := ⟨w.heap.size, 4, none⟩) (by first | (simp; done) | (simp; omega) | omega)).trans (by simp [go_sem, *]); have qw25 : w2.cell? ⟨w.heap.size, 5, none⟩ = some (.int .i64 0) := (qk.cell (p := ⟨w.heap.size, 5, none⟩) (by first | (simp; done) | (simp; omega) | omega)).trans (by simp [go_sem, *]); have qw26 : w2.cell? ⟨w.heap.size, 6, none⟩ = some (.int .i64 0) := (qk.cell (p := ⟨w.heap.size, 6, none⟩) (by first | (simp; done) | (simp; omega) | omega)).trans (by simp [go_sem, *]); have qw27 : w2.cell? ⟨w.heap.size, 7, none⟩ = some (.bool false) := (qk.cell (p := ⟨w.heap.size, 7, none⟩) (by first | (simp; done) | (simp; omega) | omega)).trans (by simp [go_sem, *]); have qw28 : w2.cell? ⟨w.heap.size, 8, none⟩ = some (.bool false) := (qk.cell (p := ⟨w.heap.size, 8, none⟩) (by first | (simp; done) | (simp; omega) | omega)).trans (by simp [go_sem, *]); have qw29 : w2.cell? ⟨w.heap.size, 9, none⟩ = some (.int .i64 0) := (qk.cell (p := ⟨w.heap.size, 9, none⟩) (by first | (simp; done) | (simp; omega) | omega)).trans (by simp [go_sem, *]); have qw210 : w2.cell? ⟨w.heap.size, 10, none⟩ = some (.int .u32 0) := (qk.cell (p := ⟨w.heap.size, 10, none⟩) (by first | (simp; done) | (simp; omega) | omega)).trans (by simp [go_sem, *]); have zw20 : w2.frozen? ⟨w.heap.size, 0, none⟩ = false := (qk.2 _).trans (by simp [go_sem, *]); have zw21 : w2.frozen? ⟨w.heap.size, 1, none⟩ = false := (qk.2 _).trans (by simp [go_sem, *]); have zw22 : w2.frozen? ⟨w.heap.size, 2, none⟩ = false := (qk.2 _).trans (by simp [go_sem, *]); have zw23 : w2.frozen? ⟨w.heap.size, 3, none⟩ = false := (qk.2 _).trans (by simp [go_sem, *]); have zw24 : w2.frozen? ⟨w.heap.size, 4, none⟩ = false := (qk.2 _).trans (by simp [go_sem, *]); have zw25 : w2.frozen? ⟨w.heap.size, 5, none⟩ = false := (qk.2 _).trans (by simp [go_sem, *]); have zw26 : w2.frozen? ⟨w.heap.size, 6, none⟩ = false := (qk.2 _).trans (by simp [go_sem, *]); have zw27 : w2.frozen? ⟨w.heap.size, 7, none⟩ = false := (qk.2 _).trans (by simp [go_sem, *]); have zw28 : w2.frozen? ⟨w.heap.size, 8, none⟩ = false := (qk.2 _).trans (by simp [go_sem, *]); have zw29 : w2.frozen? ⟨w.heap.size, 9, none⟩ = false := (qk.2 _).trans (by simp [go_sem, *]); have zw210 : w2.frozen? ⟨w.heap.size, 10, none⟩ = false := (qk.2 _).trans (by simp [go_sem, *]); have sz := qk.size; (try simp at sz); have KW := Lib.hid (Kp.trans ((Kp.refl w).allocs _ _) qk); have ql0 : w.heap.size < w2.heap.size := (by omega); have ql1 : ¬ w.heap.size = w2.heap.size := (by omega); have ql2 : ¬ w2.heap.size = w.heap.size := (by omega); clear qk))
  refine bodyPost_ret (v := .tuple #[Ins.v ⟨op, fn, rd, r1, r2, imm, wid, wo, us⟩ 0 0, .bool (ok)]) (by simp [results, Tryd.results19, go_sem, Ins.v, *]) rfl ⟨RdP.mk ⟨op, fn, rd, r1, r2, imm, wid, wo, us⟩ (ok) rfl (HSw2.out), by (repeat' (first | with_reducible refine Kp.setCell ?_ ?_ _ | with_reducible refine Kp.allocs ?_ _ _ | with_reducible refine Kp.drew ?_ | with_reducible refine Kp.drewN ?_ _)); all_goals first | exact KW.out | (dsimp only; omega)⟩
set_option maxHeartbeats 4000000 in
theorem dread_n (x : Int) (x0 : 0 ≤ x) (x1 : x < 4294967296) (h : ¬ fl x 1 128 = 15 ∧ ¬ fl x 1 128 = 35 ∧ ¬ fl x 1 128 = 91) (w : World) :
    Calls Tryd.prog 19 #[.int .u32 x] w fun e w' => RdP e (dspec x) ∧ Kp w w' := by
  have brd := fl_bd x 128 32 (by omega)
  have bf3 := fl_bd x 4096 8 (by omega)
  have br1 := fl_bd x 32768 32 (by omega)
  have br2 := fl_bd x 1048576 32 (by omega)
  have bf7 := fl_bd x 33554432 128 (by omega)
  have hs : dspec x = none := by simp [dspec, h]
  have t0 : (fl x 1 128 == 15) = false := by simp; omega
  have t1 : (fl x 1 128 == 35) = false := by simp; omega
  have t2 : (fl x 1 128 == 91) = false := by simp; omega
  clear h
  go_enter Tryd.func19, Tryd.ntmps19
  go_wp2_with (first | (go_at_call 50; with_reducible refine (dop_w x x0 x1 _).mono ?_; rintro e' w1 ⟨rfl, rfl⟩))
  refine bodyPost_ret (v := .tuple #[Ins.v zIns 0 0, .bool (false)]) (by simp [results, Tryd.results19, go_sem, Ins.v, zIns, *]) rfl ⟨RdP.mk zIns (false) rfl (hs), by (repeat' (first | with_reducible refine Kp.setCell ?_ ?_ _ | with_reducible refine Kp.allocs ?_ _ _ | with_reducible refine Kp.drew ?_ | with_reducible refine Kp.drewN ?_ _)); all_goals first | exact Kp.refl w | (dsimp only; omega)⟩
theorem dread_w (x : Int) (x0 : 0 ≤ x) (x1 : x < 4294967296) (w : World) :
    Calls Tryd.prog 19 #[.int .u32 x] w fun e w' => RdP e (dspec x) ∧ Kp w w' := by
  by_cases h1 : fl x 1 128 = 15
  · exact dread_15 x x0 x1 h1 w
  by_cases h2 : fl x 1 128 = 35
  · exact dread_35 x x0 x1 h2 w
  by_cases h3 : fl x 1 128 = 91
  · exact dread_91 x x0 x1 h3 w
  · exact dread_n x x0 x1 ⟨h1, h2, h3⟩ w
/-- What Decode returns of the word x, where the document says o. -/
def ddV (o : Option Ins) (x : Int) : Value := match o with
  | none => .tuple #[zIns.v 0 0, .bool false]
  | some i => .tuple #[i.v 4 x, .bool true]
set_option maxHeartbeats 4000000 in
theorem ddec_w (x : Int) (x0 : 0 ≤ x) (x1 : x < 4294967296) (w : World) :
    Calls Tryd.prog 11 #[.int .u32 x] w fun e w' => e = .returned (ddV (dspec x) x) ∧ Kp w w' := by
  go_enter Tryd.func11, Tryd.ntmps11
  go_wp2_with (first | (go_at_call 19; (with_reducible refine (dread_w x x0 x1 _).mono ?_); rintro e' w2 ⟨⟨⟨op, fn, rd, r1, r2, imm, wid, wo, us⟩, ok, rfl, hs⟩, qk⟩; have HSw2 := Lib.hid hs; clear hs; dsimp only [Ins.v]; have HKw2 := Lib.hid qk; have qw20 : w2.cell? ⟨w.heap.size, 0, none⟩ = some (.int .i64 0) := (qk.cell (p := ⟨w.heap.size, 0, none⟩) (by first | (simp; done) | (simp; omega) | omega)).trans (by simp [go_sem, *]); have qw21 : w2.cell? ⟨w.heap.size, 1, none⟩ = some (.int .i64 0) := (qk.cell (p := ⟨w.heap.size, 1, none⟩) (by first | (simp; done) | (simp; omega) | omega)).trans (by simp [go_sem, *]); have qw22 : w2.cell? ⟨w.heap.size, 2, none⟩ = some (.int .i64 0) := (qk.cell (p := ⟨w.heap.size, 2, none⟩) (by first | (simp; done) | (simp; omega) | omega)).trans (by simp [go_sem, *]); have qw23 : w2.cell? ⟨w.heap.size, 3, none⟩ = some (.int .i64 0) := (qk.cell (p := ⟨w.heap.size, 3, none⟩) (by first | (simp; done) | (simp; omega) | omega)).trans (by simp [go_sem, *]); have qw24 : w2.cell? ⟨w.heap.size, 4, none⟩ = some (.int .i64 0) := (qk.cell (p := ⟨w.heap.size, 4, none⟩) (by first | (simp; done) | (simp; omega) | omega)).trans (by simp [go_sem, *]); have qw25 : w2.cell? ⟨w.heap.size, 5, none⟩ = some (.int .i64 0) := (qk.cell (p := ⟨w.heap.size, 5, none⟩) (by first | (simp; done) | (simp; omega) | omega)).trans (by simp [go_sem, *]); have qw26 : w2.cell? ⟨w.heap.size, 6, none⟩ = some (.int .i64 0) := (qk.cell (p := ⟨w.heap.size, 6, none⟩) (by first | (simp; done) | (simp; omega) | omega)).trans (by simp [go_sem, *]); have qw27 : w2.cell? ⟨w.heap.size, 7, none⟩ = some (.bool false) := (qk.cell (p := ⟨w.heap.size, 7, none⟩) (by first | (simp; done) | (simp; omega) | omega)).trans (by simp [go_sem, *]); have qw28 : w2.cell? ⟨w.heap.size, 8, none⟩ = some (.bool false) := (qk.cell (p := ⟨w.heap.size, 8, none⟩) (by first | (simp; done) | (simp; omega) | omega)).trans (by simp [go_sem, *]); have qw29 : w2.cell? ⟨w.heap.size, 9, none⟩ = some (.int .i64 0) := (qk.cell (p := ⟨w.heap.size, 9, none⟩) (by first | (simp; done) | (simp; omega) | omega)).trans (by simp [go_sem, *]); have qw210 : w2.cell? ⟨w.heap.size, 10, none⟩ = some (.int .u32 0) := (qk.cell (p := ⟨w.heap.size, 10, none⟩) (by first | (simp; done) | (simp; omega) | omega)).trans (by simp [go_sem, *]); have zw20 : w2.frozen? ⟨w.heap.size, 0, none⟩ = false := (qk.2 _).trans (by simp [go_sem, *]); have zw21 : w2.frozen? ⟨w.heap.size, 1, none⟩ = false := (qk.2 _).trans (by simp [go_sem, *]); have zw22 : w2.frozen? ⟨w.heap.size, 2, none⟩ = false := (qk.2 _).trans (by simp [go_sem, *]); have zw23 : w2.frozen? ⟨w.heap.size, 3, none⟩ = false := (qk.2 _).trans (by simp [go_sem, *]); have zw24 : w2.frozen? ⟨w.heap.size, 4, none⟩ = false := (qk.2 _).trans (by simp [go_sem, *]); have zw25 : w2.frozen? ⟨w.heap.size, 5, none⟩ = false := (qk.2 _).trans (by simp [go_sem, *]); have zw26 : w2.frozen? ⟨w.heap.size, 6, none⟩ = false := (qk.2 _).trans (by simp [go_sem, *]); have zw27 : w2.frozen? ⟨w.heap.size, 7, none⟩ = false := (qk.2 _).trans (by simp [go_sem, *]); have zw28 : w2.frozen? ⟨w.heap.size, 8, none⟩ = false := (qk.2 _).trans (by simp [go_sem, *]); have zw29 : w2.frozen? ⟨w.heap.size, 9, none⟩ = false := (qk.2 _).trans (by simp [go_sem, *]); have zw210 : w2.frozen? ⟨w.heap.size, 10, none⟩ = false := (qk.2 _).trans (by simp [go_sem, *]); have sz := qk.size; (try simp at sz); have KW := Lib.hid (Kp.trans ((Kp.refl w).allocs _ _) qk); have ql0 : w.heap.size < w2.heap.size := (by omega); have ql1 : ¬ w.heap.size = w2.heap.size := (by omega); have ql2 : ¬ w2.heap.size = w.heap.size := (by omega); cases ok; clear qk))
  all_goals
    have hs := HSw2.out
    simp only [if_true, Bool.false_eq_true, if_false] at hs
    rw [hs]
    dsimp only [ddV, Ins.v, zIns]
    refine bodyPost_ret ?_ rfl ⟨rfl, by (repeat' (first | with_reducible refine Kp.setCell ?_ ?_ _ | with_reducible refine Kp.allocs ?_ _ _ | with_reducible refine Kp.drew ?_ | with_reducible refine Kp.drewN ?_ _)); all_goals first | exact KW.out | (dsimp only; omega)⟩
    simp [results, Tryd.results11, go_sem, *]
theorem ddec_at (x : Int) (x0 : 0 ≤ x) (x1 : x < 4294967296) (o : Option Ins) (ho : dspec x = o) (w : World) :
    Calls Tryd.prog 11 #[.int .u32 x] w fun e w' => e = .returned (ddV o x) ∧ Kp w w' := by subst ho; exact ddec_w x x0 x1 w
end Go.Proofs.YtlfeandnpflaaaaDoor
