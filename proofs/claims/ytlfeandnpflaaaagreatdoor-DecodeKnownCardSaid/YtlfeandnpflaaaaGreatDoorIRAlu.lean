/-
  Contracts of the document's readers for layer 7. No condition.
-/
import Derived.Test.YtlfeandnpflaaaaGreatDoorMB
namespace Go.Proofs.YtlfeandnpflaaaaGreatDoor
open Go.ChangeShapes Go.WideShapes Go.ChangeAt Go.RowKit
set_option linter.unusedVariables false
set_option linter.unusedSimpArgs false

/-- What one of the document's readers returns of the word x, where it says s. -/
def RdQ (e : Ending) (x : Int) (s : Option Ins) : Prop := ∃ i len raw ok, e = .returned (.tuple #[Ins.v i len raw, .bool ok]) ∧ s = (if ok then some i else none) ∧ (ok = true → len = 4 ∧ raw = x)
theorem RdQ.mk (i : Ins) (len raw : Int) (ok : Bool) {v : Value} {x : Int} {s : Option Ins} (hv : v = .tuple #[i.v len raw, .bool ok]) (hs : s = (if ok then some i else none)) (hl : ok = true → len = 4 ∧ raw = x) : RdQ (.returned v) x s := ⟨i, len, raw, ok, by rw [hv], hs, hl⟩
/-- Of 64 bits, or of 32. -/
def narI (word : Bool) (o : Option Ins) : Option Ins := if word then nar o else o
set_option maxHeartbeats 2000000 in
theorem rfields_w (x op : Int) (x0 : 0 ≤ x) (x1 : x < 4294967296) (w : World) :
    Calls Tryz.prog 93 #[.int .u32 x, .int .i64 op] w fun e w' => e = .returned (.agg #[.int .i64 op, .int .i64 ((fl x 4096 8)), .int .i64 ((fl x 128 32)), .int .i64 ((fl x 32768 32)), .int .i64 ((fl x 1048576 32)), .int .i64 0, .int .i64 0, .bool false, .bool false, .int .i64 4, .int .u32 x]) ∧ Kp w w' := by
  have brd := fl_bd x 128 32 (by omega)
  have bf3 := fl_bd x 4096 8 (by omega)
  have br1 := fl_bd x 32768 32 (by omega)
  have br2 := fl_bd x 1048576 32 (by omega)
  have bf7 := fl_bd x 33554432 128 (by omega)
  go_enter Tryz.func93, Tryz.ntmps93
  go_wp2_with (first | (go_at_call 34; with_reducible refine (rf_14_12 x x0 x1 _).mono ?_; rintro e' w1 ⟨rfl, rfl⟩) | (go_at_call 34; with_reducible refine (rf_11_7 x x0 x1 _).mono ?_; rintro e' w1 ⟨rfl, rfl⟩) | (go_at_call 34; with_reducible refine (rf_19_15 x x0 x1 _).mono ?_; rintro e' w1 ⟨rfl, rfl⟩) | (go_at_call 34; with_reducible refine (rf_24_20 x x0 x1 _).mono ?_; rintro e' w1 ⟨rfl, rfl⟩))
  refine bodyPost_ret ?_ rfl ⟨rfl, by (repeat' (first | with_reducible refine Kp.setCell ?_ ?_ _ | with_reducible refine Kp.allocs ?_ _ _ | with_reducible refine Kp.drew ?_ | with_reducible refine Kp.drewN ?_ _)); all_goals first | exact Kp.refl w | (dsimp only; omega)⟩
  simp [results, Tryz.results93, go_sem]
set_option maxHeartbeats 4000000 in
theorem ralu_n (x : Int) (x0 : 0 ≤ x) (x1 : x < 4294967296) (w : World) :
    Calls Tryz.prog 38 #[.int .u32 x, .bool false] w fun e w' => RdQ e x (narI false (spAlu x)) ∧ Kp w w' := by
  have brd := fl_bd x 128 32 (by omega)
  have bf3 := fl_bd x 4096 8 (by omega)
  have br1 := fl_bd x 32768 32 (by omega)
  have br2 := fl_bd x 1048576 32 (by omega)
  have bf7 := fl_bd x 33554432 128 (by omega)
  rcases (show fl x 33554432 128 = 1 ∨ fl x 33554432 128 = 0 ∨ fl x 33554432 128 = 32 ∧ fl x 4096 8 = 0 ∨ fl x 33554432 128 = 32 ∧ fl x 4096 8 = 5 ∨ fl x 33554432 128 = 32 ∧ ¬ fl x 4096 8 = 0 ∧ ¬ fl x 4096 8 = 5 ∨ (¬ fl x 33554432 128 = 0 ∧ ¬ fl x 33554432 128 = 1 ∧ ¬ fl x 33554432 128 = 32) by omega) with h | h | ⟨h, h2⟩ | ⟨h, h2⟩ | ⟨h, h2⟩ | h
  · have t0 : (fl x 33554432 128 == 1) = true := by simp; omega
    have Hh := Lib.hid h
    clear h
    go_enter Tryz.func38, Tryz.ntmps38
    go_wp2_with (first | (go_at_call 93; (with_reducible refine (rfields_w x 9 x0 x1 _).mono ?_); rintro e' w1 ⟨rfl, qk⟩; have HKw1 := Lib.hid qk; obtain ⟨qw10, qw11, qw12, qw13, qw14, qw15, qw16, qw17, qw18, qw19, qw110⟩ := qk.c11 (b := w.heap.size) (.int .i64 0) (.int .i64 0) (.int .i64 0) (.int .i64 0) (.int .i64 0) (.int .i64 0) (.int .i64 0) (.bool false) (.bool false) (.int .i64 0) (.int .u32 0); obtain ⟨zw10, zw11, zw12, zw13, zw14, zw15, zw16, zw17, zw18, zw19, zw110⟩ := qk.z11 (b := w.heap.size); have sz := qk.size; (try simp at sz); have KW := Lib.hid (Kp.trans ((Kp.refl w).allocs _ _) qk); have ql0 : w.heap.size < w1.heap.size := (by omega); have ql1 : ¬ w.heap.size = w1.heap.size := (by omega); have ql2 : ¬ w1.heap.size = w.heap.size := (by omega); clear qk) | (go_at_call 34; with_reducible refine (rf_31_25 x x0 x1 _).mono ?_; rintro e' w1 ⟨rfl, rfl⟩))
    refine bodyPost_ret (v := .tuple #[Ins.v ⟨10, (fl x 4096 8), (fl x 128 32), (fl x 32768 32), (fl x 1048576 32), 0, 0, false, false⟩ 4 x, .bool (true)]) (by simp [results, Tryz.results38, go_sem, Ins.v, *]) rfl ⟨RdQ.mk ⟨10, (fl x 4096 8), (fl x 128 32), (fl x 32768 32), (fl x 1048576 32), 0, 0, false, false⟩ 4 x (true) rfl (by have h := Hh.out; simp [narI, spAlu, h]) (fun _ => ⟨rfl, rfl⟩), by (repeat' (first | with_reducible refine Kp.setCell ?_ ?_ _ | with_reducible refine Kp.allocs ?_ _ _ | with_reducible refine Kp.drew ?_ | with_reducible refine Kp.drewN ?_ _)); all_goals first | exact KW.out | (dsimp only; omega)⟩
  · have t0 : (fl x 33554432 128 == 1) = false := by simp; omega
    have t1 : (fl x 33554432 128 == 0) = true := by simp; omega
    have Hh := Lib.hid h
    clear h
    go_enter Tryz.func38, Tryz.ntmps38
    go_wp2_with (first | (go_at_call 93; (with_reducible refine (rfields_w x 9 x0 x1 _).mono ?_); rintro e' w1 ⟨rfl, qk⟩; have HKw1 := Lib.hid qk; obtain ⟨qw10, qw11, qw12, qw13, qw14, qw15, qw16, qw17, qw18, qw19, qw110⟩ := qk.c11 (b := w.heap.size) (.int .i64 0) (.int .i64 0) (.int .i64 0) (.int .i64 0) (.int .i64 0) (.int .i64 0) (.int .i64 0) (.bool false) (.bool false) (.int .i64 0) (.int .u32 0); obtain ⟨zw10, zw11, zw12, zw13, zw14, zw15, zw16, zw17, zw18, zw19, zw110⟩ := qk.z11 (b := w.heap.size); have sz := qk.size; (try simp at sz); have KW := Lib.hid (Kp.trans ((Kp.refl w).allocs _ _) qk); have ql0 : w.heap.size < w1.heap.size := (by omega); have ql1 : ¬ w.heap.size = w1.heap.size := (by omega); have ql2 : ¬ w1.heap.size = w.heap.size := (by omega); clear qk) | (go_at_call 34; with_reducible refine (rf_31_25 x x0 x1 _).mono ?_; rintro e' w1 ⟨rfl, rfl⟩))
    refine bodyPost_ret (v := .tuple #[Ins.v ⟨9, (fl x 4096 8), (fl x 128 32), (fl x 32768 32), (fl x 1048576 32), 0, 0, false, false⟩ 4 x, .bool (true)]) (by simp [results, Tryz.results38, go_sem, Ins.v, *]) rfl ⟨RdQ.mk ⟨9, (fl x 4096 8), (fl x 128 32), (fl x 32768 32), (fl x 1048576 32), 0, 0, false, false⟩ 4 x (true) rfl (by have h := Hh.out; simp [narI, spAlu, h]) (fun _ => ⟨rfl, rfl⟩), by (repeat' (first | with_reducible refine Kp.setCell ?_ ?_ _ | with_reducible refine Kp.allocs ?_ _ _ | with_reducible refine Kp.drew ?_ | with_reducible refine Kp.drewN ?_ _)); all_goals first | exact KW.out | (dsimp only; omega)⟩
  · have t0 : (fl x 33554432 128 == 1) = false := by simp; omega
    have t1 : (fl x 33554432 128 == 0) = false := by simp; omega
    have t2 : (fl x 33554432 128 == 32) = true := by simp; omega
    have t3 : (fl x 4096 8 == 0) = true := by simp; omega
    have Hh := Lib.hid h
    have Hh2 := Lib.hid h2
    clear h h2
    go_enter Tryz.func38, Tryz.ntmps38
    go_wp2_with (first | (go_at_call 93; (with_reducible refine (rfields_w x 9 x0 x1 _).mono ?_); rintro e' w1 ⟨rfl, qk⟩; have HKw1 := Lib.hid qk; obtain ⟨qw10, qw11, qw12, qw13, qw14, qw15, qw16, qw17, qw18, qw19, qw110⟩ := qk.c11 (b := w.heap.size) (.int .i64 0) (.int .i64 0) (.int .i64 0) (.int .i64 0) (.int .i64 0) (.int .i64 0) (.int .i64 0) (.bool false) (.bool false) (.int .i64 0) (.int .u32 0); obtain ⟨zw10, zw11, zw12, zw13, zw14, zw15, zw16, zw17, zw18, zw19, zw110⟩ := qk.z11 (b := w.heap.size); have sz := qk.size; (try simp at sz); have KW := Lib.hid (Kp.trans ((Kp.refl w).allocs _ _) qk); have ql0 : w.heap.size < w1.heap.size := (by omega); have ql1 : ¬ w.heap.size = w1.heap.size := (by omega); have ql2 : ¬ w1.heap.size = w.heap.size := (by omega); clear qk) | (go_at_call 34; with_reducible refine (rf_31_25 x x0 x1 _).mono ?_; rintro e' w1 ⟨rfl, rfl⟩))
    refine bodyPost_ret (v := .tuple #[Ins.v ⟨9, 8, (fl x 128 32), (fl x 32768 32), (fl x 1048576 32), 0, 0, false, false⟩ 4 x, .bool (true)]) (by simp [results, Tryz.results38, go_sem, Ins.v, *]) rfl ⟨RdQ.mk ⟨9, 8, (fl x 128 32), (fl x 32768 32), (fl x 1048576 32), 0, 0, false, false⟩ 4 x (true) rfl (by have h := Hh.out; have h2 := Hh2.out; simp [narI, nar, narB, shiftB, spAlu, h, h2]) (fun _ => ⟨rfl, rfl⟩), by (repeat' (first | with_reducible refine Kp.setCell ?_ ?_ _ | with_reducible refine Kp.allocs ?_ _ _ | with_reducible refine Kp.drew ?_ | with_reducible refine Kp.drewN ?_ _)); all_goals first | exact KW.out | (dsimp only; omega)⟩
  · have t0 : (fl x 33554432 128 == 1) = false := by simp; omega
    have t1 : (fl x 33554432 128 == 0) = false := by simp; omega
    have t2 : (fl x 33554432 128 == 32) = true := by simp; omega
    have t3 : (fl x 4096 8 == 0) = false := by simp; omega
    have t4 : (fl x 4096 8 == 5) = true := by simp; omega
    have Hh := Lib.hid h
    have Hh2 := Lib.hid h2
    clear h h2
    go_enter Tryz.func38, Tryz.ntmps38
    go_wp2_with (first | (go_at_call 93; (with_reducible refine (rfields_w x 9 x0 x1 _).mono ?_); rintro e' w1 ⟨rfl, qk⟩; have HKw1 := Lib.hid qk; obtain ⟨qw10, qw11, qw12, qw13, qw14, qw15, qw16, qw17, qw18, qw19, qw110⟩ := qk.c11 (b := w.heap.size) (.int .i64 0) (.int .i64 0) (.int .i64 0) (.int .i64 0) (.int .i64 0) (.int .i64 0) (.int .i64 0) (.bool false) (.bool false) (.int .i64 0) (.int .u32 0); obtain ⟨zw10, zw11, zw12, zw13, zw14, zw15, zw16, zw17, zw18, zw19, zw110⟩ := qk.z11 (b := w.heap.size); have sz := qk.size; (try simp at sz); have KW := Lib.hid (Kp.trans ((Kp.refl w).allocs _ _) qk); have ql0 : w.heap.size < w1.heap.size := (by omega); have ql1 : ¬ w.heap.size = w1.heap.size := (by omega); have ql2 : ¬ w1.heap.size = w.heap.size := (by omega); clear qk) | (go_at_call 34; with_reducible refine (rf_31_25 x x0 x1 _).mono ?_; rintro e' w1 ⟨rfl, rfl⟩))
    refine bodyPost_ret (v := .tuple #[Ins.v ⟨9, 9, (fl x 128 32), (fl x 32768 32), (fl x 1048576 32), 0, 0, false, false⟩ 4 x, .bool (true)]) (by simp [results, Tryz.results38, go_sem, Ins.v, *]) rfl ⟨RdQ.mk ⟨9, 9, (fl x 128 32), (fl x 32768 32), (fl x 1048576 32), 0, 0, false, false⟩ 4 x (true) rfl (by have h := Hh.out; have h2 := Hh2.out; simp [narI, nar, narB, shiftB, spAlu, h, h2]) (fun _ => ⟨rfl, rfl⟩), by (repeat' (first | with_reducible refine Kp.setCell ?_ ?_ _ | with_reducible refine Kp.allocs ?_ _ _ | with_reducible refine Kp.drew ?_ | with_reducible refine Kp.drewN ?_ _)); all_goals first | exact KW.out | (dsimp only; omega)⟩
  · have t0 : (fl x 33554432 128 == 1) = false := by simp; omega
    have t1 : (fl x 33554432 128 == 0) = false := by simp; omega
    have t2 : (fl x 33554432 128 == 32) = true := by simp; omega
    have t3 : (fl x 4096 8 == 0) = false := by simp; omega
    have t4 : (fl x 4096 8 == 5) = false := by simp; omega
    have Hh := Lib.hid h
    have Hh2 := Lib.hid h2
    clear h h2
    go_enter Tryz.func38, Tryz.ntmps38
    go_wp2_with (first | (go_at_call 93; (with_reducible refine (rfields_w x 9 x0 x1 _).mono ?_); rintro e' w1 ⟨rfl, qk⟩; have HKw1 := Lib.hid qk; obtain ⟨qw10, qw11, qw12, qw13, qw14, qw15, qw16, qw17, qw18, qw19, qw110⟩ := qk.c11 (b := w.heap.size) (.int .i64 0) (.int .i64 0) (.int .i64 0) (.int .i64 0) (.int .i64 0) (.int .i64 0) (.int .i64 0) (.bool false) (.bool false) (.int .i64 0) (.int .u32 0); obtain ⟨zw10, zw11, zw12, zw13, zw14, zw15, zw16, zw17, zw18, zw19, zw110⟩ := qk.z11 (b := w.heap.size); have sz := qk.size; (try simp at sz); have KW := Lib.hid (Kp.trans ((Kp.refl w).allocs _ _) qk); have ql0 : w.heap.size < w1.heap.size := (by omega); have ql1 : ¬ w.heap.size = w1.heap.size := (by omega); have ql2 : ¬ w1.heap.size = w.heap.size := (by omega); clear qk) | (go_at_call 34; with_reducible refine (rf_31_25 x x0 x1 _).mono ?_; rintro e' w1 ⟨rfl, rfl⟩))
    refine bodyPost_ret (v := .tuple #[Ins.v zIns 0 0, .bool (false)]) (by simp [results, Tryz.results38, go_sem, Ins.v, zIns, *]) rfl ⟨RdQ.mk zIns 0 0 (false) rfl (by have h := Hh.out; have h2 := Hh2.out; simp [narI, nar, narB, shiftB, spAlu, h, h2]) (fun h => by cases h), by (repeat' (first | with_reducible refine Kp.setCell ?_ ?_ _ | with_reducible refine Kp.allocs ?_ _ _ | with_reducible refine Kp.drew ?_ | with_reducible refine Kp.drewN ?_ _)); all_goals first | exact KW.out | (dsimp only; omega)⟩
  · have t0 : (fl x 33554432 128 == 1) = false := by simp; omega
    have t1 : (fl x 33554432 128 == 0) = false := by simp; omega
    have t2 : (fl x 33554432 128 == 32) = false := by simp; omega
    have Hh := Lib.hid h
    clear h
    go_enter Tryz.func38, Tryz.ntmps38
    go_wp2_with (first | (go_at_call 93; (with_reducible refine (rfields_w x 9 x0 x1 _).mono ?_); rintro e' w1 ⟨rfl, qk⟩; have HKw1 := Lib.hid qk; obtain ⟨qw10, qw11, qw12, qw13, qw14, qw15, qw16, qw17, qw18, qw19, qw110⟩ := qk.c11 (b := w.heap.size) (.int .i64 0) (.int .i64 0) (.int .i64 0) (.int .i64 0) (.int .i64 0) (.int .i64 0) (.int .i64 0) (.bool false) (.bool false) (.int .i64 0) (.int .u32 0); obtain ⟨zw10, zw11, zw12, zw13, zw14, zw15, zw16, zw17, zw18, zw19, zw110⟩ := qk.z11 (b := w.heap.size); have sz := qk.size; (try simp at sz); have KW := Lib.hid (Kp.trans ((Kp.refl w).allocs _ _) qk); have ql0 : w.heap.size < w1.heap.size := (by omega); have ql1 : ¬ w.heap.size = w1.heap.size := (by omega); have ql2 : ¬ w1.heap.size = w.heap.size := (by omega); clear qk) | (go_at_call 34; with_reducible refine (rf_31_25 x x0 x1 _).mono ?_; rintro e' w1 ⟨rfl, rfl⟩))
    refine bodyPost_ret (v := .tuple #[Ins.v zIns 0 0, .bool (false)]) (by simp [results, Tryz.results38, go_sem, Ins.v, zIns, *]) rfl ⟨RdQ.mk zIns 0 0 (false) rfl (by have h := Hh.out; simp [narI, nar, narB, shiftB, spAlu, h]) (fun h => by cases h), by (repeat' (first | with_reducible refine Kp.setCell ?_ ?_ _ | with_reducible refine Kp.allocs ?_ _ _ | with_reducible refine Kp.drew ?_ | with_reducible refine Kp.drewN ?_ _)); all_goals first | exact KW.out | (dsimp only; omega)⟩
set_option maxHeartbeats 4000000 in
theorem ralu_w (x : Int) (x0 : 0 ≤ x) (x1 : x < 4294967296) (w : World) :
    Calls Tryz.prog 38 #[.int .u32 x, .bool true] w fun e w' => RdQ e x (narI true (spAlu x)) ∧ Kp w w' := by
  have brd := fl_bd x 128 32 (by omega)
  have bf3 := fl_bd x 4096 8 (by omega)
  have br1 := fl_bd x 32768 32 (by omega)
  have br2 := fl_bd x 1048576 32 (by omega)
  have bf7 := fl_bd x 33554432 128 (by omega)
  rcases (show fl x 33554432 128 = 1 ∧ fl x 4096 8 = 0 ∨ fl x 33554432 128 = 1 ∧ 3 < fl x 4096 8 ∨ fl x 33554432 128 = 1 ∧ ¬ fl x 4096 8 = 0 ∧ fl x 4096 8 ≤ 3 ∨ fl x 33554432 128 = 0 ∧ fl x 4096 8 = 0 ∨ fl x 33554432 128 = 0 ∧ fl x 4096 8 = 1 ∨ fl x 33554432 128 = 0 ∧ fl x 4096 8 = 5 ∨ fl x 33554432 128 = 0 ∧ ¬ fl x 4096 8 = 0 ∧ ¬ fl x 4096 8 = 1 ∧ ¬ fl x 4096 8 = 5 ∨ fl x 33554432 128 = 32 ∧ fl x 4096 8 = 0 ∨ fl x 33554432 128 = 32 ∧ fl x 4096 8 = 5 ∨ fl x 33554432 128 = 32 ∧ ¬ fl x 4096 8 = 0 ∧ ¬ fl x 4096 8 = 5 ∨ (¬ fl x 33554432 128 = 0 ∧ ¬ fl x 33554432 128 = 1 ∧ ¬ fl x 33554432 128 = 32) by omega) with ⟨h, h2⟩ | ⟨h, h2⟩ | ⟨h, h2⟩ | ⟨h, h2⟩ | ⟨h, h2⟩ | ⟨h, h2⟩ | ⟨h, h2⟩ | ⟨h, h2⟩ | ⟨h, h2⟩ | ⟨h, h2⟩ | h
  · have t0 : (fl x 33554432 128 == 1) = true := by simp; omega
    have t1 : (fl x 4096 8 == 0) = true := by simp; omega
    have Hh := Lib.hid h
    have Hh2 := Lib.hid h2
    clear h h2
    go_enter Tryz.func38, Tryz.ntmps38
    go_wp2_with (first | (go_at_call 93; (with_reducible refine (rfields_w x 9 x0 x1 _).mono ?_); rintro e' w1 ⟨rfl, qk⟩; have HKw1 := Lib.hid qk; obtain ⟨qw10, qw11, qw12, qw13, qw14, qw15, qw16, qw17, qw18, qw19, qw110⟩ := qk.c11 (b := w.heap.size) (.int .i64 0) (.int .i64 0) (.int .i64 0) (.int .i64 0) (.int .i64 0) (.int .i64 0) (.int .i64 0) (.bool false) (.bool false) (.int .i64 0) (.int .u32 0); obtain ⟨zw10, zw11, zw12, zw13, zw14, zw15, zw16, zw17, zw18, zw19, zw110⟩ := qk.z11 (b := w.heap.size); have sz := qk.size; (try simp at sz); have KW := Lib.hid (Kp.trans ((Kp.refl w).allocs _ _) qk); have ql0 : w.heap.size < w1.heap.size := (by omega); have ql1 : ¬ w.heap.size = w1.heap.size := (by omega); have ql2 : ¬ w1.heap.size = w.heap.size := (by omega); clear qk) | (go_at_call 34; with_reducible refine (rf_31_25 x x0 x1 _).mono ?_; rintro e' w1 ⟨rfl, rfl⟩))
    refine bodyPost_ret (v := .tuple #[Ins.v ⟨10, (fl x 4096 8), (fl x 128 32), (fl x 32768 32), (fl x 1048576 32), 0, 0, true, false⟩ 4 x, .bool (true)]) (by simp [results, Tryz.results38, go_sem, Ins.v, *]) rfl ⟨RdQ.mk ⟨10, (fl x 4096 8), (fl x 128 32), (fl x 32768 32), (fl x 1048576 32), 0, 0, true, false⟩ 4 x (true) rfl (by have h := Hh.out; have h2 := Hh2.out; simp [narI, nar, narB, shiftB, spAlu, h, h2]) (fun _ => ⟨rfl, rfl⟩), by (repeat' (first | with_reducible refine Kp.setCell ?_ ?_ _ | with_reducible refine Kp.allocs ?_ _ _ | with_reducible refine Kp.drew ?_ | with_reducible refine Kp.drewN ?_ _)); all_goals first | exact KW.out | (dsimp only; omega)⟩
  · have t0 : (fl x 33554432 128 == 1) = true := by simp; omega
    have t1 : (fl x 4096 8 == 0) = false := by simp; omega
    have t2 : (decide (3 < fl x 4096 8)) = true := by simp; omega
    have Hh := Lib.hid h
    have Hh2 := Lib.hid h2
    clear h h2
    go_enter Tryz.func38, Tryz.ntmps38
    go_wp2_with (first | (go_at_call 93; (with_reducible refine (rfields_w x 9 x0 x1 _).mono ?_); rintro e' w1 ⟨rfl, qk⟩; have HKw1 := Lib.hid qk; obtain ⟨qw10, qw11, qw12, qw13, qw14, qw15, qw16, qw17, qw18, qw19, qw110⟩ := qk.c11 (b := w.heap.size) (.int .i64 0) (.int .i64 0) (.int .i64 0) (.int .i64 0) (.int .i64 0) (.int .i64 0) (.int .i64 0) (.bool false) (.bool false) (.int .i64 0) (.int .u32 0); obtain ⟨zw10, zw11, zw12, zw13, zw14, zw15, zw16, zw17, zw18, zw19, zw110⟩ := qk.z11 (b := w.heap.size); have sz := qk.size; (try simp at sz); have KW := Lib.hid (Kp.trans ((Kp.refl w).allocs _ _) qk); have ql0 : w.heap.size < w1.heap.size := (by omega); have ql1 : ¬ w.heap.size = w1.heap.size := (by omega); have ql2 : ¬ w1.heap.size = w.heap.size := (by omega); clear qk) | (go_at_call 34; with_reducible refine (rf_31_25 x x0 x1 _).mono ?_; rintro e' w1 ⟨rfl, rfl⟩))
    refine bodyPost_ret (v := .tuple #[Ins.v ⟨10, (fl x 4096 8), (fl x 128 32), (fl x 32768 32), (fl x 1048576 32), 0, 0, true, false⟩ 4 x, .bool (true)]) (by simp [results, Tryz.results38, go_sem, Ins.v, *]) rfl ⟨RdQ.mk ⟨10, (fl x 4096 8), (fl x 128 32), (fl x 32768 32), (fl x 1048576 32), 0, 0, true, false⟩ 4 x (true) rfl (by have h := Hh.out; have h2 := Hh2.out; have h3 : 4 ≤ fl x 4096 8 := (by omega); simp [narI, nar, narB, shiftB, spAlu, h, h3]) (fun _ => ⟨rfl, rfl⟩), by (repeat' (first | with_reducible refine Kp.setCell ?_ ?_ _ | with_reducible refine Kp.allocs ?_ _ _ | with_reducible refine Kp.drew ?_ | with_reducible refine Kp.drewN ?_ _)); all_goals first | exact KW.out | (dsimp only; omega)⟩
  · have t0 : (fl x 33554432 128 == 1) = true := by simp; omega
    have t1 : (fl x 4096 8 == 0) = false := by simp; omega
    have t2 : (decide (3 < fl x 4096 8)) = false := by simp; omega
    have t3 : (fl x 33554432 128 == 0) = false := by simp; omega
    have t4 : (fl x 33554432 128 == 32) = false := by simp; omega
    have Hh := Lib.hid h
    have Hh2 := Lib.hid h2
    clear h h2
    go_enter Tryz.func38, Tryz.ntmps38
    go_wp2_with (first | (go_at_call 93; (with_reducible refine (rfields_w x 9 x0 x1 _).mono ?_); rintro e' w1 ⟨rfl, qk⟩; have HKw1 := Lib.hid qk; obtain ⟨qw10, qw11, qw12, qw13, qw14, qw15, qw16, qw17, qw18, qw19, qw110⟩ := qk.c11 (b := w.heap.size) (.int .i64 0) (.int .i64 0) (.int .i64 0) (.int .i64 0) (.int .i64 0) (.int .i64 0) (.int .i64 0) (.bool false) (.bool false) (.int .i64 0) (.int .u32 0); obtain ⟨zw10, zw11, zw12, zw13, zw14, zw15, zw16, zw17, zw18, zw19, zw110⟩ := qk.z11 (b := w.heap.size); have sz := qk.size; (try simp at sz); have KW := Lib.hid (Kp.trans ((Kp.refl w).allocs _ _) qk); have ql0 : w.heap.size < w1.heap.size := (by omega); have ql1 : ¬ w.heap.size = w1.heap.size := (by omega); have ql2 : ¬ w1.heap.size = w.heap.size := (by omega); clear qk) | (go_at_call 34; with_reducible refine (rf_31_25 x x0 x1 _).mono ?_; rintro e' w1 ⟨rfl, rfl⟩))
    refine bodyPost_ret (v := .tuple #[Ins.v zIns 0 0, .bool (false)]) (by simp [results, Tryz.results38, go_sem, Ins.v, zIns, *]) rfl ⟨RdQ.mk zIns 0 0 (false) rfl (by have h := Hh.out; have h2 := Hh2.out; have h3 : ¬ 4 ≤ fl x 4096 8 := (by omega); simp [narI, nar, narB, shiftB, spAlu, h, h2.1, h3]) (fun h => by cases h), by (repeat' (first | with_reducible refine Kp.setCell ?_ ?_ _ | with_reducible refine Kp.allocs ?_ _ _ | with_reducible refine Kp.drew ?_ | with_reducible refine Kp.drewN ?_ _)); all_goals first | exact KW.out | (dsimp only; omega)⟩
  · have t0 : (fl x 33554432 128 == 1) = false := by simp; omega
    have t1 : (fl x 33554432 128 == 0) = true := by simp; omega
    have t2 : (fl x 4096 8 == 0) = true := by simp; omega
    have Hh := Lib.hid h
    have Hh2 := Lib.hid h2
    clear h h2
    go_enter Tryz.func38, Tryz.ntmps38
    go_wp2_with (first | (go_at_call 93; (with_reducible refine (rfields_w x 9 x0 x1 _).mono ?_); rintro e' w1 ⟨rfl, qk⟩; have HKw1 := Lib.hid qk; obtain ⟨qw10, qw11, qw12, qw13, qw14, qw15, qw16, qw17, qw18, qw19, qw110⟩ := qk.c11 (b := w.heap.size) (.int .i64 0) (.int .i64 0) (.int .i64 0) (.int .i64 0) (.int .i64 0) (.int .i64 0) (.int .i64 0) (.bool false) (.bool false) (.int .i64 0) (.int .u32 0); obtain ⟨zw10, zw11, zw12, zw13, zw14, zw15, zw16, zw17, zw18, zw19, zw110⟩ := qk.z11 (b := w.heap.size); have sz := qk.size; (try simp at sz); have KW := Lib.hid (Kp.trans ((Kp.refl w).allocs _ _) qk); have ql0 : w.heap.size < w1.heap.size := (by omega); have ql1 : ¬ w.heap.size = w1.heap.size := (by omega); have ql2 : ¬ w1.heap.size = w.heap.size := (by omega); clear qk) | (go_at_call 34; with_reducible refine (rf_31_25 x x0 x1 _).mono ?_; rintro e' w1 ⟨rfl, rfl⟩))
    refine bodyPost_ret (v := .tuple #[Ins.v ⟨9, (fl x 4096 8), (fl x 128 32), (fl x 32768 32), (fl x 1048576 32), 0, 0, true, false⟩ 4 x, .bool (true)]) (by simp [results, Tryz.results38, go_sem, Ins.v, *]) rfl ⟨RdQ.mk ⟨9, (fl x 4096 8), (fl x 128 32), (fl x 32768 32), (fl x 1048576 32), 0, 0, true, false⟩ 4 x (true) rfl (by have h := Hh.out; have h2 := Hh2.out; simp [narI, nar, narB, shiftB, spAlu, h, h2]) (fun _ => ⟨rfl, rfl⟩), by (repeat' (first | with_reducible refine Kp.setCell ?_ ?_ _ | with_reducible refine Kp.allocs ?_ _ _ | with_reducible refine Kp.drew ?_ | with_reducible refine Kp.drewN ?_ _)); all_goals first | exact KW.out | (dsimp only; omega)⟩
  · have t0 : (fl x 33554432 128 == 1) = false := by simp; omega
    have t1 : (fl x 33554432 128 == 0) = true := by simp; omega
    have t2 : (fl x 4096 8 == 0) = false := by simp; omega
    have t3 : (fl x 4096 8 == 1) = true := by simp; omega
    have Hh := Lib.hid h
    have Hh2 := Lib.hid h2
    clear h h2
    go_enter Tryz.func38, Tryz.ntmps38
    go_wp2_with (first | (go_at_call 93; (with_reducible refine (rfields_w x 9 x0 x1 _).mono ?_); rintro e' w1 ⟨rfl, qk⟩; have HKw1 := Lib.hid qk; obtain ⟨qw10, qw11, qw12, qw13, qw14, qw15, qw16, qw17, qw18, qw19, qw110⟩ := qk.c11 (b := w.heap.size) (.int .i64 0) (.int .i64 0) (.int .i64 0) (.int .i64 0) (.int .i64 0) (.int .i64 0) (.int .i64 0) (.bool false) (.bool false) (.int .i64 0) (.int .u32 0); obtain ⟨zw10, zw11, zw12, zw13, zw14, zw15, zw16, zw17, zw18, zw19, zw110⟩ := qk.z11 (b := w.heap.size); have sz := qk.size; (try simp at sz); have KW := Lib.hid (Kp.trans ((Kp.refl w).allocs _ _) qk); have ql0 : w.heap.size < w1.heap.size := (by omega); have ql1 : ¬ w.heap.size = w1.heap.size := (by omega); have ql2 : ¬ w1.heap.size = w.heap.size := (by omega); clear qk) | (go_at_call 34; with_reducible refine (rf_31_25 x x0 x1 _).mono ?_; rintro e' w1 ⟨rfl, rfl⟩))
    refine bodyPost_ret (v := .tuple #[Ins.v ⟨9, (fl x 4096 8), (fl x 128 32), (fl x 32768 32), (fl x 1048576 32), 0, 0, true, false⟩ 4 x, .bool (true)]) (by simp [results, Tryz.results38, go_sem, Ins.v, *]) rfl ⟨RdQ.mk ⟨9, (fl x 4096 8), (fl x 128 32), (fl x 32768 32), (fl x 1048576 32), 0, 0, true, false⟩ 4 x (true) rfl (by have h := Hh.out; have h2 := Hh2.out; simp [narI, nar, narB, shiftB, spAlu, h, h2]) (fun _ => ⟨rfl, rfl⟩), by (repeat' (first | with_reducible refine Kp.setCell ?_ ?_ _ | with_reducible refine Kp.allocs ?_ _ _ | with_reducible refine Kp.drew ?_ | with_reducible refine Kp.drewN ?_ _)); all_goals first | exact KW.out | (dsimp only; omega)⟩
  · have t0 : (fl x 33554432 128 == 1) = false := by simp; omega
    have t1 : (fl x 33554432 128 == 0) = true := by simp; omega
    have t2 : (fl x 4096 8 == 0) = false := by simp; omega
    have t3 : (fl x 4096 8 == 1) = false := by simp; omega
    have t4 : (fl x 4096 8 == 5) = true := by simp; omega
    have Hh := Lib.hid h
    have Hh2 := Lib.hid h2
    clear h h2
    go_enter Tryz.func38, Tryz.ntmps38
    go_wp2_with (first | (go_at_call 93; (with_reducible refine (rfields_w x 9 x0 x1 _).mono ?_); rintro e' w1 ⟨rfl, qk⟩; have HKw1 := Lib.hid qk; obtain ⟨qw10, qw11, qw12, qw13, qw14, qw15, qw16, qw17, qw18, qw19, qw110⟩ := qk.c11 (b := w.heap.size) (.int .i64 0) (.int .i64 0) (.int .i64 0) (.int .i64 0) (.int .i64 0) (.int .i64 0) (.int .i64 0) (.bool false) (.bool false) (.int .i64 0) (.int .u32 0); obtain ⟨zw10, zw11, zw12, zw13, zw14, zw15, zw16, zw17, zw18, zw19, zw110⟩ := qk.z11 (b := w.heap.size); have sz := qk.size; (try simp at sz); have KW := Lib.hid (Kp.trans ((Kp.refl w).allocs _ _) qk); have ql0 : w.heap.size < w1.heap.size := (by omega); have ql1 : ¬ w.heap.size = w1.heap.size := (by omega); have ql2 : ¬ w1.heap.size = w.heap.size := (by omega); clear qk) | (go_at_call 34; with_reducible refine (rf_31_25 x x0 x1 _).mono ?_; rintro e' w1 ⟨rfl, rfl⟩))
    refine bodyPost_ret (v := .tuple #[Ins.v ⟨9, (fl x 4096 8), (fl x 128 32), (fl x 32768 32), (fl x 1048576 32), 0, 0, true, false⟩ 4 x, .bool (true)]) (by simp [results, Tryz.results38, go_sem, Ins.v, *]) rfl ⟨RdQ.mk ⟨9, (fl x 4096 8), (fl x 128 32), (fl x 32768 32), (fl x 1048576 32), 0, 0, true, false⟩ 4 x (true) rfl (by have h := Hh.out; have h2 := Hh2.out; simp [narI, nar, narB, shiftB, spAlu, h, h2]) (fun _ => ⟨rfl, rfl⟩), by (repeat' (first | with_reducible refine Kp.setCell ?_ ?_ _ | with_reducible refine Kp.allocs ?_ _ _ | with_reducible refine Kp.drew ?_ | with_reducible refine Kp.drewN ?_ _)); all_goals first | exact KW.out | (dsimp only; omega)⟩
  · have t0 : (fl x 33554432 128 == 1) = false := by simp; omega
    have t1 : (fl x 33554432 128 == 0) = true := by simp; omega
    have t2 : (fl x 4096 8 == 0) = false := by simp; omega
    have t3 : (fl x 4096 8 == 1) = false := by simp; omega
    have t4 : (fl x 4096 8 == 5) = false := by simp; omega
    have t5 : (fl x 33554432 128 == 32) = false := by simp; omega
    have Hh := Lib.hid h
    have Hh2 := Lib.hid h2
    clear h h2
    go_enter Tryz.func38, Tryz.ntmps38
    go_wp2_with (first | (go_at_call 93; (with_reducible refine (rfields_w x 9 x0 x1 _).mono ?_); rintro e' w1 ⟨rfl, qk⟩; have HKw1 := Lib.hid qk; obtain ⟨qw10, qw11, qw12, qw13, qw14, qw15, qw16, qw17, qw18, qw19, qw110⟩ := qk.c11 (b := w.heap.size) (.int .i64 0) (.int .i64 0) (.int .i64 0) (.int .i64 0) (.int .i64 0) (.int .i64 0) (.int .i64 0) (.bool false) (.bool false) (.int .i64 0) (.int .u32 0); obtain ⟨zw10, zw11, zw12, zw13, zw14, zw15, zw16, zw17, zw18, zw19, zw110⟩ := qk.z11 (b := w.heap.size); have sz := qk.size; (try simp at sz); have KW := Lib.hid (Kp.trans ((Kp.refl w).allocs _ _) qk); have ql0 : w.heap.size < w1.heap.size := (by omega); have ql1 : ¬ w.heap.size = w1.heap.size := (by omega); have ql2 : ¬ w1.heap.size = w.heap.size := (by omega); clear qk) | (go_at_call 34; with_reducible refine (rf_31_25 x x0 x1 _).mono ?_; rintro e' w1 ⟨rfl, rfl⟩))
    refine bodyPost_ret (v := .tuple #[Ins.v zIns 0 0, .bool (false)]) (by simp [results, Tryz.results38, go_sem, Ins.v, zIns, *]) rfl ⟨RdQ.mk zIns 0 0 (false) rfl (by have h := Hh.out; have h2 := Hh2.out; have g8 : ¬ fl x 4096 8 = 8 := (by omega); have g9 : ¬ fl x 4096 8 = 9 := (by omega); obtain ⟨g0, g1, g2⟩ := h2; simp [narI, nar, narB, shiftB, spAlu, h, g0, g1, g2, g8, g9]) (fun h => by cases h), by (repeat' (first | with_reducible refine Kp.setCell ?_ ?_ _ | with_reducible refine Kp.allocs ?_ _ _ | with_reducible refine Kp.drew ?_ | with_reducible refine Kp.drewN ?_ _)); all_goals first | exact KW.out | (dsimp only; omega)⟩
  · have t0 : (fl x 33554432 128 == 1) = false := by simp; omega
    have t1 : (fl x 33554432 128 == 0) = false := by simp; omega
    have t2 : (fl x 33554432 128 == 32) = true := by simp; omega
    have t3 : (fl x 4096 8 == 0) = true := by simp; omega
    have Hh := Lib.hid h
    have Hh2 := Lib.hid h2
    clear h h2
    go_enter Tryz.func38, Tryz.ntmps38
    go_wp2_with (first | (go_at_call 93; (with_reducible refine (rfields_w x 9 x0 x1 _).mono ?_); rintro e' w1 ⟨rfl, qk⟩; have HKw1 := Lib.hid qk; obtain ⟨qw10, qw11, qw12, qw13, qw14, qw15, qw16, qw17, qw18, qw19, qw110⟩ := qk.c11 (b := w.heap.size) (.int .i64 0) (.int .i64 0) (.int .i64 0) (.int .i64 0) (.int .i64 0) (.int .i64 0) (.int .i64 0) (.bool false) (.bool false) (.int .i64 0) (.int .u32 0); obtain ⟨zw10, zw11, zw12, zw13, zw14, zw15, zw16, zw17, zw18, zw19, zw110⟩ := qk.z11 (b := w.heap.size); have sz := qk.size; (try simp at sz); have KW := Lib.hid (Kp.trans ((Kp.refl w).allocs _ _) qk); have ql0 : w.heap.size < w1.heap.size := (by omega); have ql1 : ¬ w.heap.size = w1.heap.size := (by omega); have ql2 : ¬ w1.heap.size = w.heap.size := (by omega); clear qk) | (go_at_call 34; with_reducible refine (rf_31_25 x x0 x1 _).mono ?_; rintro e' w1 ⟨rfl, rfl⟩))
    refine bodyPost_ret (v := .tuple #[Ins.v ⟨9, 8, (fl x 128 32), (fl x 32768 32), (fl x 1048576 32), 0, 0, true, false⟩ 4 x, .bool (true)]) (by simp [results, Tryz.results38, go_sem, Ins.v, *]) rfl ⟨RdQ.mk ⟨9, 8, (fl x 128 32), (fl x 32768 32), (fl x 1048576 32), 0, 0, true, false⟩ 4 x (true) rfl (by have h := Hh.out; have h2 := Hh2.out; simp [narI, nar, narB, shiftB, spAlu, h, h2]) (fun _ => ⟨rfl, rfl⟩), by (repeat' (first | with_reducible refine Kp.setCell ?_ ?_ _ | with_reducible refine Kp.allocs ?_ _ _ | with_reducible refine Kp.drew ?_ | with_reducible refine Kp.drewN ?_ _)); all_goals first | exact KW.out | (dsimp only; omega)⟩
  · have t0 : (fl x 33554432 128 == 1) = false := by simp; omega
    have t1 : (fl x 33554432 128 == 0) = false := by simp; omega
    have t2 : (fl x 33554432 128 == 32) = true := by simp; omega
    have t3 : (fl x 4096 8 == 0) = false := by simp; omega
    have t4 : (fl x 4096 8 == 5) = true := by simp; omega
    have Hh := Lib.hid h
    have Hh2 := Lib.hid h2
    clear h h2
    go_enter Tryz.func38, Tryz.ntmps38
    go_wp2_with (first | (go_at_call 93; (with_reducible refine (rfields_w x 9 x0 x1 _).mono ?_); rintro e' w1 ⟨rfl, qk⟩; have HKw1 := Lib.hid qk; obtain ⟨qw10, qw11, qw12, qw13, qw14, qw15, qw16, qw17, qw18, qw19, qw110⟩ := qk.c11 (b := w.heap.size) (.int .i64 0) (.int .i64 0) (.int .i64 0) (.int .i64 0) (.int .i64 0) (.int .i64 0) (.int .i64 0) (.bool false) (.bool false) (.int .i64 0) (.int .u32 0); obtain ⟨zw10, zw11, zw12, zw13, zw14, zw15, zw16, zw17, zw18, zw19, zw110⟩ := qk.z11 (b := w.heap.size); have sz := qk.size; (try simp at sz); have KW := Lib.hid (Kp.trans ((Kp.refl w).allocs _ _) qk); have ql0 : w.heap.size < w1.heap.size := (by omega); have ql1 : ¬ w.heap.size = w1.heap.size := (by omega); have ql2 : ¬ w1.heap.size = w.heap.size := (by omega); clear qk) | (go_at_call 34; with_reducible refine (rf_31_25 x x0 x1 _).mono ?_; rintro e' w1 ⟨rfl, rfl⟩))
    refine bodyPost_ret (v := .tuple #[Ins.v ⟨9, 9, (fl x 128 32), (fl x 32768 32), (fl x 1048576 32), 0, 0, true, false⟩ 4 x, .bool (true)]) (by simp [results, Tryz.results38, go_sem, Ins.v, *]) rfl ⟨RdQ.mk ⟨9, 9, (fl x 128 32), (fl x 32768 32), (fl x 1048576 32), 0, 0, true, false⟩ 4 x (true) rfl (by have h := Hh.out; have h2 := Hh2.out; simp [narI, nar, narB, shiftB, spAlu, h, h2]) (fun _ => ⟨rfl, rfl⟩), by (repeat' (first | with_reducible refine Kp.setCell ?_ ?_ _ | with_reducible refine Kp.allocs ?_ _ _ | with_reducible refine Kp.drew ?_ | with_reducible refine Kp.drewN ?_ _)); all_goals first | exact KW.out | (dsimp only; omega)⟩
  · have t0 : (fl x 33554432 128 == 1) = false := by simp; omega
    have t1 : (fl x 33554432 128 == 0) = false := by simp; omega
    have t2 : (fl x 33554432 128 == 32) = true := by simp; omega
    have t3 : (fl x 4096 8 == 0) = false := by simp; omega
    have t4 : (fl x 4096 8 == 5) = false := by simp; omega
    have Hh := Lib.hid h
    have Hh2 := Lib.hid h2
    clear h h2
    go_enter Tryz.func38, Tryz.ntmps38
    go_wp2_with (first | (go_at_call 93; (with_reducible refine (rfields_w x 9 x0 x1 _).mono ?_); rintro e' w1 ⟨rfl, qk⟩; have HKw1 := Lib.hid qk; obtain ⟨qw10, qw11, qw12, qw13, qw14, qw15, qw16, qw17, qw18, qw19, qw110⟩ := qk.c11 (b := w.heap.size) (.int .i64 0) (.int .i64 0) (.int .i64 0) (.int .i64 0) (.int .i64 0) (.int .i64 0) (.int .i64 0) (.bool false) (.bool false) (.int .i64 0) (.int .u32 0); obtain ⟨zw10, zw11, zw12, zw13, zw14, zw15, zw16, zw17, zw18, zw19, zw110⟩ := qk.z11 (b := w.heap.size); have sz := qk.size; (try simp at sz); have KW := Lib.hid (Kp.trans ((Kp.refl w).allocs _ _) qk); have ql0 : w.heap.size < w1.heap.size := (by omega); have ql1 : ¬ w.heap.size = w1.heap.size := (by omega); have ql2 : ¬ w1.heap.size = w.heap.size := (by omega); clear qk) | (go_at_call 34; with_reducible refine (rf_31_25 x x0 x1 _).mono ?_; rintro e' w1 ⟨rfl, rfl⟩))
    refine bodyPost_ret (v := .tuple #[Ins.v zIns 0 0, .bool (false)]) (by simp [results, Tryz.results38, go_sem, Ins.v, zIns, *]) rfl ⟨RdQ.mk zIns 0 0 (false) rfl (by have h := Hh.out; have h2 := Hh2.out; simp [narI, nar, narB, shiftB, spAlu, h, h2]) (fun h => by cases h), by (repeat' (first | with_reducible refine Kp.setCell ?_ ?_ _ | with_reducible refine Kp.allocs ?_ _ _ | with_reducible refine Kp.drew ?_ | with_reducible refine Kp.drewN ?_ _)); all_goals first | exact KW.out | (dsimp only; omega)⟩
  · have t0 : (fl x 33554432 128 == 1) = false := by simp; omega
    have t1 : (fl x 33554432 128 == 0) = false := by simp; omega
    have t2 : (fl x 33554432 128 == 32) = false := by simp; omega
    have Hh := Lib.hid h
    clear h
    go_enter Tryz.func38, Tryz.ntmps38
    go_wp2_with (first | (go_at_call 93; (with_reducible refine (rfields_w x 9 x0 x1 _).mono ?_); rintro e' w1 ⟨rfl, qk⟩; have HKw1 := Lib.hid qk; obtain ⟨qw10, qw11, qw12, qw13, qw14, qw15, qw16, qw17, qw18, qw19, qw110⟩ := qk.c11 (b := w.heap.size) (.int .i64 0) (.int .i64 0) (.int .i64 0) (.int .i64 0) (.int .i64 0) (.int .i64 0) (.int .i64 0) (.bool false) (.bool false) (.int .i64 0) (.int .u32 0); obtain ⟨zw10, zw11, zw12, zw13, zw14, zw15, zw16, zw17, zw18, zw19, zw110⟩ := qk.z11 (b := w.heap.size); have sz := qk.size; (try simp at sz); have KW := Lib.hid (Kp.trans ((Kp.refl w).allocs _ _) qk); have ql0 : w.heap.size < w1.heap.size := (by omega); have ql1 : ¬ w.heap.size = w1.heap.size := (by omega); have ql2 : ¬ w1.heap.size = w.heap.size := (by omega); clear qk) | (go_at_call 34; with_reducible refine (rf_31_25 x x0 x1 _).mono ?_; rintro e' w1 ⟨rfl, rfl⟩))
    refine bodyPost_ret (v := .tuple #[Ins.v zIns 0 0, .bool (false)]) (by simp [results, Tryz.results38, go_sem, Ins.v, zIns, *]) rfl ⟨RdQ.mk zIns 0 0 (false) rfl (by have h := Hh.out; simp [narI, nar, narB, shiftB, spAlu, h]) (fun h => by cases h), by (repeat' (first | with_reducible refine Kp.setCell ?_ ?_ _ | with_reducible refine Kp.allocs ?_ _ _ | with_reducible refine Kp.drew ?_ | with_reducible refine Kp.drewN ?_ _)); all_goals first | exact KW.out | (dsimp only; omega)⟩
end Go.Proofs.YtlfeandnpflaaaaGreatDoor
