/-
  Contracts of the document's readers for layer 7: operations with a number, the system's words, atomics, the others. No condition.
-/
import Derived.Test.YtlfeandnpflaaaaGreatDoorIRAlu
import Derived.Test.YtlfeandnpflaaaaGreatDoorMC
namespace Go.Proofs.YtlfeandnpflaaaaGreatDoor
open Go.ChangeShapes Go.WideShapes Go.ChangeAt Go.RowKit
set_option linter.unusedVariables false
set_option linter.unusedSimpArgs false

set_option maxHeartbeats 4000000 in
theorem raluImm_n (x : Int) (x0 : 0 ≤ x) (x1 : x < 4294967296) (w : World) :
    Calls Tryz.prog 37 #[.int .u32 x, .bool false] w fun e w' => RdQ e x (narI false (spImm x)) ∧ Kp w w' := by
  have brd := fl_bd x 128 32 (by omega)
  have bf3 := fl_bd x 4096 8 (by omega)
  have br1 := fl_bd x 32768 32 (by omega)
  have br2 := fl_bd x 1048576 32 (by omega)
  have bf7 := fl_bd x 33554432 128 (by omega)
  have bh := fl_bd x 67108864 64 (by omega)
  have bs := fl_bd x 1048576 64 (by omega)
  rcases (show ¬ fl x 4096 8 = 1 ∧ ¬ fl x 4096 8 = 5 ∨ fl x 4096 8 = 1 ∧ fl x 67108864 64 = 16 ∨ fl x 4096 8 = 1 ∧ ¬ fl x 67108864 64 = 16 ∨ fl x 4096 8 = 5 ∧ fl x 67108864 64 = 16 ∨ fl x 4096 8 = 5 ∧ ¬ fl x 67108864 64 = 16 by omega) with ⟨h, h2⟩ | ⟨h, h2⟩ | ⟨h, h2⟩ | ⟨h, h2⟩ | ⟨h, h2⟩
  · have R0 : Rm w.heap.size 11 (w.alloc (.cells #[.int .i64 0, .int .i64 0, .int .i64 0, .int .i64 0, .int .i64 0, .int .i64 0, .int .i64 0, .bool false, .bool false, .int .i64 0, .int .u32 0] 24)) := Rm.new' w [.int .i64 0, .int .i64 0, .int .i64 0, .int .i64 0, .int .i64 0, .int .i64 0, .int .i64 0, .bool false, .bool false, .int .i64 0, .int .u32 0] 24 11 (by simp) (by simp)
    have t0 : (fl x 4096 8 != 1) = true := by simp; omega
    have t1 : (fl x 4096 8 != 5) = true := by simp; omega
    have Hh := Lib.hid h
    have Hh2 := Lib.hid h2
    clear h h2
    go_enter Tryz.func37, Tryz.ntmps37
    go_wp2_with (first | (go_at_call 93; (with_reducible refine (rfields_w x 8 x0 x1 _).mono ?_); rintro e' w1 ⟨rfl, qk⟩; have HKw1 := Lib.hid qk; obtain ⟨qw10, qw11, qw12, qw13, qw14, qw15, qw16, qw17, qw18, qw19, qw110⟩ := qk.c11 (b := w.heap.size) (.int .i64 0) (.int .i64 0) (.int .i64 0) (.int .i64 0) (.int .i64 0) (.int .i64 0) (.int .i64 0) (.bool false) (.bool false) (.int .i64 0) (.int .u32 0); obtain ⟨zw10, zw11, zw12, zw13, zw14, zw15, zw16, zw17, zw18, zw19, zw110⟩ := qk.z11 (b := w.heap.size); have sz := qk.size; (try simp at sz); have KW := Lib.hid (Kp.trans ((Kp.refl w).allocs _ _) qk); have ql0 : w.heap.size < w1.heap.size := (by omega); have ql1 : ¬ w.heap.size = w1.heap.size := (by omega); have ql2 : ¬ w1.heap.size = w.heap.size := (by omega); clear qk) | (go_at_call 34; with_reducible refine (rf_31_26 x x0 x1 _).mono ?_; rintro e' w1 ⟨rfl, rfl⟩) | (go_at_call 34; with_reducible refine (rf_25_20 x x0 x1 _).mono ?_; rintro e' w1 ⟨rfl, rfl⟩) | (go_at_call 44; with_reducible refine (rI_w x x0 x1 _).mono ?_; rintro e' w1 ⟨rfl, rfl⟩))
    have R1 := R0.kp HKw1.out (by simp)
    have A1 : At w1.heap.size [.int .i64 8, .int .i64 ((fl x 4096 8)), .int .i64 ((fl x 128 32)), .int .i64 ((fl x 32768 32)), .int .i64 0, .int .i64 (iI x), .int .i64 0, .bool false, .bool false, .int .i64 4, .int .u32 x] (w1.alloc (.cells #[.int .i64 8, .int .i64 ((fl x 4096 8)), .int .i64 ((fl x 128 32)), .int .i64 ((fl x 32768 32)), .int .i64 0, .int .i64 (iI x), .int .i64 0, .bool false, .bool false, .int .i64 4, .int .u32 x] 24)) := At.new' w1 _ _ rfl
    have R2 : Rm w.heap.size 11 (w1.alloc (.cells #[.int .i64 8, .int .i64 ((fl x 4096 8)), .int .i64 ((fl x 128 32)), .int .i64 ((fl x 32768 32)), .int .i64 0, .int .i64 (iI x), .int .i64 0, .bool false, .bool false, .int .i64 4, .int .u32 x] 24)) := R1.alloc _ _
    have kb : Bh w (w1.heap.size + 1) (w1.alloc (.cells #[.int .i64 8, .int .i64 ((fl x 4096 8)), .int .i64 ((fl x 128 32)), .int .i64 ((fl x 32768 32)), .int .i64 0, .int .i64 (iI x), .int .i64 0, .bool false, .bool false, .int .i64 4, .int .u32 x] 24)) := ⟨(((Kp.refl w).allocs _ _).trans HKw1.out).allocs _ _, by omega, by simp⟩
    obtain ⟨W2, hW⟩ : ∃ W2, (w1.alloc (.cells #[.int .i64 8, .int .i64 ((fl x 4096 8)), .int .i64 ((fl x 128 32)), .int .i64 ((fl x 32768 32)), .int .i64 0, .int .i64 (iI x), .int .i64 0, .bool false, .bool false, .int .i64 4, .int .u32 x] 24)) = W2 := ⟨_, rfl⟩
    rw [hW] at A1 R2 kb ⊢
    clear hW
    have d0 := A1 0 _ rfl; have d1 := A1 1 _ rfl; have d2 := A1 2 _ rfl; have d3 := A1 3 _ rfl; have d4 := A1 4 _ rfl; have d5 := A1 5 _ rfl; have d6 := A1 6 _ rfl; have d7 := A1 7 _ rfl; have d8 := A1 8 _ rfl; have d9 := A1 9 _ rfl; have d10 := A1 10 _ rfl
    obtain ⟨⟨_, _⟩, _, ⟨_, _⟩, _, ⟨_, _⟩, _, ⟨_, _⟩, _, ⟨_, _⟩, _, ⟨_, _⟩, _, ⟨_, _⟩, _, ⟨_, _⟩, _, ⟨_, _⟩, _, ⟨_, _⟩, _, ⟨_, _⟩, _⟩ := R2.out11
    refine wp_region_held_drew (S := (fun w' => At (w1.heap.size) [.int .i64 8, .int .i64 ((fl x 4096 8)), .int .i64 ((fl x 128 32)), .int .i64 ((fl x 32768 32)), .int .i64 0, .int .i64 (iI x), .int .i64 0, .bool false, .bool false, .int .i64 4, .int .u32 x] w' ∧ Rm (w.heap.size) 11 w' ∧ Bh w (w1.heap.size + 1) w')) (by kernel_rfl) ⟨At.drew (by with_reducible assumption), Rm.drew (by with_reducible assumption), Bh.drew (by with_reducible assumption)⟩ (fun hS => ?_)
    (refine tk 0 ?_ rfl (Or.inl ⟨by rfl, ?_⟩) hS ?_; rotate_left; focus (intro w' hSw; obtain ⟨s0, s1, sb⟩ := hSw; have c0_0 := s0 0 _ rfl; have c0_1 := s0 1 _ rfl; have c0_2 := s0 2 _ rfl; have c0_3 := s0 3 _ rfl; have c0_4 := s0 4 _ rfl; have c0_5 := s0 5 _ rfl; have c0_6 := s0 6 _ rfl; have c0_7 := s0 7 _ rfl; have c0_8 := s0 8 _ rfl; have c0_9 := s0 9 _ rfl; have c0_10 := s0 10 _ rfl; go_simp <;> try with_reducible rfl))
    try simp only [Act.put, zA, zB, zC]
    (refine tk 1 ?_ rfl (Or.inl ⟨by rfl, ?_⟩) hS ?_; rotate_left; focus (intro w' hSw; obtain ⟨s0, s1, sb⟩ := hSw; go_simp <;> try with_reducible rfl))
    try simp only [Act.put, zA, zB, zC]
    (refine tk 2 ?_ rfl (Or.inl ⟨by rfl, ?_⟩) hS ?_; rotate_left; focus (intro w' hSw; obtain ⟨s0, s1, sb⟩ := hSw; go_simp <;> try with_reducible rfl))
    try simp only [Act.put, zA, zB, zC]
    (refine tk 3 ?_ rfl (Or.inl ⟨by rfl, ?_⟩) hS ?_; rotate_left; focus (intro w' hSw; obtain ⟨s0, s1, sb⟩ := hSw; go_simp <;> try with_reducible rfl))
    try simp only [Act.put, zA, zB, zC]
    (refine tk 4 ?_ rfl ?_ hS ?_; rotate_left; focus (first | (refine Or.inl ⟨by rfl, ?_⟩; intro w' hSw; obtain ⟨s0, s1, sb⟩ := hSw; go_simp <;> try with_reducible rfl) | (refine Or.inr ⟨by rfl, ?_⟩; rfl)))
    try simp only [Act.put, zA, zB, zC]
    (refine tk 5 ?_ rfl ?_ hS ?_; rotate_left; focus (first | (refine Or.inl ⟨by rfl, ?_⟩; intro w' hSw; obtain ⟨s0, s1, sb⟩ := hSw; have c0_0 := s0 0 _ rfl; have c0_1 := s0 1 _ rfl; have c0_2 := s0 2 _ rfl; have c0_3 := s0 3 _ rfl; have c0_4 := s0 4 _ rfl; have c0_5 := s0 5 _ rfl; have c0_6 := s0 6 _ rfl; have c0_7 := s0 7 _ rfl; have c0_8 := s0 8 _ rfl; have c0_9 := s0 9 _ rfl; have c0_10 := s0 10 _ rfl; go_simp <;> try with_reducible rfl) | (refine Or.inr ⟨by rfl, ?_⟩; rfl)))
    try simp only [Act.put, zA, zB, zC]
    (refine tk 6 ?_ rfl ?_ hS ?_; rotate_left; focus (first | (refine Or.inl ⟨by rfl, ?_⟩; intro w' hSw; obtain ⟨s0, s1, sb⟩ := hSw; go_simp <;> try with_reducible rfl) | (refine Or.inr ⟨by rfl, ?_⟩; rfl)))
    try simp only [Act.put, zA, zB, zC]
    (refine tk 7 ?_ rfl (Or.inl ⟨by rfl, ?_⟩) hS ?_; rotate_left; focus (intro w' hSw; obtain ⟨s0, s1, sb⟩ := hSw; go_simp <;> try with_reducible rfl))
    try simp only [Act.put, zA, zB, zC]
    refine rdy 8 rfl (fun K hK => ?_)
    obtain ⟨s0, s1, sb⟩ := hS
    have c0_0 := s0 0 _ rfl; have c0_1 := s0 1 _ rfl; have c0_2 := s0 2 _ rfl; have c0_3 := s0 3 _ rfl; have c0_4 := s0 4 _ rfl; have c0_5 := s0 5 _ rfl; have c0_6 := s0 6 _ rfl; have c0_7 := s0 7 _ rfl; have c0_8 := s0 8 _ rfl; have c0_9 := s0 9 _ rfl; have c0_10 := s0 10 _ rfl
    obtain ⟨⟨_, _⟩, _, ⟨_, _⟩, _, ⟨_, _⟩, _, ⟨_, _⟩, _, ⟨_, _⟩, _, ⟨_, _⟩, _, ⟨_, _⟩, _, ⟨_, _⟩, _, ⟨_, _⟩, _, ⟨_, _⟩, _, ⟨_, _⟩, _⟩ := s1.out11; 
    go_simp
    refine hK.out _ _ ⟨?_, ?_, ?_⟩ (fun hS => ?_)
    · repeat' (first | with_reducible assumption | (with_reducible refine At.set ?_ ?_ _) | with_reducible refine At.drew ?_)
      all_goals first | with_reducible assumption | (dsimp only; omega)
    · repeat' (first | with_reducible assumption | (with_reducible refine Rm.set ?_ _) | with_reducible refine Rm.drew ?_)
      all_goals first | with_reducible assumption | (dsimp only; omega)
    · repeat' (first | with_reducible assumption | with_reducible refine Bh.set2 ?_ ?_ | with_reducible refine Bh.drew ?_)
      all_goals first | with_reducible assumption | (dsimp only; omega)
    clear hK K
    try simp only [Act.put, zA, zB, zC]
    (refine tk 9 ?_ rfl (Or.inl ⟨by rfl, ?_⟩) hS ?_; rotate_left; focus (intro w' hSw; obtain ⟨s0, s1, sb⟩ := hSw; go_simp <;> try with_reducible rfl))
    try simp only [Act.put, zA, zB, zC]
    refine wpAnyH_done (by kernel_rfl) ?_ _
    obtain ⟨s0, s1, sb⟩ := hS
    have c0_0 := s0 0 _ rfl; have c0_1 := s0 1 _ rfl; have c0_2 := s0 2 _ rfl; have c0_3 := s0 3 _ rfl; have c0_4 := s0 4 _ rfl; have c0_5 := s0 5 _ rfl; have c0_6 := s0 6 _ rfl; have c0_7 := s0 7 _ rfl; have c0_8 := s0 8 _ rfl; have c0_9 := s0 9 _ rfl; have c0_10 := s0 10 _ rfl
    go_wp2
    refine bodyPost_ret (v := .tuple #[Ins.v ⟨8, (fl x 4096 8), (fl x 128 32), (fl x 32768 32), 0, iI x, 0, false, false⟩ 4 x, .bool (true)]) ?_ rfl ⟨RdQ.mk ⟨8, (fl x 4096 8), (fl x 128 32), (fl x 32768 32), 0, iI x, 0, false, false⟩ 4 x (true) rfl ?_ (fun _ => ⟨rfl, rfl⟩), ?_⟩
    · simp [results, Tryz.results37, go_sem, Ins.v, *]
    · skip
      have h := Hh.out
      have h2 := Hh2.out
      simp [narI, nar, narB, shiftB, spImm, h, h2]
    · with_reducible exact sb.kp
  · have t0 : (fl x 4096 8 != 1) = false := by simp; omega
    have t1 : (fl x 4096 8 == 5) = false := by simp; omega
    have t2 : (fl x 67108864 64 == 16) = true := by simp; omega
    have Hh := Lib.hid h
    have Hh2 := Lib.hid h2
    clear h h2
    go_enter Tryz.func37, Tryz.ntmps37
    go_wp2_with (first | (go_at_call 93; (with_reducible refine (rfields_w x 8 x0 x1 _).mono ?_); rintro e' w1 ⟨rfl, qk⟩; have HKw1 := Lib.hid qk; obtain ⟨qw10, qw11, qw12, qw13, qw14, qw15, qw16, qw17, qw18, qw19, qw110⟩ := qk.c11 (b := w.heap.size) (.int .i64 0) (.int .i64 0) (.int .i64 0) (.int .i64 0) (.int .i64 0) (.int .i64 0) (.int .i64 0) (.bool false) (.bool false) (.int .i64 0) (.int .u32 0); obtain ⟨zw10, zw11, zw12, zw13, zw14, zw15, zw16, zw17, zw18, zw19, zw110⟩ := qk.z11 (b := w.heap.size); have sz := qk.size; (try simp at sz); have KW := Lib.hid (Kp.trans ((Kp.refl w).allocs _ _) qk); have ql0 : w.heap.size < w1.heap.size := (by omega); have ql1 : ¬ w.heap.size = w1.heap.size := (by omega); have ql2 : ¬ w1.heap.size = w.heap.size := (by omega); clear qk) | (go_at_call 34; with_reducible refine (rf_31_26 x x0 x1 _).mono ?_; rintro e' w1 ⟨rfl, rfl⟩) | (go_at_call 34; with_reducible refine (rf_25_20 x x0 x1 _).mono ?_; rintro e' w1 ⟨rfl, rfl⟩) | (go_at_call 44; with_reducible refine (rI_w x x0 x1 _).mono ?_; rintro e' w1 ⟨rfl, rfl⟩))
    refine bodyPost_ret (v := .tuple #[Ins.v ⟨8, (fl x 4096 8), (fl x 128 32), (fl x 32768 32), 0, fl x 1048576 64, 0, false, false⟩ 4 x, .bool (fl x 67108864 64 == 0)]) (by simp [results, Tryz.results37, go_sem, Ins.v, *]) rfl ⟨RdQ.mk ⟨8, (fl x 4096 8), (fl x 128 32), (fl x 32768 32), 0, fl x 1048576 64, 0, false, false⟩ 4 x (fl x 67108864 64 == 0) rfl (by have h := Hh.out; have h2 := Hh2.out; by_cases g : fl x 67108864 64 = 0 <;> simp [narI, spImm, h, g]) (fun _ => ⟨rfl, rfl⟩), by (repeat' (first | with_reducible refine Kp.setCell ?_ ?_ _ | with_reducible refine Kp.allocs ?_ _ _ | with_reducible refine Kp.drew ?_ | with_reducible refine Kp.drewN ?_ _)); all_goals first | exact KW.out | (dsimp only; omega)⟩
  · have t0 : (fl x 4096 8 != 1) = false := by simp; omega
    have t1 : (fl x 4096 8 == 5) = false := by simp; omega
    have t2 : (fl x 67108864 64 == 16) = false := by simp; omega
    have Hh := Lib.hid h
    have Hh2 := Lib.hid h2
    clear h h2
    go_enter Tryz.func37, Tryz.ntmps37
    go_wp2_with (first | (go_at_call 93; (with_reducible refine (rfields_w x 8 x0 x1 _).mono ?_); rintro e' w1 ⟨rfl, qk⟩; have HKw1 := Lib.hid qk; obtain ⟨qw10, qw11, qw12, qw13, qw14, qw15, qw16, qw17, qw18, qw19, qw110⟩ := qk.c11 (b := w.heap.size) (.int .i64 0) (.int .i64 0) (.int .i64 0) (.int .i64 0) (.int .i64 0) (.int .i64 0) (.int .i64 0) (.bool false) (.bool false) (.int .i64 0) (.int .u32 0); obtain ⟨zw10, zw11, zw12, zw13, zw14, zw15, zw16, zw17, zw18, zw19, zw110⟩ := qk.z11 (b := w.heap.size); have sz := qk.size; (try simp at sz); have KW := Lib.hid (Kp.trans ((Kp.refl w).allocs _ _) qk); have ql0 : w.heap.size < w1.heap.size := (by omega); have ql1 : ¬ w.heap.size = w1.heap.size := (by omega); have ql2 : ¬ w1.heap.size = w.heap.size := (by omega); clear qk) | (go_at_call 34; with_reducible refine (rf_31_26 x x0 x1 _).mono ?_; rintro e' w1 ⟨rfl, rfl⟩) | (go_at_call 34; with_reducible refine (rf_25_20 x x0 x1 _).mono ?_; rintro e' w1 ⟨rfl, rfl⟩) | (go_at_call 44; with_reducible refine (rI_w x x0 x1 _).mono ?_; rintro e' w1 ⟨rfl, rfl⟩))
    refine bodyPost_ret (v := .tuple #[Ins.v ⟨8, (fl x 4096 8), (fl x 128 32), (fl x 32768 32), 0, fl x 1048576 64, 0, false, false⟩ 4 x, .bool (fl x 67108864 64 == 0)]) (by simp [results, Tryz.results37, go_sem, Ins.v, *]) rfl ⟨RdQ.mk ⟨8, (fl x 4096 8), (fl x 128 32), (fl x 32768 32), 0, fl x 1048576 64, 0, false, false⟩ 4 x (fl x 67108864 64 == 0) rfl (by have h := Hh.out; have h2 := Hh2.out; by_cases g : fl x 67108864 64 = 0 <;> simp [narI, spImm, h, g]) (fun _ => ⟨rfl, rfl⟩), by (repeat' (first | with_reducible refine Kp.setCell ?_ ?_ _ | with_reducible refine Kp.allocs ?_ _ _ | with_reducible refine Kp.drew ?_ | with_reducible refine Kp.drewN ?_ _)); all_goals first | exact KW.out | (dsimp only; omega)⟩
  · have t0 : (fl x 4096 8 != 1) = true := by simp; omega
    have t1 : (fl x 4096 8 != 5) = false := by simp; omega
    have t2 : (fl x 67108864 64 == 16) = true := by simp; omega
    have t3 : (fl x 4096 8 == 5) = true := by simp; omega
    have Hh := Lib.hid h
    have Hh2 := Lib.hid h2
    clear h h2
    go_enter Tryz.func37, Tryz.ntmps37
    go_wp2_with (first | (go_at_call 93; (with_reducible refine (rfields_w x 8 x0 x1 _).mono ?_); rintro e' w1 ⟨rfl, qk⟩; have HKw1 := Lib.hid qk; obtain ⟨qw10, qw11, qw12, qw13, qw14, qw15, qw16, qw17, qw18, qw19, qw110⟩ := qk.c11 (b := w.heap.size) (.int .i64 0) (.int .i64 0) (.int .i64 0) (.int .i64 0) (.int .i64 0) (.int .i64 0) (.int .i64 0) (.bool false) (.bool false) (.int .i64 0) (.int .u32 0); obtain ⟨zw10, zw11, zw12, zw13, zw14, zw15, zw16, zw17, zw18, zw19, zw110⟩ := qk.z11 (b := w.heap.size); have sz := qk.size; (try simp at sz); have KW := Lib.hid (Kp.trans ((Kp.refl w).allocs _ _) qk); have ql0 : w.heap.size < w1.heap.size := (by omega); have ql1 : ¬ w.heap.size = w1.heap.size := (by omega); have ql2 : ¬ w1.heap.size = w.heap.size := (by omega); clear qk) | (go_at_call 34; with_reducible refine (rf_31_26 x x0 x1 _).mono ?_; rintro e' w1 ⟨rfl, rfl⟩) | (go_at_call 34; with_reducible refine (rf_25_20 x x0 x1 _).mono ?_; rintro e' w1 ⟨rfl, rfl⟩) | (go_at_call 44; with_reducible refine (rI_w x x0 x1 _).mono ?_; rintro e' w1 ⟨rfl, rfl⟩))
    refine bodyPost_ret (v := .tuple #[Ins.v ⟨8, 9, (fl x 128 32), (fl x 32768 32), 0, fl x 1048576 64, 0, false, false⟩ 4 x, .bool (true)]) (by simp [results, Tryz.results37, go_sem, Ins.v, *]) rfl ⟨RdQ.mk ⟨8, 9, (fl x 128 32), (fl x 32768 32), 0, fl x 1048576 64, 0, false, false⟩ 4 x (true) rfl (by have h := Hh.out; have h2 := Hh2.out; simp [narI, nar, narB, shiftB, spImm, h, h2]) (fun _ => ⟨rfl, rfl⟩), by (repeat' (first | with_reducible refine Kp.setCell ?_ ?_ _ | with_reducible refine Kp.allocs ?_ _ _ | with_reducible refine Kp.drew ?_ | with_reducible refine Kp.drewN ?_ _)); all_goals first | exact KW.out | (dsimp only; omega)⟩
  · have t0 : (fl x 4096 8 != 1) = true := by simp; omega
    have t1 : (fl x 4096 8 != 5) = false := by simp; omega
    have t2 : (fl x 67108864 64 == 16) = false := by simp; omega
    have Hh := Lib.hid h
    have Hh2 := Lib.hid h2
    clear h h2
    go_enter Tryz.func37, Tryz.ntmps37
    go_wp2_with (first | (go_at_call 93; (with_reducible refine (rfields_w x 8 x0 x1 _).mono ?_); rintro e' w1 ⟨rfl, qk⟩; have HKw1 := Lib.hid qk; obtain ⟨qw10, qw11, qw12, qw13, qw14, qw15, qw16, qw17, qw18, qw19, qw110⟩ := qk.c11 (b := w.heap.size) (.int .i64 0) (.int .i64 0) (.int .i64 0) (.int .i64 0) (.int .i64 0) (.int .i64 0) (.int .i64 0) (.bool false) (.bool false) (.int .i64 0) (.int .u32 0); obtain ⟨zw10, zw11, zw12, zw13, zw14, zw15, zw16, zw17, zw18, zw19, zw110⟩ := qk.z11 (b := w.heap.size); have sz := qk.size; (try simp at sz); have KW := Lib.hid (Kp.trans ((Kp.refl w).allocs _ _) qk); have ql0 : w.heap.size < w1.heap.size := (by omega); have ql1 : ¬ w.heap.size = w1.heap.size := (by omega); have ql2 : ¬ w1.heap.size = w.heap.size := (by omega); clear qk) | (go_at_call 34; with_reducible refine (rf_31_26 x x0 x1 _).mono ?_; rintro e' w1 ⟨rfl, rfl⟩) | (go_at_call 34; with_reducible refine (rf_25_20 x x0 x1 _).mono ?_; rintro e' w1 ⟨rfl, rfl⟩) | (go_at_call 44; with_reducible refine (rI_w x x0 x1 _).mono ?_; rintro e' w1 ⟨rfl, rfl⟩))
    refine bodyPost_ret (v := .tuple #[Ins.v ⟨8, (fl x 4096 8), (fl x 128 32), (fl x 32768 32), 0, fl x 1048576 64, 0, false, false⟩ 4 x, .bool (fl x 67108864 64 == 0)]) (by simp [results, Tryz.results37, go_sem, Ins.v, *]) rfl ⟨RdQ.mk ⟨8, (fl x 4096 8), (fl x 128 32), (fl x 32768 32), 0, fl x 1048576 64, 0, false, false⟩ 4 x (fl x 67108864 64 == 0) rfl (by have h := Hh.out; have h2 := Hh2.out; by_cases g : fl x 67108864 64 = 0 <;> simp [narI, spImm, h, g, h2]) (fun _ => ⟨rfl, rfl⟩), by (repeat' (first | with_reducible refine Kp.setCell ?_ ?_ _ | with_reducible refine Kp.allocs ?_ _ _ | with_reducible refine Kp.drew ?_ | with_reducible refine Kp.drewN ?_ _)); all_goals first | exact KW.out | (dsimp only; omega)⟩
set_option maxHeartbeats 4000000 in
theorem raluImm_w (x : Int) (x0 : 0 ≤ x) (x1 : x < 4294967296) (w : World) :
    Calls Tryz.prog 37 #[.int .u32 x, .bool true] w fun e w' => RdQ e x (narI true (spImm x)) ∧ Kp w w' := by
  have brd := fl_bd x 128 32 (by omega)
  have bf3 := fl_bd x 4096 8 (by omega)
  have br1 := fl_bd x 32768 32 (by omega)
  have br2 := fl_bd x 1048576 32 (by omega)
  have bf7 := fl_bd x 33554432 128 (by omega)
  have bh := fl_bd x 67108864 64 (by omega)
  have bs := fl_bd x 1048576 64 (by omega)
  rcases (show ¬ fl x 4096 8 = 1 ∧ ¬ fl x 4096 8 = 5 ∧ ¬ fl x 4096 8 = 0 ∨ fl x 4096 8 = 0 ∨ (fl x 4096 8 = 1 ∨ fl x 4096 8 = 5) ∧ 31 < fl x 1048576 64 ∨ fl x 4096 8 = 1 ∧ fl x 1048576 64 ≤ 31 ∧ fl x 67108864 64 = 16 ∨ fl x 4096 8 = 1 ∧ fl x 1048576 64 ≤ 31 ∧ ¬ fl x 67108864 64 = 16 ∨ fl x 4096 8 = 5 ∧ fl x 67108864 64 = 16 ∧ fl x 1048576 64 ≤ 31 ∨ fl x 4096 8 = 5 ∧ ¬ fl x 67108864 64 = 16 ∧ fl x 1048576 64 ≤ 31 by omega) with h | h | ⟨h | h, h2⟩ | ⟨h, h2, h3⟩ | ⟨h, h2, h3⟩ | ⟨h, h2, h3⟩ | ⟨h, h2, h3⟩
  · have R0 : Rm w.heap.size 11 (w.alloc (.cells #[.int .i64 0, .int .i64 0, .int .i64 0, .int .i64 0, .int .i64 0, .int .i64 0, .int .i64 0, .bool false, .bool false, .int .i64 0, .int .u32 0] 24)) := Rm.new' w [.int .i64 0, .int .i64 0, .int .i64 0, .int .i64 0, .int .i64 0, .int .i64 0, .int .i64 0, .bool false, .bool false, .int .i64 0, .int .u32 0] 24 11 (by simp) (by simp)
    have t0 : (fl x 4096 8 != 1) = true := by simp; omega
    have t1 : (fl x 4096 8 != 5) = true := by simp; omega
    have t2 : (fl x 4096 8 == 0) = false := by simp; omega
    have Hh := Lib.hid h
    clear h
    go_enter Tryz.func37, Tryz.ntmps37
    go_wp2_with (first | (go_at_call 93; (with_reducible refine (rfields_w x 8 x0 x1 _).mono ?_); rintro e' w1 ⟨rfl, qk⟩; have HKw1 := Lib.hid qk; obtain ⟨qw10, qw11, qw12, qw13, qw14, qw15, qw16, qw17, qw18, qw19, qw110⟩ := qk.c11 (b := w.heap.size) (.int .i64 0) (.int .i64 0) (.int .i64 0) (.int .i64 0) (.int .i64 0) (.int .i64 0) (.int .i64 0) (.bool false) (.bool false) (.int .i64 0) (.int .u32 0); obtain ⟨zw10, zw11, zw12, zw13, zw14, zw15, zw16, zw17, zw18, zw19, zw110⟩ := qk.z11 (b := w.heap.size); have sz := qk.size; (try simp at sz); have KW := Lib.hid (Kp.trans ((Kp.refl w).allocs _ _) qk); have ql0 : w.heap.size < w1.heap.size := (by omega); have ql1 : ¬ w.heap.size = w1.heap.size := (by omega); have ql2 : ¬ w1.heap.size = w.heap.size := (by omega); clear qk) | (go_at_call 34; with_reducible refine (rf_31_26 x x0 x1 _).mono ?_; rintro e' w1 ⟨rfl, rfl⟩) | (go_at_call 34; with_reducible refine (rf_25_20 x x0 x1 _).mono ?_; rintro e' w1 ⟨rfl, rfl⟩) | (go_at_call 44; with_reducible refine (rI_w x x0 x1 _).mono ?_; rintro e' w1 ⟨rfl, rfl⟩))
    have R1 := R0.kp HKw1.out (by simp)
    have A1 : At w1.heap.size [.int .i64 8, .int .i64 ((fl x 4096 8)), .int .i64 ((fl x 128 32)), .int .i64 ((fl x 32768 32)), .int .i64 0, .int .i64 (iI x), .int .i64 0, .bool true, .bool false, .int .i64 4, .int .u32 x] (w1.alloc (.cells #[.int .i64 8, .int .i64 ((fl x 4096 8)), .int .i64 ((fl x 128 32)), .int .i64 ((fl x 32768 32)), .int .i64 0, .int .i64 (iI x), .int .i64 0, .bool true, .bool false, .int .i64 4, .int .u32 x] 24)) := At.new' w1 _ _ rfl
    have R2 : Rm w.heap.size 11 (w1.alloc (.cells #[.int .i64 8, .int .i64 ((fl x 4096 8)), .int .i64 ((fl x 128 32)), .int .i64 ((fl x 32768 32)), .int .i64 0, .int .i64 (iI x), .int .i64 0, .bool true, .bool false, .int .i64 4, .int .u32 x] 24)) := R1.alloc _ _
    have kb : Bh w (w1.heap.size + 1) (w1.alloc (.cells #[.int .i64 8, .int .i64 ((fl x 4096 8)), .int .i64 ((fl x 128 32)), .int .i64 ((fl x 32768 32)), .int .i64 0, .int .i64 (iI x), .int .i64 0, .bool true, .bool false, .int .i64 4, .int .u32 x] 24)) := ⟨(((Kp.refl w).allocs _ _).trans HKw1.out).allocs _ _, by omega, by simp⟩
    obtain ⟨W2, hW⟩ : ∃ W2, (w1.alloc (.cells #[.int .i64 8, .int .i64 ((fl x 4096 8)), .int .i64 ((fl x 128 32)), .int .i64 ((fl x 32768 32)), .int .i64 0, .int .i64 (iI x), .int .i64 0, .bool true, .bool false, .int .i64 4, .int .u32 x] 24)) = W2 := ⟨_, rfl⟩
    rw [hW] at A1 R2 kb ⊢
    clear hW
    have d0 := A1 0 _ rfl; have d1 := A1 1 _ rfl; have d2 := A1 2 _ rfl; have d3 := A1 3 _ rfl; have d4 := A1 4 _ rfl; have d5 := A1 5 _ rfl; have d6 := A1 6 _ rfl; have d7 := A1 7 _ rfl; have d8 := A1 8 _ rfl; have d9 := A1 9 _ rfl; have d10 := A1 10 _ rfl
    obtain ⟨⟨_, _⟩, _, ⟨_, _⟩, _, ⟨_, _⟩, _, ⟨_, _⟩, _, ⟨_, _⟩, _, ⟨_, _⟩, _, ⟨_, _⟩, _, ⟨_, _⟩, _, ⟨_, _⟩, _, ⟨_, _⟩, _, ⟨_, _⟩, _⟩ := R2.out11
    refine wp_region_held_drew (S := (fun w' => At (w1.heap.size) [.int .i64 8, .int .i64 ((fl x 4096 8)), .int .i64 ((fl x 128 32)), .int .i64 ((fl x 32768 32)), .int .i64 0, .int .i64 (iI x), .int .i64 0, .bool true, .bool false, .int .i64 4, .int .u32 x] w' ∧ Rm (w.heap.size) 11 w' ∧ Bh w (w1.heap.size + 1) w')) (by kernel_rfl) ⟨At.drew (by with_reducible assumption), Rm.drew (by with_reducible assumption), Bh.drew (by with_reducible assumption)⟩ (fun hS => ?_)
    (refine tk 0 ?_ rfl (Or.inl ⟨by rfl, ?_⟩) hS ?_; rotate_left; focus (intro w' hSw; obtain ⟨s0, s1, sb⟩ := hSw; have c0_0 := s0 0 _ rfl; have c0_1 := s0 1 _ rfl; have c0_2 := s0 2 _ rfl; have c0_3 := s0 3 _ rfl; have c0_4 := s0 4 _ rfl; have c0_5 := s0 5 _ rfl; have c0_6 := s0 6 _ rfl; have c0_7 := s0 7 _ rfl; have c0_8 := s0 8 _ rfl; have c0_9 := s0 9 _ rfl; have c0_10 := s0 10 _ rfl; go_simp <;> try with_reducible rfl))
    try simp only [Act.put, zA, zB, zC]
    (refine tk 1 ?_ rfl (Or.inl ⟨by rfl, ?_⟩) hS ?_; rotate_left; focus (intro w' hSw; obtain ⟨s0, s1, sb⟩ := hSw; go_simp <;> try with_reducible rfl))
    try simp only [Act.put, zA, zB, zC]
    (refine tk 2 ?_ rfl (Or.inl ⟨by rfl, ?_⟩) hS ?_; rotate_left; focus (intro w' hSw; obtain ⟨s0, s1, sb⟩ := hSw; go_simp <;> try with_reducible rfl))
    try simp only [Act.put, zA, zB, zC]
    (refine tk 3 ?_ rfl (Or.inl ⟨by rfl, ?_⟩) hS ?_; rotate_left; focus (intro w' hSw; obtain ⟨s0, s1, sb⟩ := hSw; go_simp <;> try with_reducible rfl))
    try simp only [Act.put, zA, zB, zC]
    (refine tk 4 ?_ rfl ?_ hS ?_; rotate_left; focus (first | (refine Or.inl ⟨by rfl, ?_⟩; intro w' hSw; obtain ⟨s0, s1, sb⟩ := hSw; go_simp <;> try with_reducible rfl) | (refine Or.inr ⟨by rfl, ?_⟩; rfl)))
    try simp only [Act.put, zA, zB, zC]
    (refine tk 5 ?_ rfl ?_ hS ?_; rotate_left; focus (first | (refine Or.inl ⟨by rfl, ?_⟩; intro w' hSw; obtain ⟨s0, s1, sb⟩ := hSw; have c0_0 := s0 0 _ rfl; have c0_1 := s0 1 _ rfl; have c0_2 := s0 2 _ rfl; have c0_3 := s0 3 _ rfl; have c0_4 := s0 4 _ rfl; have c0_5 := s0 5 _ rfl; have c0_6 := s0 6 _ rfl; have c0_7 := s0 7 _ rfl; have c0_8 := s0 8 _ rfl; have c0_9 := s0 9 _ rfl; have c0_10 := s0 10 _ rfl; go_simp <;> try with_reducible rfl) | (refine Or.inr ⟨by rfl, ?_⟩; rfl)))
    try simp only [Act.put, zA, zB, zC]
    (refine tk 6 ?_ rfl ?_ hS ?_; rotate_left; focus (first | (refine Or.inl ⟨by rfl, ?_⟩; intro w' hSw; obtain ⟨s0, s1, sb⟩ := hSw; go_simp <;> try with_reducible rfl) | (refine Or.inr ⟨by rfl, ?_⟩; rfl)))
    try simp only [Act.put, zA, zB, zC]
    (refine tk 7 ?_ rfl (Or.inl ⟨by rfl, ?_⟩) hS ?_; rotate_left; focus (intro w' hSw; obtain ⟨s0, s1, sb⟩ := hSw; go_simp <;> try with_reducible rfl))
    try simp only [Act.put, zA, zB, zC]
    refine rdy 8 rfl (fun K hK => ?_)
    obtain ⟨s0, s1, sb⟩ := hS
    have c0_0 := s0 0 _ rfl; have c0_1 := s0 1 _ rfl; have c0_2 := s0 2 _ rfl; have c0_3 := s0 3 _ rfl; have c0_4 := s0 4 _ rfl; have c0_5 := s0 5 _ rfl; have c0_6 := s0 6 _ rfl; have c0_7 := s0 7 _ rfl; have c0_8 := s0 8 _ rfl; have c0_9 := s0 9 _ rfl; have c0_10 := s0 10 _ rfl
    obtain ⟨⟨_, _⟩, _, ⟨_, _⟩, _, ⟨_, _⟩, _, ⟨_, _⟩, _, ⟨_, _⟩, _, ⟨_, _⟩, _, ⟨_, _⟩, _, ⟨_, _⟩, _, ⟨_, _⟩, _, ⟨_, _⟩, _, ⟨_, _⟩, _⟩ := s1.out11; 
    go_simp
    refine hK.out _ _ ⟨?_, ?_, ?_⟩ (fun hS => ?_)
    · repeat' (first | with_reducible assumption | (with_reducible refine At.set ?_ ?_ _) | with_reducible refine At.drew ?_)
      all_goals first | with_reducible assumption | (dsimp only; omega)
    · repeat' (first | with_reducible assumption | (with_reducible refine Rm.set ?_ _) | with_reducible refine Rm.drew ?_)
      all_goals first | with_reducible assumption | (dsimp only; omega)
    · repeat' (first | with_reducible assumption | with_reducible refine Bh.set2 ?_ ?_ | with_reducible refine Bh.drew ?_)
      all_goals first | with_reducible assumption | (dsimp only; omega)
    clear hK K
    try simp only [Act.put, zA, zB, zC]
    (refine tk 9 ?_ rfl (Or.inl ⟨by rfl, ?_⟩) hS ?_; rotate_left; focus (intro w' hSw; obtain ⟨s0, s1, sb⟩ := hSw; go_simp <;> try with_reducible rfl))
    try simp only [Act.put, zA, zB, zC]
    refine wpAnyH_done (by kernel_rfl) ?_ _
    obtain ⟨s0, s1, sb⟩ := hS
    have c0_0 := s0 0 _ rfl; have c0_1 := s0 1 _ rfl; have c0_2 := s0 2 _ rfl; have c0_3 := s0 3 _ rfl; have c0_4 := s0 4 _ rfl; have c0_5 := s0 5 _ rfl; have c0_6 := s0 6 _ rfl; have c0_7 := s0 7 _ rfl; have c0_8 := s0 8 _ rfl; have c0_9 := s0 9 _ rfl; have c0_10 := s0 10 _ rfl
    go_wp2
    refine bodyPost_ret (v := .tuple #[Ins.v ⟨8, (fl x 4096 8), (fl x 128 32), (fl x 32768 32), 0, iI x, 0, true, false⟩ 4 x, .bool (false)]) ?_ rfl ⟨RdQ.mk ⟨8, (fl x 4096 8), (fl x 128 32), (fl x 32768 32), 0, iI x, 0, true, false⟩ 4 x (false) rfl ?_ (fun _ => ⟨rfl, rfl⟩), ?_⟩
    · simp [results, Tryz.results37, go_sem, Ins.v, *]
    · skip
      have h := Hh.out
      have g8 : ¬ fl x 4096 8 = 9 := (by omega); obtain ⟨g0, g1, g2⟩ := h; simp [narI, nar, narB, shiftB, spImm, g0, g1, g2, g8]
    · with_reducible exact sb.kp
  · have R0 : Rm w.heap.size 11 (w.alloc (.cells #[.int .i64 0, .int .i64 0, .int .i64 0, .int .i64 0, .int .i64 0, .int .i64 0, .int .i64 0, .bool false, .bool false, .int .i64 0, .int .u32 0] 24)) := Rm.new' w [.int .i64 0, .int .i64 0, .int .i64 0, .int .i64 0, .int .i64 0, .int .i64 0, .int .i64 0, .bool false, .bool false, .int .i64 0, .int .u32 0] 24 11 (by simp) (by simp)
    have t0 : (fl x 4096 8 != 1) = true := by simp; omega
    have t1 : (fl x 4096 8 != 5) = true := by simp; omega
    have t2 : (fl x 4096 8 == 0) = true := by simp; omega
    have Hh := Lib.hid h
    clear h
    go_enter Tryz.func37, Tryz.ntmps37
    go_wp2_with (first | (go_at_call 93; (with_reducible refine (rfields_w x 8 x0 x1 _).mono ?_); rintro e' w1 ⟨rfl, qk⟩; have HKw1 := Lib.hid qk; obtain ⟨qw10, qw11, qw12, qw13, qw14, qw15, qw16, qw17, qw18, qw19, qw110⟩ := qk.c11 (b := w.heap.size) (.int .i64 0) (.int .i64 0) (.int .i64 0) (.int .i64 0) (.int .i64 0) (.int .i64 0) (.int .i64 0) (.bool false) (.bool false) (.int .i64 0) (.int .u32 0); obtain ⟨zw10, zw11, zw12, zw13, zw14, zw15, zw16, zw17, zw18, zw19, zw110⟩ := qk.z11 (b := w.heap.size); have sz := qk.size; (try simp at sz); have KW := Lib.hid (Kp.trans ((Kp.refl w).allocs _ _) qk); have ql0 : w.heap.size < w1.heap.size := (by omega); have ql1 : ¬ w.heap.size = w1.heap.size := (by omega); have ql2 : ¬ w1.heap.size = w.heap.size := (by omega); clear qk) | (go_at_call 34; with_reducible refine (rf_31_26 x x0 x1 _).mono ?_; rintro e' w1 ⟨rfl, rfl⟩) | (go_at_call 34; with_reducible refine (rf_25_20 x x0 x1 _).mono ?_; rintro e' w1 ⟨rfl, rfl⟩) | (go_at_call 44; with_reducible refine (rI_w x x0 x1 _).mono ?_; rintro e' w1 ⟨rfl, rfl⟩))
    have R1 := R0.kp HKw1.out (by simp)
    have A1 : At w1.heap.size [.int .i64 8, .int .i64 ((fl x 4096 8)), .int .i64 ((fl x 128 32)), .int .i64 ((fl x 32768 32)), .int .i64 0, .int .i64 (iI x), .int .i64 0, .bool true, .bool false, .int .i64 4, .int .u32 x] (w1.alloc (.cells #[.int .i64 8, .int .i64 ((fl x 4096 8)), .int .i64 ((fl x 128 32)), .int .i64 ((fl x 32768 32)), .int .i64 0, .int .i64 (iI x), .int .i64 0, .bool true, .bool false, .int .i64 4, .int .u32 x] 24)) := At.new' w1 _ _ rfl
    have R2 : Rm w.heap.size 11 (w1.alloc (.cells #[.int .i64 8, .int .i64 ((fl x 4096 8)), .int .i64 ((fl x 128 32)), .int .i64 ((fl x 32768 32)), .int .i64 0, .int .i64 (iI x), .int .i64 0, .bool true, .bool false, .int .i64 4, .int .u32 x] 24)) := R1.alloc _ _
    have kb : Bh w (w1.heap.size + 1) (w1.alloc (.cells #[.int .i64 8, .int .i64 ((fl x 4096 8)), .int .i64 ((fl x 128 32)), .int .i64 ((fl x 32768 32)), .int .i64 0, .int .i64 (iI x), .int .i64 0, .bool true, .bool false, .int .i64 4, .int .u32 x] 24)) := ⟨(((Kp.refl w).allocs _ _).trans HKw1.out).allocs _ _, by omega, by simp⟩
    obtain ⟨W2, hW⟩ : ∃ W2, (w1.alloc (.cells #[.int .i64 8, .int .i64 ((fl x 4096 8)), .int .i64 ((fl x 128 32)), .int .i64 ((fl x 32768 32)), .int .i64 0, .int .i64 (iI x), .int .i64 0, .bool true, .bool false, .int .i64 4, .int .u32 x] 24)) = W2 := ⟨_, rfl⟩
    rw [hW] at A1 R2 kb ⊢
    clear hW
    have d0 := A1 0 _ rfl; have d1 := A1 1 _ rfl; have d2 := A1 2 _ rfl; have d3 := A1 3 _ rfl; have d4 := A1 4 _ rfl; have d5 := A1 5 _ rfl; have d6 := A1 6 _ rfl; have d7 := A1 7 _ rfl; have d8 := A1 8 _ rfl; have d9 := A1 9 _ rfl; have d10 := A1 10 _ rfl
    obtain ⟨⟨_, _⟩, _, ⟨_, _⟩, _, ⟨_, _⟩, _, ⟨_, _⟩, _, ⟨_, _⟩, _, ⟨_, _⟩, _, ⟨_, _⟩, _, ⟨_, _⟩, _, ⟨_, _⟩, _, ⟨_, _⟩, _, ⟨_, _⟩, _⟩ := R2.out11
    refine wp_region_held_drew (S := (fun w' => At (w1.heap.size) [.int .i64 8, .int .i64 ((fl x 4096 8)), .int .i64 ((fl x 128 32)), .int .i64 ((fl x 32768 32)), .int .i64 0, .int .i64 (iI x), .int .i64 0, .bool true, .bool false, .int .i64 4, .int .u32 x] w' ∧ Rm (w.heap.size) 11 w' ∧ Bh w (w1.heap.size + 1) w')) (by kernel_rfl) ⟨At.drew (by with_reducible assumption), Rm.drew (by with_reducible assumption), Bh.drew (by with_reducible assumption)⟩ (fun hS => ?_)
    (refine tk 0 ?_ rfl (Or.inl ⟨by rfl, ?_⟩) hS ?_; rotate_left; focus (intro w' hSw; obtain ⟨s0, s1, sb⟩ := hSw; have c0_0 := s0 0 _ rfl; have c0_1 := s0 1 _ rfl; have c0_2 := s0 2 _ rfl; have c0_3 := s0 3 _ rfl; have c0_4 := s0 4 _ rfl; have c0_5 := s0 5 _ rfl; have c0_6 := s0 6 _ rfl; have c0_7 := s0 7 _ rfl; have c0_8 := s0 8 _ rfl; have c0_9 := s0 9 _ rfl; have c0_10 := s0 10 _ rfl; go_simp <;> try with_reducible rfl))
    try simp only [Act.put, zA, zB, zC]
    (refine tk 1 ?_ rfl (Or.inl ⟨by rfl, ?_⟩) hS ?_; rotate_left; focus (intro w' hSw; obtain ⟨s0, s1, sb⟩ := hSw; go_simp <;> try with_reducible rfl))
    try simp only [Act.put, zA, zB, zC]
    (refine tk 2 ?_ rfl (Or.inl ⟨by rfl, ?_⟩) hS ?_; rotate_left; focus (intro w' hSw; obtain ⟨s0, s1, sb⟩ := hSw; go_simp <;> try with_reducible rfl))
    try simp only [Act.put, zA, zB, zC]
    (refine tk 3 ?_ rfl (Or.inl ⟨by rfl, ?_⟩) hS ?_; rotate_left; focus (intro w' hSw; obtain ⟨s0, s1, sb⟩ := hSw; go_simp <;> try with_reducible rfl))
    try simp only [Act.put, zA, zB, zC]
    (refine tk 4 ?_ rfl ?_ hS ?_; rotate_left; focus (first | (refine Or.inl ⟨by rfl, ?_⟩; intro w' hSw; obtain ⟨s0, s1, sb⟩ := hSw; go_simp <;> try with_reducible rfl) | (refine Or.inr ⟨by rfl, ?_⟩; rfl)))
    try simp only [Act.put, zA, zB, zC]
    (refine tk 5 ?_ rfl ?_ hS ?_; rotate_left; focus (first | (refine Or.inl ⟨by rfl, ?_⟩; intro w' hSw; obtain ⟨s0, s1, sb⟩ := hSw; have c0_0 := s0 0 _ rfl; have c0_1 := s0 1 _ rfl; have c0_2 := s0 2 _ rfl; have c0_3 := s0 3 _ rfl; have c0_4 := s0 4 _ rfl; have c0_5 := s0 5 _ rfl; have c0_6 := s0 6 _ rfl; have c0_7 := s0 7 _ rfl; have c0_8 := s0 8 _ rfl; have c0_9 := s0 9 _ rfl; have c0_10 := s0 10 _ rfl; go_simp <;> try with_reducible rfl) | (refine Or.inr ⟨by rfl, ?_⟩; rfl)))
    try simp only [Act.put, zA, zB, zC]
    (refine tk 6 ?_ rfl ?_ hS ?_; rotate_left; focus (first | (refine Or.inl ⟨by rfl, ?_⟩; intro w' hSw; obtain ⟨s0, s1, sb⟩ := hSw; go_simp <;> try with_reducible rfl) | (refine Or.inr ⟨by rfl, ?_⟩; rfl)))
    try simp only [Act.put, zA, zB, zC]
    (refine tk 7 ?_ rfl (Or.inl ⟨by rfl, ?_⟩) hS ?_; rotate_left; focus (intro w' hSw; obtain ⟨s0, s1, sb⟩ := hSw; go_simp <;> try with_reducible rfl))
    try simp only [Act.put, zA, zB, zC]
    refine rdy 8 rfl (fun K hK => ?_)
    obtain ⟨s0, s1, sb⟩ := hS
    have c0_0 := s0 0 _ rfl; have c0_1 := s0 1 _ rfl; have c0_2 := s0 2 _ rfl; have c0_3 := s0 3 _ rfl; have c0_4 := s0 4 _ rfl; have c0_5 := s0 5 _ rfl; have c0_6 := s0 6 _ rfl; have c0_7 := s0 7 _ rfl; have c0_8 := s0 8 _ rfl; have c0_9 := s0 9 _ rfl; have c0_10 := s0 10 _ rfl
    obtain ⟨⟨_, _⟩, _, ⟨_, _⟩, _, ⟨_, _⟩, _, ⟨_, _⟩, _, ⟨_, _⟩, _, ⟨_, _⟩, _, ⟨_, _⟩, _, ⟨_, _⟩, _, ⟨_, _⟩, _, ⟨_, _⟩, _, ⟨_, _⟩, _⟩ := s1.out11; 
    go_simp
    refine hK.out _ _ ⟨?_, ?_, ?_⟩ (fun hS => ?_)
    · repeat' (first | with_reducible assumption | (with_reducible refine At.set ?_ ?_ _) | with_reducible refine At.drew ?_)
      all_goals first | with_reducible assumption | (dsimp only; omega)
    · repeat' (first | with_reducible assumption | (with_reducible refine Rm.set ?_ _) | with_reducible refine Rm.drew ?_)
      all_goals first | with_reducible assumption | (dsimp only; omega)
    · repeat' (first | with_reducible assumption | with_reducible refine Bh.set2 ?_ ?_ | with_reducible refine Bh.drew ?_)
      all_goals first | with_reducible assumption | (dsimp only; omega)
    clear hK K
    try simp only [Act.put, zA, zB, zC]
    (refine tk 9 ?_ rfl (Or.inl ⟨by rfl, ?_⟩) hS ?_; rotate_left; focus (intro w' hSw; obtain ⟨s0, s1, sb⟩ := hSw; go_simp <;> try with_reducible rfl))
    try simp only [Act.put, zA, zB, zC]
    refine wpAnyH_done (by kernel_rfl) ?_ _
    obtain ⟨s0, s1, sb⟩ := hS
    have c0_0 := s0 0 _ rfl; have c0_1 := s0 1 _ rfl; have c0_2 := s0 2 _ rfl; have c0_3 := s0 3 _ rfl; have c0_4 := s0 4 _ rfl; have c0_5 := s0 5 _ rfl; have c0_6 := s0 6 _ rfl; have c0_7 := s0 7 _ rfl; have c0_8 := s0 8 _ rfl; have c0_9 := s0 9 _ rfl; have c0_10 := s0 10 _ rfl
    go_wp2
    refine bodyPost_ret (v := .tuple #[Ins.v ⟨8, (fl x 4096 8), (fl x 128 32), (fl x 32768 32), 0, iI x, 0, true, false⟩ 4 x, .bool (true)]) ?_ rfl ⟨RdQ.mk ⟨8, (fl x 4096 8), (fl x 128 32), (fl x 32768 32), 0, iI x, 0, true, false⟩ 4 x (true) rfl ?_ (fun _ => ⟨rfl, rfl⟩), ?_⟩
    · simp [results, Tryz.results37, go_sem, Ins.v, *]
    · skip
      have h := Hh.out
      simp [narI, nar, narB, shiftB, spImm, h]
    · with_reducible exact sb.kp
  · have t0 : (fl x 4096 8 != 1) = false := by simp; omega
    have t1 : (fl x 4096 8 == 5) = false := by simp; omega
    have t2 : (decide (31 < fl x 1048576 64)) = true := by simp; omega
    have Hh := Lib.hid h
    have Hh2 := Lib.hid h2
    clear h h2
    go_enter Tryz.func37, Tryz.ntmps37
    go_wp2_with (first | (go_at_call 93; (with_reducible refine (rfields_w x 8 x0 x1 _).mono ?_); rintro e' w1 ⟨rfl, qk⟩; have HKw1 := Lib.hid qk; obtain ⟨qw10, qw11, qw12, qw13, qw14, qw15, qw16, qw17, qw18, qw19, qw110⟩ := qk.c11 (b := w.heap.size) (.int .i64 0) (.int .i64 0) (.int .i64 0) (.int .i64 0) (.int .i64 0) (.int .i64 0) (.int .i64 0) (.bool false) (.bool false) (.int .i64 0) (.int .u32 0); obtain ⟨zw10, zw11, zw12, zw13, zw14, zw15, zw16, zw17, zw18, zw19, zw110⟩ := qk.z11 (b := w.heap.size); have sz := qk.size; (try simp at sz); have KW := Lib.hid (Kp.trans ((Kp.refl w).allocs _ _) qk); have ql0 : w.heap.size < w1.heap.size := (by omega); have ql1 : ¬ w.heap.size = w1.heap.size := (by omega); have ql2 : ¬ w1.heap.size = w.heap.size := (by omega); clear qk) | (go_at_call 34; with_reducible refine (rf_31_26 x x0 x1 _).mono ?_; rintro e' w1 ⟨rfl, rfl⟩) | (go_at_call 34; with_reducible refine (rf_25_20 x x0 x1 _).mono ?_; rintro e' w1 ⟨rfl, rfl⟩) | (go_at_call 44; with_reducible refine (rI_w x x0 x1 _).mono ?_; rintro e' w1 ⟨rfl, rfl⟩))
    refine bodyPost_ret (v := .tuple #[Ins.v zIns 0 0, .bool (false)]) (by simp [results, Tryz.results37, go_sem, Ins.v, zIns, *]) rfl ⟨RdQ.mk zIns 0 0 (false) rfl (by have h := Hh.out; have h2 := Hh2.out; have g3 : ¬ fl x 1048576 64 < 32 := (by omega); by_cases g : fl x 67108864 64 = 0 <;> by_cases g' : fl x 67108864 64 = 16 <;> simp [narI, nar, narB, shiftB, spImm, h, g, g', g3]) (fun h => by cases h), by (repeat' (first | with_reducible refine Kp.setCell ?_ ?_ _ | with_reducible refine Kp.allocs ?_ _ _ | with_reducible refine Kp.drew ?_ | with_reducible refine Kp.drewN ?_ _)); all_goals first | exact KW.out | (dsimp only; omega)⟩
  · have t0 : (fl x 4096 8 != 1) = true := by simp; omega
    have t1 : (fl x 4096 8 != 5) = false := by simp; omega
    have t2 : (fl x 4096 8 == 5) = true := by simp; omega
    have t3 : (decide (31 < fl x 1048576 64)) = true := by simp; omega
    have Hh := Lib.hid h
    have Hh2 := Lib.hid h2
    clear h h2
    go_enter Tryz.func37, Tryz.ntmps37
    go_wp2_with (first | (go_at_call 93; (with_reducible refine (rfields_w x 8 x0 x1 _).mono ?_); rintro e' w1 ⟨rfl, qk⟩; have HKw1 := Lib.hid qk; obtain ⟨qw10, qw11, qw12, qw13, qw14, qw15, qw16, qw17, qw18, qw19, qw110⟩ := qk.c11 (b := w.heap.size) (.int .i64 0) (.int .i64 0) (.int .i64 0) (.int .i64 0) (.int .i64 0) (.int .i64 0) (.int .i64 0) (.bool false) (.bool false) (.int .i64 0) (.int .u32 0); obtain ⟨zw10, zw11, zw12, zw13, zw14, zw15, zw16, zw17, zw18, zw19, zw110⟩ := qk.z11 (b := w.heap.size); have sz := qk.size; (try simp at sz); have KW := Lib.hid (Kp.trans ((Kp.refl w).allocs _ _) qk); have ql0 : w.heap.size < w1.heap.size := (by omega); have ql1 : ¬ w.heap.size = w1.heap.size := (by omega); have ql2 : ¬ w1.heap.size = w.heap.size := (by omega); clear qk) | (go_at_call 34; with_reducible refine (rf_31_26 x x0 x1 _).mono ?_; rintro e' w1 ⟨rfl, rfl⟩) | (go_at_call 34; with_reducible refine (rf_25_20 x x0 x1 _).mono ?_; rintro e' w1 ⟨rfl, rfl⟩) | (go_at_call 44; with_reducible refine (rI_w x x0 x1 _).mono ?_; rintro e' w1 ⟨rfl, rfl⟩))
    refine bodyPost_ret (v := .tuple #[Ins.v zIns 0 0, .bool (false)]) (by simp [results, Tryz.results37, go_sem, Ins.v, zIns, *]) rfl ⟨RdQ.mk zIns 0 0 (false) rfl (by have h := Hh.out; have h2 := Hh2.out; have g3 : ¬ fl x 1048576 64 < 32 := (by omega); by_cases g : fl x 67108864 64 = 0 <;> by_cases g' : fl x 67108864 64 = 16 <;> simp [narI, nar, narB, shiftB, spImm, h, g, g', g3]) (fun h => by cases h), by (repeat' (first | with_reducible refine Kp.setCell ?_ ?_ _ | with_reducible refine Kp.allocs ?_ _ _ | with_reducible refine Kp.drew ?_ | with_reducible refine Kp.drewN ?_ _)); all_goals first | exact KW.out | (dsimp only; omega)⟩
  · have t0 : (fl x 4096 8 != 1) = false := by simp; omega
    have t1 : (fl x 4096 8 == 5) = false := by simp; omega
    have t2 : (fl x 67108864 64 == 16) = true := by simp; omega
    have t3 : (decide (31 < fl x 1048576 64)) = false := by simp; omega
    have Hh := Lib.hid h
    have Hh2 := Lib.hid h2
    have Hh3 := Lib.hid h3
    clear h h2 h3
    go_enter Tryz.func37, Tryz.ntmps37
    go_wp2_with (first | (go_at_call 93; (with_reducible refine (rfields_w x 8 x0 x1 _).mono ?_); rintro e' w1 ⟨rfl, qk⟩; have HKw1 := Lib.hid qk; obtain ⟨qw10, qw11, qw12, qw13, qw14, qw15, qw16, qw17, qw18, qw19, qw110⟩ := qk.c11 (b := w.heap.size) (.int .i64 0) (.int .i64 0) (.int .i64 0) (.int .i64 0) (.int .i64 0) (.int .i64 0) (.int .i64 0) (.bool false) (.bool false) (.int .i64 0) (.int .u32 0); obtain ⟨zw10, zw11, zw12, zw13, zw14, zw15, zw16, zw17, zw18, zw19, zw110⟩ := qk.z11 (b := w.heap.size); have sz := qk.size; (try simp at sz); have KW := Lib.hid (Kp.trans ((Kp.refl w).allocs _ _) qk); have ql0 : w.heap.size < w1.heap.size := (by omega); have ql1 : ¬ w.heap.size = w1.heap.size := (by omega); have ql2 : ¬ w1.heap.size = w.heap.size := (by omega); clear qk) | (go_at_call 34; with_reducible refine (rf_31_26 x x0 x1 _).mono ?_; rintro e' w1 ⟨rfl, rfl⟩) | (go_at_call 34; with_reducible refine (rf_25_20 x x0 x1 _).mono ?_; rintro e' w1 ⟨rfl, rfl⟩) | (go_at_call 44; with_reducible refine (rI_w x x0 x1 _).mono ?_; rintro e' w1 ⟨rfl, rfl⟩))
    refine bodyPost_ret (v := .tuple #[Ins.v ⟨8, (fl x 4096 8), (fl x 128 32), (fl x 32768 32), 0, fl x 1048576 64, 0, true, false⟩ 4 x, .bool (fl x 67108864 64 == 0)]) (by simp [results, Tryz.results37, go_sem, Ins.v, *]) rfl ⟨RdQ.mk ⟨8, (fl x 4096 8), (fl x 128 32), (fl x 32768 32), 0, fl x 1048576 64, 0, true, false⟩ 4 x (fl x 67108864 64 == 0) rfl (by have h := Hh.out; have h2 := Hh2.out; have h3 := Hh3.out; have g3 : fl x 1048576 64 < 32 := (by omega); by_cases g : fl x 67108864 64 = 0 <;> by_cases g' : fl x 67108864 64 = 16 <;> simp [narI, nar, narB, shiftB, spImm, h, g, g', g3]) (fun _ => ⟨rfl, rfl⟩), by (repeat' (first | with_reducible refine Kp.setCell ?_ ?_ _ | with_reducible refine Kp.allocs ?_ _ _ | with_reducible refine Kp.drew ?_ | with_reducible refine Kp.drewN ?_ _)); all_goals first | exact KW.out | (dsimp only; omega)⟩
  · have t0 : (fl x 4096 8 != 1) = false := by simp; omega
    have t1 : (fl x 4096 8 == 5) = false := by simp; omega
    have t2 : (fl x 67108864 64 == 16) = false := by simp; omega
    have t3 : (decide (31 < fl x 1048576 64)) = false := by simp; omega
    have Hh := Lib.hid h
    have Hh2 := Lib.hid h2
    have Hh3 := Lib.hid h3
    clear h h2 h3
    go_enter Tryz.func37, Tryz.ntmps37
    go_wp2_with (first | (go_at_call 93; (with_reducible refine (rfields_w x 8 x0 x1 _).mono ?_); rintro e' w1 ⟨rfl, qk⟩; have HKw1 := Lib.hid qk; obtain ⟨qw10, qw11, qw12, qw13, qw14, qw15, qw16, qw17, qw18, qw19, qw110⟩ := qk.c11 (b := w.heap.size) (.int .i64 0) (.int .i64 0) (.int .i64 0) (.int .i64 0) (.int .i64 0) (.int .i64 0) (.int .i64 0) (.bool false) (.bool false) (.int .i64 0) (.int .u32 0); obtain ⟨zw10, zw11, zw12, zw13, zw14, zw15, zw16, zw17, zw18, zw19, zw110⟩ := qk.z11 (b := w.heap.size); have sz := qk.size; (try simp at sz); have KW := Lib.hid (Kp.trans ((Kp.refl w).allocs _ _) qk); have ql0 : w.heap.size < w1.heap.size := (by omega); have ql1 : ¬ w.heap.size = w1.heap.size := (by omega); have ql2 : ¬ w1.heap.size = w.heap.size := (by omega); clear qk) | (go_at_call 34; with_reducible refine (rf_31_26 x x0 x1 _).mono ?_; rintro e' w1 ⟨rfl, rfl⟩) | (go_at_call 34; with_reducible refine (rf_25_20 x x0 x1 _).mono ?_; rintro e' w1 ⟨rfl, rfl⟩) | (go_at_call 44; with_reducible refine (rI_w x x0 x1 _).mono ?_; rintro e' w1 ⟨rfl, rfl⟩))
    refine bodyPost_ret (v := .tuple #[Ins.v ⟨8, (fl x 4096 8), (fl x 128 32), (fl x 32768 32), 0, fl x 1048576 64, 0, true, false⟩ 4 x, .bool (fl x 67108864 64 == 0)]) (by simp [results, Tryz.results37, go_sem, Ins.v, *]) rfl ⟨RdQ.mk ⟨8, (fl x 4096 8), (fl x 128 32), (fl x 32768 32), 0, fl x 1048576 64, 0, true, false⟩ 4 x (fl x 67108864 64 == 0) rfl (by have h := Hh.out; have h2 := Hh2.out; have h3 := Hh3.out; have g3 : fl x 1048576 64 < 32 := (by omega); by_cases g : fl x 67108864 64 = 0 <;> by_cases g' : fl x 67108864 64 = 16 <;> simp [narI, nar, narB, shiftB, spImm, h, g, g', g3]) (fun _ => ⟨rfl, rfl⟩), by (repeat' (first | with_reducible refine Kp.setCell ?_ ?_ _ | with_reducible refine Kp.allocs ?_ _ _ | with_reducible refine Kp.drew ?_ | with_reducible refine Kp.drewN ?_ _)); all_goals first | exact KW.out | (dsimp only; omega)⟩
  · have t0 : (fl x 4096 8 != 1) = true := by simp; omega
    have t1 : (fl x 4096 8 != 5) = false := by simp; omega
    have t2 : (fl x 67108864 64 == 16) = true := by simp; omega
    have t3 : (fl x 4096 8 == 5) = true := by simp; omega
    have t4 : (decide (31 < fl x 1048576 64)) = false := by simp; omega
    have Hh := Lib.hid h
    have Hh2 := Lib.hid h2
    have Hh3 := Lib.hid h3
    clear h h2 h3
    go_enter Tryz.func37, Tryz.ntmps37
    go_wp2_with (first | (go_at_call 93; (with_reducible refine (rfields_w x 8 x0 x1 _).mono ?_); rintro e' w1 ⟨rfl, qk⟩; have HKw1 := Lib.hid qk; obtain ⟨qw10, qw11, qw12, qw13, qw14, qw15, qw16, qw17, qw18, qw19, qw110⟩ := qk.c11 (b := w.heap.size) (.int .i64 0) (.int .i64 0) (.int .i64 0) (.int .i64 0) (.int .i64 0) (.int .i64 0) (.int .i64 0) (.bool false) (.bool false) (.int .i64 0) (.int .u32 0); obtain ⟨zw10, zw11, zw12, zw13, zw14, zw15, zw16, zw17, zw18, zw19, zw110⟩ := qk.z11 (b := w.heap.size); have sz := qk.size; (try simp at sz); have KW := Lib.hid (Kp.trans ((Kp.refl w).allocs _ _) qk); have ql0 : w.heap.size < w1.heap.size := (by omega); have ql1 : ¬ w.heap.size = w1.heap.size := (by omega); have ql2 : ¬ w1.heap.size = w.heap.size := (by omega); clear qk) | (go_at_call 34; with_reducible refine (rf_31_26 x x0 x1 _).mono ?_; rintro e' w1 ⟨rfl, rfl⟩) | (go_at_call 34; with_reducible refine (rf_25_20 x x0 x1 _).mono ?_; rintro e' w1 ⟨rfl, rfl⟩) | (go_at_call 44; with_reducible refine (rI_w x x0 x1 _).mono ?_; rintro e' w1 ⟨rfl, rfl⟩))
    refine bodyPost_ret (v := .tuple #[Ins.v ⟨8, 9, (fl x 128 32), (fl x 32768 32), 0, fl x 1048576 64, 0, true, false⟩ 4 x, .bool (true)]) (by simp [results, Tryz.results37, go_sem, Ins.v, *]) rfl ⟨RdQ.mk ⟨8, 9, (fl x 128 32), (fl x 32768 32), 0, fl x 1048576 64, 0, true, false⟩ 4 x (true) rfl (by have h := Hh.out; have h2 := Hh2.out; have h3 := Hh3.out; have g3 : fl x 1048576 64 < 32 := (by omega); simp [narI, nar, narB, shiftB, spImm, h, h2, g3]) (fun _ => ⟨rfl, rfl⟩), by (repeat' (first | with_reducible refine Kp.setCell ?_ ?_ _ | with_reducible refine Kp.allocs ?_ _ _ | with_reducible refine Kp.drew ?_ | with_reducible refine Kp.drewN ?_ _)); all_goals first | exact KW.out | (dsimp only; omega)⟩
  · have t0 : (fl x 4096 8 != 1) = true := by simp; omega
    have t1 : (fl x 4096 8 != 5) = false := by simp; omega
    have t2 : (fl x 67108864 64 == 16) = false := by simp; omega
    have t3 : (decide (31 < fl x 1048576 64)) = false := by simp; omega
    have Hh := Lib.hid h
    have Hh2 := Lib.hid h2
    have Hh3 := Lib.hid h3
    clear h h2 h3
    go_enter Tryz.func37, Tryz.ntmps37
    go_wp2_with (first | (go_at_call 93; (with_reducible refine (rfields_w x 8 x0 x1 _).mono ?_); rintro e' w1 ⟨rfl, qk⟩; have HKw1 := Lib.hid qk; obtain ⟨qw10, qw11, qw12, qw13, qw14, qw15, qw16, qw17, qw18, qw19, qw110⟩ := qk.c11 (b := w.heap.size) (.int .i64 0) (.int .i64 0) (.int .i64 0) (.int .i64 0) (.int .i64 0) (.int .i64 0) (.int .i64 0) (.bool false) (.bool false) (.int .i64 0) (.int .u32 0); obtain ⟨zw10, zw11, zw12, zw13, zw14, zw15, zw16, zw17, zw18, zw19, zw110⟩ := qk.z11 (b := w.heap.size); have sz := qk.size; (try simp at sz); have KW := Lib.hid (Kp.trans ((Kp.refl w).allocs _ _) qk); have ql0 : w.heap.size < w1.heap.size := (by omega); have ql1 : ¬ w.heap.size = w1.heap.size := (by omega); have ql2 : ¬ w1.heap.size = w.heap.size := (by omega); clear qk) | (go_at_call 34; with_reducible refine (rf_31_26 x x0 x1 _).mono ?_; rintro e' w1 ⟨rfl, rfl⟩) | (go_at_call 34; with_reducible refine (rf_25_20 x x0 x1 _).mono ?_; rintro e' w1 ⟨rfl, rfl⟩) | (go_at_call 44; with_reducible refine (rI_w x x0 x1 _).mono ?_; rintro e' w1 ⟨rfl, rfl⟩))
    refine bodyPost_ret (v := .tuple #[Ins.v ⟨8, (fl x 4096 8), (fl x 128 32), (fl x 32768 32), 0, fl x 1048576 64, 0, true, false⟩ 4 x, .bool (fl x 67108864 64 == 0)]) (by simp [results, Tryz.results37, go_sem, Ins.v, *]) rfl ⟨RdQ.mk ⟨8, (fl x 4096 8), (fl x 128 32), (fl x 32768 32), 0, fl x 1048576 64, 0, true, false⟩ 4 x (fl x 67108864 64 == 0) rfl (by have h := Hh.out; have h2 := Hh2.out; have h3 := Hh3.out; have g3 : fl x 1048576 64 < 32 := (by omega); by_cases g : fl x 67108864 64 = 0 <;> simp [narI, nar, narB, shiftB, spImm, h, g, h2, g3]) (fun _ => ⟨rfl, rfl⟩), by (repeat' (first | with_reducible refine Kp.setCell ?_ ?_ _ | with_reducible refine Kp.allocs ?_ _ _ | with_reducible refine Kp.drew ?_ | with_reducible refine Kp.drewN ?_ _)); all_goals first | exact KW.out | (dsimp only; omega)⟩
end Go.Proofs.YtlfeandnpflaaaaGreatDoor
