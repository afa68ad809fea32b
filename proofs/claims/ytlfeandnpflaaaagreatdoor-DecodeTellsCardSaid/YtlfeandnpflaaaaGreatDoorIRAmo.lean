/-
  Contracts of the document's readers for layer 7: atomics, the others. No condition.
-/
import Derived.Test.YtlfeandnpflaaaaGreatDoorIRIn
namespace Go.Proofs.YtlfeandnpflaaaaGreatDoor
open Go.ChangeShapes Go.WideShapes Go.ChangeAt Go.RowKit
set_option linter.unusedVariables false
set_option linter.unusedSimpArgs false

set_option maxRecDepth 4000 in
set_option maxHeartbeats 4000000 in
theorem ratomic_w (x : Int) (x0 : 0 ≤ x) (x1 : x < 4294967296) (w : World) :
    Calls Tryz.prog 40 #[.int .u32 x] w fun e w' => RdQ e x (spAmo x) ∧ Kp w w' := by
  have brd := fl_bd x 128 32 (by omega)
  have bf3 := fl_bd x 4096 8 (by omega)
  have br1 := fl_bd x 32768 32 (by omega)
  have br2 := fl_bd x 1048576 32 (by omega)
  have bf7 := fl_bd x 33554432 128 (by omega)
  have ba := fl_bd x 134217728 32 (by omega)
  rcases (show ¬ fl x 4096 8 = 2 ∧ ¬ fl x 4096 8 = 3 ∨ fl x 4096 8 = 2 ∧ fl x 134217728 32 = 2 ∨ fl x 4096 8 = 2 ∧ fl x 134217728 32 = 3 ∨ fl x 4096 8 = 2 ∧ ¬ fl x 134217728 32 = 2 ∧ ¬ fl x 134217728 32 = 3 ∨ fl x 4096 8 = 3 ∧ fl x 134217728 32 = 2 ∨ fl x 4096 8 = 3 ∧ fl x 134217728 32 = 3 ∨ fl x 4096 8 = 3 ∧ ¬ fl x 134217728 32 = 2 ∧ ¬ fl x 134217728 32 = 3 by omega) with ⟨h, h2⟩ | ⟨h, h2⟩ | ⟨h, h2⟩ | ⟨h, h2⟩ | ⟨h, h2⟩ | ⟨h, h2⟩ | ⟨h, h2⟩
  · have t0 : (fl x 4096 8 != 2) = true := by simp; omega
    have t1 : (fl x 4096 8 != 3) = true := by simp; omega
    have Hh := Lib.hid h
    have Hh2 := Lib.hid h2
    clear h h2
    go_enter Tryz.func40, Tryz.ntmps40
    go_wp2_with (first | (go_at_call 93; (with_reducible refine (rfields_w x 22 x0 x1 _).mono ?_); rintro e' w1 ⟨rfl, qk⟩; have HKw1 := Lib.hid qk; obtain ⟨qw10, qw11, qw12, qw13, qw14, qw15, qw16, qw17, qw18, qw19, qw110⟩ := qk.c11 (b := w.heap.size) (.int .i64 0) (.int .i64 0) (.int .i64 0) (.int .i64 0) (.int .i64 0) (.int .i64 0) (.int .i64 0) (.bool false) (.bool false) (.int .i64 0) (.int .u32 0); obtain ⟨zw10, zw11, zw12, zw13, zw14, zw15, zw16, zw17, zw18, zw19, zw110⟩ := qk.z11 (b := w.heap.size); have sz := qk.size; (try simp at sz); have KW := Lib.hid (Kp.trans ((Kp.refl w).allocs _ _) qk); have ql0 : w.heap.size < w1.heap.size := (by omega); have ql1 : ¬ w.heap.size = w1.heap.size := (by omega); have ql2 : ¬ w1.heap.size = w.heap.size := (by omega); clear qk) | (go_at_call 34; with_reducible refine (rf_31_27 x x0 x1 _).mono ?_; rintro e' w1 ⟨rfl, rfl⟩))
    refine bodyPost_ret (v := .tuple #[Ins.v zIns 0 0, .bool (false)]) (by simp [results, Tryz.results40, go_sem, Ins.v, zIns, *]) rfl ⟨RdQ.mk zIns 0 0 (false) rfl (by have h := Hh.out; have h2 := Hh2.out; simp [spAmo, h, h2]) (fun h => by cases h), by (repeat' (first | with_reducible refine Kp.setCell ?_ ?_ _ | with_reducible refine Kp.allocs ?_ _ _ | with_reducible refine Kp.drew ?_ | with_reducible refine Kp.drewN ?_ _)); all_goals first | exact KW.out | (dsimp only; omega)⟩
  · have R0 : Rm w.heap.size 11 (w.alloc (.cells #[.int .i64 0, .int .i64 0, .int .i64 0, .int .i64 0, .int .i64 0, .int .i64 0, .int .i64 0, .bool false, .bool false, .int .i64 0, .int .u32 0] 24)) := Rm.new' w [.int .i64 0, .int .i64 0, .int .i64 0, .int .i64 0, .int .i64 0, .int .i64 0, .int .i64 0, .bool false, .bool false, .int .i64 0, .int .u32 0] 24 11 (by simp) (by simp)
    have t0 : (fl x 4096 8 != 2) = false := by simp; omega
    have t1 : (fl x 134217728 32 == 2) = true := by simp; omega
    have Hh := Lib.hid h
    have Hh2 := Lib.hid h2
    clear h h2
    go_enter Tryz.func40, Tryz.ntmps40
    go_wp2_with (first | (go_at_call 93; (with_reducible refine (rfields_w x 22 x0 x1 _).mono ?_); rintro e' w1 ⟨rfl, qk⟩; have HKw1 := Lib.hid qk; obtain ⟨qw10, qw11, qw12, qw13, qw14, qw15, qw16, qw17, qw18, qw19, qw110⟩ := qk.c11 (b := w.heap.size) (.int .i64 0) (.int .i64 0) (.int .i64 0) (.int .i64 0) (.int .i64 0) (.int .i64 0) (.int .i64 0) (.bool false) (.bool false) (.int .i64 0) (.int .u32 0); obtain ⟨zw10, zw11, zw12, zw13, zw14, zw15, zw16, zw17, zw18, zw19, zw110⟩ := qk.z11 (b := w.heap.size); have sz := qk.size; (try simp at sz); have KW := Lib.hid (Kp.trans ((Kp.refl w).allocs _ _) qk); have ql0 : w.heap.size < w1.heap.size := (by omega); have ql1 : ¬ w.heap.size = w1.heap.size := (by omega); have ql2 : ¬ w1.heap.size = w.heap.size := (by omega); clear qk) | (go_at_call 34; with_reducible refine (rf_31_27 x x0 x1 _).mono ?_; rintro e' w1 ⟨rfl, rfl⟩))
    have R1 := R0.kp HKw1.out (by simp)
    have A1 : At w1.heap.size [.int .i64 20, .int .i64 0, .int .i64 ((fl x 128 32)), .int .i64 ((fl x 32768 32)), .int .i64 ((fl x 1048576 32)), .int .i64 0, .int .i64 ((fl x 4096 8)), .bool false, .bool false, .int .i64 4, .int .u32 x] (w1.alloc (.cells #[.int .i64 20, .int .i64 0, .int .i64 ((fl x 128 32)), .int .i64 ((fl x 32768 32)), .int .i64 ((fl x 1048576 32)), .int .i64 0, .int .i64 ((fl x 4096 8)), .bool false, .bool false, .int .i64 4, .int .u32 x] 24)) := At.new' w1 _ _ rfl
    have R2 : Rm w.heap.size 11 (w1.alloc (.cells #[.int .i64 20, .int .i64 0, .int .i64 ((fl x 128 32)), .int .i64 ((fl x 32768 32)), .int .i64 ((fl x 1048576 32)), .int .i64 0, .int .i64 ((fl x 4096 8)), .bool false, .bool false, .int .i64 4, .int .u32 x] 24)) := R1.alloc _ _
    have kb : Bh w (w1.heap.size + 1) (w1.alloc (.cells #[.int .i64 20, .int .i64 0, .int .i64 ((fl x 128 32)), .int .i64 ((fl x 32768 32)), .int .i64 ((fl x 1048576 32)), .int .i64 0, .int .i64 ((fl x 4096 8)), .bool false, .bool false, .int .i64 4, .int .u32 x] 24)) := ⟨(((Kp.refl w).allocs _ _).trans HKw1.out).allocs _ _, by omega, by simp⟩
    obtain ⟨W2, hW⟩ : ∃ W2, (w1.alloc (.cells #[.int .i64 20, .int .i64 0, .int .i64 ((fl x 128 32)), .int .i64 ((fl x 32768 32)), .int .i64 ((fl x 1048576 32)), .int .i64 0, .int .i64 ((fl x 4096 8)), .bool false, .bool false, .int .i64 4, .int .u32 x] 24)) = W2 := ⟨_, rfl⟩
    rw [hW] at A1 R2 kb ⊢
    clear hW
    have d0 := A1 0 _ rfl; have d1 := A1 1 _ rfl; have d2 := A1 2 _ rfl; have d3 := A1 3 _ rfl; have d4 := A1 4 _ rfl; have d5 := A1 5 _ rfl; have d6 := A1 6 _ rfl; have d7 := A1 7 _ rfl; have d8 := A1 8 _ rfl; have d9 := A1 9 _ rfl; have d10 := A1 10 _ rfl
    obtain ⟨⟨_, _⟩, _, ⟨_, _⟩, _, ⟨_, _⟩, _, ⟨_, _⟩, _, ⟨_, _⟩, _, ⟨_, _⟩, _, ⟨_, _⟩, _, ⟨_, _⟩, _, ⟨_, _⟩, _, ⟨_, _⟩, _, ⟨_, _⟩, _⟩ := R2.out11
    refine wp_region_held_drew (S := (fun w' => At (w1.heap.size) [.int .i64 20, .int .i64 0, .int .i64 ((fl x 128 32)), .int .i64 ((fl x 32768 32)), .int .i64 ((fl x 1048576 32)), .int .i64 0, .int .i64 ((fl x 4096 8)), .bool false, .bool false, .int .i64 4, .int .u32 x] w' ∧ Rm (w.heap.size) 11 w' ∧ Bh w (w1.heap.size + 1) w')) (by kernel_rfl) ⟨At.drew (by with_reducible assumption), Rm.drew (by with_reducible assumption), Bh.drew (by with_reducible assumption)⟩ (fun hS => ?_)
    (refine tk 0 ?_ rfl (Or.inl ⟨by rfl, ?_⟩) hS ?_; rotate_left; focus (intro w' hSw; obtain ⟨s0, s1, sb⟩ := hSw; have c0_0 := s0 0 _ rfl; have c0_1 := s0 1 _ rfl; have c0_2 := s0 2 _ rfl; have c0_3 := s0 3 _ rfl; have c0_4 := s0 4 _ rfl; have c0_5 := s0 5 _ rfl; have c0_6 := s0 6 _ rfl; have c0_7 := s0 7 _ rfl; have c0_8 := s0 8 _ rfl; have c0_9 := s0 9 _ rfl; have c0_10 := s0 10 _ rfl; go_simp <;> try with_reducible rfl))
    try simp only [Act.put, zA, zB, zC]
    (refine tk 1 ?_ rfl (Or.inl ⟨by rfl, ?_⟩) hS ?_; rotate_left; focus (intro w' hSw; obtain ⟨s0, s1, sb⟩ := hSw; go_simp <;> try with_reducible rfl))
    try simp only [Act.put, zA, zB, zC]
    (refine tk 2 ?_ rfl (Or.inl ⟨by rfl, ?_⟩) hS ?_; rotate_left; focus (intro w' hSw; obtain ⟨s0, s1, sb⟩ := hSw; have c0_0 := s0 0 _ rfl; have c0_1 := s0 1 _ rfl; have c0_2 := s0 2 _ rfl; have c0_3 := s0 3 _ rfl; have c0_4 := s0 4 _ rfl; have c0_5 := s0 5 _ rfl; have c0_6 := s0 6 _ rfl; have c0_7 := s0 7 _ rfl; have c0_8 := s0 8 _ rfl; have c0_9 := s0 9 _ rfl; have c0_10 := s0 10 _ rfl; go_simp <;> try with_reducible rfl))
    try simp only [Act.put, zA, zB, zC]
    (refine tk 3 ?_ rfl (Or.inl ⟨by rfl, ?_⟩) hS ?_; rotate_left; focus (intro w' hSw; obtain ⟨s0, s1, sb⟩ := hSw; go_simp <;> try with_reducible rfl))
    try simp only [Act.put, zA, zB, zC]
    refine rdy 4 rfl (fun K hK => ?_)
    obtain ⟨s0, s1, sb⟩ := hS
    have c0_0 := s0 0 _ rfl; have c0_1 := s0 1 _ rfl; have c0_2 := s0 2 _ rfl; have c0_3 := s0 3 _ rfl; have c0_4 := s0 4 _ rfl; have c0_5 := s0 5 _ rfl; have c0_6 := s0 6 _ rfl; have c0_7 := s0 7 _ rfl; have c0_8 := s0 8 _ rfl; have c0_9 := s0 9 _ rfl; have c0_10 := s0 10 _ rfl
    obtain ⟨⟨_, _⟩, _, ⟨_, _⟩, _, ⟨_, _⟩, _, ⟨_, _⟩, _, ⟨_, _⟩, _, ⟨_, _⟩, _, ⟨_, _⟩, _, ⟨_, _⟩, _, ⟨_, _⟩, _, ⟨_, _⟩, _, ⟨_, _⟩, _⟩ := s1.out11; 
    go_simp
    refine hK.out _ _ ⟨?_, ?_, ?_⟩ (fun hS => ?_)
    · repeat' (first | with_reducible assumption | (with_reducible refine At.set ?_ ?_ _) | with_reducible refine At.drew ?_)
      all_goals first | with_reducible assumption | (dsimp only; omega)
    · repeat' (first | with_reducible assumption | (with_reducible refine Rm.set ?_ _) | with_reducible refine Rm.drew ?_)
      all_goals first | with_reducible assumption | (dsimp only; omega)
    · repeat' (first | with_reducible assumption | with_reducible refine Bh.set2 ?_ ?_ | with_reducible refine Bh.drew ?_)
      all_goals first | with_reducible assumption | (dsimp only; omega)
    clear hK K
    try simp only [Act.put, zA, zB, zC]
    (refine tk 5 ?_ rfl (Or.inl ⟨by rfl, ?_⟩) hS ?_; rotate_left; focus (intro w' hSw; obtain ⟨s0, s1, sb⟩ := hSw; go_simp <;> try with_reducible rfl))
    try simp only [Act.put, zA, zB, zC]
    refine wpAnyH_done (by kernel_rfl) ?_ _
    obtain ⟨s0, s1, sb⟩ := hS
    have c0_0 := s0 0 _ rfl; have c0_1 := s0 1 _ rfl; have c0_2 := s0 2 _ rfl; have c0_3 := s0 3 _ rfl; have c0_4 := s0 4 _ rfl; have c0_5 := s0 5 _ rfl; have c0_6 := s0 6 _ rfl; have c0_7 := s0 7 _ rfl; have c0_8 := s0 8 _ rfl; have c0_9 := s0 9 _ rfl; have c0_10 := s0 10 _ rfl
    go_wp2
    refine bodyPost_ret (v := .tuple #[Ins.v ⟨20, 0, (fl x 128 32), (fl x 32768 32), (fl x 1048576 32), 0, (fl x 4096 8), false, false⟩ 4 x, .bool (fl x 1048576 32 == 0)]) ?_ rfl ⟨RdQ.mk ⟨20, 0, (fl x 128 32), (fl x 32768 32), (fl x 1048576 32), 0, (fl x 4096 8), false, false⟩ 4 x (fl x 1048576 32 == 0) rfl ?_ (fun _ => ⟨rfl, rfl⟩), ?_⟩
    · simp [results, Tryz.results40, go_sem, Ins.v, *]
    · skip
      have h := Hh.out
      have h2 := Hh2.out
      by_cases g : fl x 1048576 32 = 0 <;> simp [spAmo, h, h2, g]
    · with_reducible exact sb.kp
  · have t0 : (fl x 4096 8 != 2) = false := by simp; omega
    have t1 : (fl x 134217728 32 == 2) = false := by simp; omega
    have t2 : (fl x 134217728 32 == 3) = true := by simp; omega
    have Hh := Lib.hid h
    have Hh2 := Lib.hid h2
    clear h h2
    go_enter Tryz.func40, Tryz.ntmps40
    go_wp2_with (first | (go_at_call 93; (with_reducible refine (rfields_w x 22 x0 x1 _).mono ?_); rintro e' w1 ⟨rfl, qk⟩; have HKw1 := Lib.hid qk; obtain ⟨qw10, qw11, qw12, qw13, qw14, qw15, qw16, qw17, qw18, qw19, qw110⟩ := qk.c11 (b := w.heap.size) (.int .i64 0) (.int .i64 0) (.int .i64 0) (.int .i64 0) (.int .i64 0) (.int .i64 0) (.int .i64 0) (.bool false) (.bool false) (.int .i64 0) (.int .u32 0); obtain ⟨zw10, zw11, zw12, zw13, zw14, zw15, zw16, zw17, zw18, zw19, zw110⟩ := qk.z11 (b := w.heap.size); have sz := qk.size; (try simp at sz); have KW := Lib.hid (Kp.trans ((Kp.refl w).allocs _ _) qk); have ql0 : w.heap.size < w1.heap.size := (by omega); have ql1 : ¬ w.heap.size = w1.heap.size := (by omega); have ql2 : ¬ w1.heap.size = w.heap.size := (by omega); clear qk) | (go_at_call 34; with_reducible refine (rf_31_27 x x0 x1 _).mono ?_; rintro e' w1 ⟨rfl, rfl⟩))
    refine bodyPost_ret (v := .tuple #[Ins.v ⟨21, 0, (fl x 128 32), (fl x 32768 32), (fl x 1048576 32), 0, (fl x 4096 8), false, false⟩ 4 x, .bool (true)]) (by simp [results, Tryz.results40, go_sem, Ins.v, *]) rfl ⟨RdQ.mk ⟨21, 0, (fl x 128 32), (fl x 32768 32), (fl x 1048576 32), 0, (fl x 4096 8), false, false⟩ 4 x (true) rfl (by have h := Hh.out; have h2 := Hh2.out; simp [spAmo, h, h2]) (fun _ => ⟨rfl, rfl⟩), by (repeat' (first | with_reducible refine Kp.setCell ?_ ?_ _ | with_reducible refine Kp.allocs ?_ _ _ | with_reducible refine Kp.drew ?_ | with_reducible refine Kp.drewN ?_ _)); all_goals first | exact KW.out | (dsimp only; omega)⟩
  · obtain ⟨v, hv⟩ : ∃ v, amoB (fl x 134217728 32) = v := ⟨_, rfl⟩
    have HV := Lib.hid hv
    clear hv
    have R0 : Rm w.heap.size 11 (w.alloc (.cells #[.int .i64 0, .int .i64 0, .int .i64 0, .int .i64 0, .int .i64 0, .int .i64 0, .int .i64 0, .bool false, .bool false, .int .i64 0, .int .u32 0] 24)) := Rm.new' w [.int .i64 0, .int .i64 0, .int .i64 0, .int .i64 0, .int .i64 0, .int .i64 0, .int .i64 0, .bool false, .bool false, .int .i64 0, .int .u32 0] 24 11 (by simp) (by simp)
    have t0 : (fl x 4096 8 != 2) = false := by simp; omega
    have t1 : (fl x 134217728 32 == 2) = false := by simp; omega
    have t2 : (fl x 134217728 32 == 3) = false := by simp; omega
    have Hh := Lib.hid h
    have Hh2 := Lib.hid h2
    clear h h2
    go_enter Tryz.func40, Tryz.ntmps40
    go_wp2_with (first | (go_at_call 93; (with_reducible refine (rfields_w x 22 x0 x1 _).mono ?_); rintro e' w1 ⟨rfl, qk⟩; have HKw1 := Lib.hid qk; obtain ⟨qw10, qw11, qw12, qw13, qw14, qw15, qw16, qw17, qw18, qw19, qw110⟩ := qk.c11 (b := w.heap.size) (.int .i64 0) (.int .i64 0) (.int .i64 0) (.int .i64 0) (.int .i64 0) (.int .i64 0) (.int .i64 0) (.bool false) (.bool false) (.int .i64 0) (.int .u32 0); obtain ⟨zw10, zw11, zw12, zw13, zw14, zw15, zw16, zw17, zw18, zw19, zw110⟩ := qk.z11 (b := w.heap.size); have sz := qk.size; (try simp at sz); have KW := Lib.hid (Kp.trans ((Kp.refl w).allocs _ _) qk); have ql0 : w.heap.size < w1.heap.size := (by omega); have ql1 : ¬ w.heap.size = w1.heap.size := (by omega); have ql2 : ¬ w1.heap.size = w.heap.size := (by omega); clear qk) | (go_at_call 34; with_reducible refine (rf_31_27 x x0 x1 _).mono ?_; rintro e' w1 ⟨rfl, rfl⟩))
    have R1 := R0.kp HKw1.out (by simp)
    have A1 : At w1.heap.size [.int .i64 22, .int .i64 (fl x 134217728 32), .int .i64 ((fl x 128 32)), .int .i64 ((fl x 32768 32)), .int .i64 ((fl x 1048576 32)), .int .i64 0, .int .i64 ((fl x 4096 8)), .bool false, .bool false, .int .i64 4, .int .u32 x] (w1.alloc (.cells #[.int .i64 22, .int .i64 (fl x 134217728 32), .int .i64 ((fl x 128 32)), .int .i64 ((fl x 32768 32)), .int .i64 ((fl x 1048576 32)), .int .i64 0, .int .i64 ((fl x 4096 8)), .bool false, .bool false, .int .i64 4, .int .u32 x] 24)) := At.new' w1 _ _ rfl
    have R2 : Rm w.heap.size 11 (w1.alloc (.cells #[.int .i64 22, .int .i64 (fl x 134217728 32), .int .i64 ((fl x 128 32)), .int .i64 ((fl x 32768 32)), .int .i64 ((fl x 1048576 32)), .int .i64 0, .int .i64 ((fl x 4096 8)), .bool false, .bool false, .int .i64 4, .int .u32 x] 24)) := R1.alloc _ _
    have kb : Bh w (w1.heap.size + 1) (w1.alloc (.cells #[.int .i64 22, .int .i64 (fl x 134217728 32), .int .i64 ((fl x 128 32)), .int .i64 ((fl x 32768 32)), .int .i64 ((fl x 1048576 32)), .int .i64 0, .int .i64 ((fl x 4096 8)), .bool false, .bool false, .int .i64 4, .int .u32 x] 24)) := ⟨(((Kp.refl w).allocs _ _).trans HKw1.out).allocs _ _, by omega, by simp⟩
    obtain ⟨W2, hW⟩ : ∃ W2, (w1.alloc (.cells #[.int .i64 22, .int .i64 (fl x 134217728 32), .int .i64 ((fl x 128 32)), .int .i64 ((fl x 32768 32)), .int .i64 ((fl x 1048576 32)), .int .i64 0, .int .i64 ((fl x 4096 8)), .bool false, .bool false, .int .i64 4, .int .u32 x] 24)) = W2 := ⟨_, rfl⟩
    rw [hW] at A1 R2 kb ⊢
    clear hW
    have d0 := A1 0 _ rfl; have d1 := A1 1 _ rfl; have d2 := A1 2 _ rfl; have d3 := A1 3 _ rfl; have d4 := A1 4 _ rfl; have d5 := A1 5 _ rfl; have d6 := A1 6 _ rfl; have d7 := A1 7 _ rfl; have d8 := A1 8 _ rfl; have d9 := A1 9 _ rfl; have d10 := A1 10 _ rfl
    obtain ⟨⟨_, _⟩, _, ⟨_, _⟩, _, ⟨_, _⟩, _, ⟨_, _⟩, _, ⟨_, _⟩, _, ⟨_, _⟩, _, ⟨_, _⟩, _, ⟨_, _⟩, _, ⟨_, _⟩, _, ⟨_, _⟩, _, ⟨_, _⟩, _⟩ := R2.out11
    refine wp_region_held_drew (S := (fun w' => At (w1.heap.size) [.int .i64 22, .int .i64 (fl x 134217728 32), .int .i64 ((fl x 128 32)), .int .i64 ((fl x 32768 32)), .int .i64 ((fl x 1048576 32)), .int .i64 0, .int .i64 ((fl x 4096 8)), .bool false, .bool false, .int .i64 4, .int .u32 x] w' ∧ Rm (w.heap.size) 11 w' ∧ Bh w (w1.heap.size + 1) w')) (by kernel_rfl) ⟨At.drew (by with_reducible assumption), Rm.drew (by with_reducible assumption), Bh.drew (by with_reducible assumption)⟩ (fun hS => ?_)
    (refine tk 0 ?_ rfl (Or.inl ⟨by rfl, ?_⟩) hS ?_; rotate_left; focus (intro w' hSw; obtain ⟨s0, s1, sb⟩ := hSw; have c0_0 := s0 0 _ rfl; have c0_1 := s0 1 _ rfl; have c0_2 := s0 2 _ rfl; have c0_3 := s0 3 _ rfl; have c0_4 := s0 4 _ rfl; have c0_5 := s0 5 _ rfl; have c0_6 := s0 6 _ rfl; have c0_7 := s0 7 _ rfl; have c0_8 := s0 8 _ rfl; have c0_9 := s0 9 _ rfl; have c0_10 := s0 10 _ rfl; go_simp <;> try with_reducible rfl))
    try simp only [Act.put, zA, zB, zC]
    (refine tk 1 ?_ rfl (Or.inl ⟨by rfl, ?_⟩) hS ?_; rotate_left; focus (intro w' hSw; obtain ⟨s0, s1, sb⟩ := hSw; go_simp <;> try with_reducible rfl))
    try simp only [Act.put, zA, zB, zC]
    (refine tk 2 ?_ rfl (Or.inl ⟨by rfl, ?_⟩) hS ?_; rotate_left; focus (intro w' hSw; obtain ⟨s0, s1, sb⟩ := hSw; have c0_0 := s0 0 _ rfl; have c0_1 := s0 1 _ rfl; have c0_2 := s0 2 _ rfl; have c0_3 := s0 3 _ rfl; have c0_4 := s0 4 _ rfl; have c0_5 := s0 5 _ rfl; have c0_6 := s0 6 _ rfl; have c0_7 := s0 7 _ rfl; have c0_8 := s0 8 _ rfl; have c0_9 := s0 9 _ rfl; have c0_10 := s0 10 _ rfl; go_simp <;> try with_reducible rfl))
    try simp only [Act.put, zA, zB, zC]
    refine rdy 3 rfl (fun K hK => ?_)
    obtain ⟨s0, s1, sb⟩ := hS
    go_simp
    refine hK.out _ _ ⟨At.alloc s0 _, Rm.alloc s1 _ _, Bh.alloc sb _ _⟩ (fun hS => ?_)
    clear hK K
    try simp only [Act.put, zA, zB, zC]
    refine rdy 4 rfl (fun K hK => ?_)
    (refine take_if (by rfl) ?_; obtain ⟨s0, s1, sb⟩ := hS; go_simp; (with_reducible refine (in_w _ v HV.out _ _ (At.drew (At.new' _ _ _ rfl))).mono ?_); rintro e' w' ⟨rfl, qk⟩; have t0 := At.kp s0 qk (Nat.lt_of_lt_of_le (show w1.heap.size < w1.heap.size + 1 by omega) sb.le); have t1 := Rm.kp s1 qk (Nat.lt_of_lt_of_le (show w.heap.size < w1.heap.size + 1 by omega) sb.le); have tb := Bh.step sb qk; clear qk; refine hK.out _ _ ⟨t0, t1, tb⟩ (fun hS => ?_))
    clear hK K
    try simp only [Act.put, zA, zB, zC]
    refine rdy 5 rfl (fun K hK => ?_)
    obtain ⟨s0, s1, sb⟩ := hS
    have c0_0 := s0 0 _ rfl; have c0_1 := s0 1 _ rfl; have c0_2 := s0 2 _ rfl; have c0_3 := s0 3 _ rfl; have c0_4 := s0 4 _ rfl; have c0_5 := s0 5 _ rfl; have c0_6 := s0 6 _ rfl; have c0_7 := s0 7 _ rfl; have c0_8 := s0 8 _ rfl; have c0_9 := s0 9 _ rfl; have c0_10 := s0 10 _ rfl
    obtain ⟨⟨_, _⟩, _, ⟨_, _⟩, _, ⟨_, _⟩, _, ⟨_, _⟩, _, ⟨_, _⟩, _, ⟨_, _⟩, _, ⟨_, _⟩, _, ⟨_, _⟩, _, ⟨_, _⟩, _, ⟨_, _⟩, _, ⟨_, _⟩, _⟩ := s1.out11; 
    go_simp
    refine hK.out _ _ ⟨?_, ?_, ?_⟩ (fun hS => ?_)
    · repeat' (first | with_reducible assumption | (with_reducible refine At.set ?_ ?_ _) | with_reducible refine At.drew ?_)
      all_goals first | with_reducible assumption | (dsimp only; omega)
    · repeat' (first | with_reducible assumption | (with_reducible refine Rm.set ?_ _) | with_reducible refine Rm.drew ?_)
      all_goals first | with_reducible assumption | (dsimp only; omega)
    · repeat' (first | with_reducible assumption | with_reducible refine Bh.set2 ?_ ?_ | with_reducible refine Bh.drew ?_)
      all_goals first | with_reducible assumption | (dsimp only; omega)
    clear hK K
    try simp only [Act.put, zA, zB, zC]
    (refine tk 6 ?_ rfl (Or.inl ⟨by rfl, ?_⟩) hS ?_; rotate_left; focus (intro w' hSw; obtain ⟨s0, s1, sb⟩ := hSw; go_simp <;> try with_reducible rfl))
    try simp only [Act.put, zA, zB, zC]
    refine wpAnyH_done (by kernel_rfl) ?_ _
    obtain ⟨s0, s1, sb⟩ := hS
    have c0_0 := s0 0 _ rfl; have c0_1 := s0 1 _ rfl; have c0_2 := s0 2 _ rfl; have c0_3 := s0 3 _ rfl; have c0_4 := s0 4 _ rfl; have c0_5 := s0 5 _ rfl; have c0_6 := s0 6 _ rfl; have c0_7 := s0 7 _ rfl; have c0_8 := s0 8 _ rfl; have c0_9 := s0 9 _ rfl; have c0_10 := s0 10 _ rfl
    go_wp2
    refine bodyPost_ret (v := .tuple #[Ins.v ⟨22, (fl x 134217728 32), (fl x 128 32), (fl x 32768 32), (fl x 1048576 32), 0, (fl x 4096 8), false, false⟩ 4 x, .bool (v)]) ?_ rfl ⟨RdQ.mk ⟨22, (fl x 134217728 32), (fl x 128 32), (fl x 32768 32), (fl x 1048576 32), 0, (fl x 4096 8), false, false⟩ 4 x (v) rfl ?_ (fun _ => ⟨rfl, rfl⟩), ?_⟩
    · simp [results, Tryz.results40, go_sem, Ins.v, *]
    · skip
      have h := Hh.out
      have h2 := Hh2.out
      have hv := HV.out
      obtain ⟨g0, g1⟩ := h2
      cases v <;> simp [spAmo, h, g0, g1, hv]
    · with_reducible exact sb.kp
  · have R0 : Rm w.heap.size 11 (w.alloc (.cells #[.int .i64 0, .int .i64 0, .int .i64 0, .int .i64 0, .int .i64 0, .int .i64 0, .int .i64 0, .bool false, .bool false, .int .i64 0, .int .u32 0] 24)) := Rm.new' w [.int .i64 0, .int .i64 0, .int .i64 0, .int .i64 0, .int .i64 0, .int .i64 0, .int .i64 0, .bool false, .bool false, .int .i64 0, .int .u32 0] 24 11 (by simp) (by simp)
    have t0 : (fl x 4096 8 != 2) = true := by simp; omega
    have t1 : (fl x 4096 8 != 3) = false := by simp; omega
    have t2 : (fl x 134217728 32 == 2) = true := by simp; omega
    have Hh := Lib.hid h
    have Hh2 := Lib.hid h2
    clear h h2
    go_enter Tryz.func40, Tryz.ntmps40
    go_wp2_with (first | (go_at_call 93; (with_reducible refine (rfields_w x 22 x0 x1 _).mono ?_); rintro e' w1 ⟨rfl, qk⟩; have HKw1 := Lib.hid qk; obtain ⟨qw10, qw11, qw12, qw13, qw14, qw15, qw16, qw17, qw18, qw19, qw110⟩ := qk.c11 (b := w.heap.size) (.int .i64 0) (.int .i64 0) (.int .i64 0) (.int .i64 0) (.int .i64 0) (.int .i64 0) (.int .i64 0) (.bool false) (.bool false) (.int .i64 0) (.int .u32 0); obtain ⟨zw10, zw11, zw12, zw13, zw14, zw15, zw16, zw17, zw18, zw19, zw110⟩ := qk.z11 (b := w.heap.size); have sz := qk.size; (try simp at sz); have KW := Lib.hid (Kp.trans ((Kp.refl w).allocs _ _) qk); have ql0 : w.heap.size < w1.heap.size := (by omega); have ql1 : ¬ w.heap.size = w1.heap.size := (by omega); have ql2 : ¬ w1.heap.size = w.heap.size := (by omega); clear qk) | (go_at_call 34; with_reducible refine (rf_31_27 x x0 x1 _).mono ?_; rintro e' w1 ⟨rfl, rfl⟩))
    have R1 := R0.kp HKw1.out (by simp)
    have A1 : At w1.heap.size [.int .i64 20, .int .i64 0, .int .i64 ((fl x 128 32)), .int .i64 ((fl x 32768 32)), .int .i64 ((fl x 1048576 32)), .int .i64 0, .int .i64 ((fl x 4096 8)), .bool false, .bool false, .int .i64 4, .int .u32 x] (w1.alloc (.cells #[.int .i64 20, .int .i64 0, .int .i64 ((fl x 128 32)), .int .i64 ((fl x 32768 32)), .int .i64 ((fl x 1048576 32)), .int .i64 0, .int .i64 ((fl x 4096 8)), .bool false, .bool false, .int .i64 4, .int .u32 x] 24)) := At.new' w1 _ _ rfl
    have R2 : Rm w.heap.size 11 (w1.alloc (.cells #[.int .i64 20, .int .i64 0, .int .i64 ((fl x 128 32)), .int .i64 ((fl x 32768 32)), .int .i64 ((fl x 1048576 32)), .int .i64 0, .int .i64 ((fl x 4096 8)), .bool false, .bool false, .int .i64 4, .int .u32 x] 24)) := R1.alloc _ _
    have kb : Bh w (w1.heap.size + 1) (w1.alloc (.cells #[.int .i64 20, .int .i64 0, .int .i64 ((fl x 128 32)), .int .i64 ((fl x 32768 32)), .int .i64 ((fl x 1048576 32)), .int .i64 0, .int .i64 ((fl x 4096 8)), .bool false, .bool false, .int .i64 4, .int .u32 x] 24)) := ⟨(((Kp.refl w).allocs _ _).trans HKw1.out).allocs _ _, by omega, by simp⟩
    obtain ⟨W2, hW⟩ : ∃ W2, (w1.alloc (.cells #[.int .i64 20, .int .i64 0, .int .i64 ((fl x 128 32)), .int .i64 ((fl x 32768 32)), .int .i64 ((fl x 1048576 32)), .int .i64 0, .int .i64 ((fl x 4096 8)), .bool false, .bool false, .int .i64 4, .int .u32 x] 24)) = W2 := ⟨_, rfl⟩
    rw [hW] at A1 R2 kb ⊢
    clear hW
    have d0 := A1 0 _ rfl; have d1 := A1 1 _ rfl; have d2 := A1 2 _ rfl; have d3 := A1 3 _ rfl; have d4 := A1 4 _ rfl; have d5 := A1 5 _ rfl; have d6 := A1 6 _ rfl; have d7 := A1 7 _ rfl; have d8 := A1 8 _ rfl; have d9 := A1 9 _ rfl; have d10 := A1 10 _ rfl
    obtain ⟨⟨_, _⟩, _, ⟨_, _⟩, _, ⟨_, _⟩, _, ⟨_, _⟩, _, ⟨_, _⟩, _, ⟨_, _⟩, _, ⟨_, _⟩, _, ⟨_, _⟩, _, ⟨_, _⟩, _, ⟨_, _⟩, _, ⟨_, _⟩, _⟩ := R2.out11
    refine wp_region_held_drew (S := (fun w' => At (w1.heap.size) [.int .i64 20, .int .i64 0, .int .i64 ((fl x 128 32)), .int .i64 ((fl x 32768 32)), .int .i64 ((fl x 1048576 32)), .int .i64 0, .int .i64 ((fl x 4096 8)), .bool false, .bool false, .int .i64 4, .int .u32 x] w' ∧ Rm (w.heap.size) 11 w' ∧ Bh w (w1.heap.size + 1) w')) (by kernel_rfl) ⟨At.drew (by with_reducible assumption), Rm.drew (by with_reducible assumption), Bh.drew (by with_reducible assumption)⟩ (fun hS => ?_)
    (refine tk 0 ?_ rfl (Or.inl ⟨by rfl, ?_⟩) hS ?_; rotate_left; focus (intro w' hSw; obtain ⟨s0, s1, sb⟩ := hSw; have c0_0 := s0 0 _ rfl; have c0_1 := s0 1 _ rfl; have c0_2 := s0 2 _ rfl; have c0_3 := s0 3 _ rfl; have c0_4 := s0 4 _ rfl; have c0_5 := s0 5 _ rfl; have c0_6 := s0 6 _ rfl; have c0_7 := s0 7 _ rfl; have c0_8 := s0 8 _ rfl; have c0_9 := s0 9 _ rfl; have c0_10 := s0 10 _ rfl; go_simp <;> try with_reducible rfl))
    try simp only [Act.put, zA, zB, zC]
    (refine tk 1 ?_ rfl (Or.inl ⟨by rfl, ?_⟩) hS ?_; rotate_left; focus (intro w' hSw; obtain ⟨s0, s1, sb⟩ := hSw; go_simp <;> try with_reducible rfl))
    try simp only [Act.put, zA, zB, zC]
    (refine tk 2 ?_ rfl (Or.inl ⟨by rfl, ?_⟩) hS ?_; rotate_left; focus (intro w' hSw; obtain ⟨s0, s1, sb⟩ := hSw; have c0_0 := s0 0 _ rfl; have c0_1 := s0 1 _ rfl; have c0_2 := s0 2 _ rfl; have c0_3 := s0 3 _ rfl; have c0_4 := s0 4 _ rfl; have c0_5 := s0 5 _ rfl; have c0_6 := s0 6 _ rfl; have c0_7 := s0 7 _ rfl; have c0_8 := s0 8 _ rfl; have c0_9 := s0 9 _ rfl; have c0_10 := s0 10 _ rfl; go_simp <;> try with_reducible rfl))
    try simp only [Act.put, zA, zB, zC]
    (refine tk 3 ?_ rfl (Or.inl ⟨by rfl, ?_⟩) hS ?_; rotate_left; focus (intro w' hSw; obtain ⟨s0, s1, sb⟩ := hSw; go_simp <;> try with_reducible rfl))
    try simp only [Act.put, zA, zB, zC]
    refine rdy 4 rfl (fun K hK => ?_)
    obtain ⟨s0, s1, sb⟩ := hS
    have c0_0 := s0 0 _ rfl; have c0_1 := s0 1 _ rfl; have c0_2 := s0 2 _ rfl; have c0_3 := s0 3 _ rfl; have c0_4 := s0 4 _ rfl; have c0_5 := s0 5 _ rfl; have c0_6 := s0 6 _ rfl; have c0_7 := s0 7 _ rfl; have c0_8 := s0 8 _ rfl; have c0_9 := s0 9 _ rfl; have c0_10 := s0 10 _ rfl
    obtain ⟨⟨_, _⟩, _, ⟨_, _⟩, _, ⟨_, _⟩, _, ⟨_, _⟩, _, ⟨_, _⟩, _, ⟨_, _⟩, _, ⟨_, _⟩, _, ⟨_, _⟩, _, ⟨_, _⟩, _, ⟨_, _⟩, _, ⟨_, _⟩, _⟩ := s1.out11; 
    go_simp
    refine hK.out _ _ ⟨?_, ?_, ?_⟩ (fun hS => ?_)
    · repeat' (first | with_reducible assumption | (with_reducible refine At.set ?_ ?_ _) | with_reducible refine At.drew ?_)
      all_goals first | with_reducible assumption | (dsimp only; omega)
    · repeat' (first | with_reducible assumption | (with_reducible refine Rm.set ?_ _) | with_reducible refine Rm.drew ?_)
      all_goals first | with_reducible assumption | (dsimp only; omega)
    · repeat' (first | with_reducible assumption | with_reducible refine Bh.set2 ?_ ?_ | with_reducible refine Bh.drew ?_)
      all_goals first | with_reducible assumption | (dsimp only; omega)
    clear hK K
    try simp only [Act.put, zA, zB, zC]
    (refine tk 5 ?_ rfl (Or.inl ⟨by rfl, ?_⟩) hS ?_; rotate_left; focus (intro w' hSw; obtain ⟨s0, s1, sb⟩ := hSw; go_simp <;> try with_reducible rfl))
    try simp only [Act.put, zA, zB, zC]
    refine wpAnyH_done (by kernel_rfl) ?_ _
    obtain ⟨s0, s1, sb⟩ := hS
    have c0_0 := s0 0 _ rfl; have c0_1 := s0 1 _ rfl; have c0_2 := s0 2 _ rfl; have c0_3 := s0 3 _ rfl; have c0_4 := s0 4 _ rfl; have c0_5 := s0 5 _ rfl; have c0_6 := s0 6 _ rfl; have c0_7 := s0 7 _ rfl; have c0_8 := s0 8 _ rfl; have c0_9 := s0 9 _ rfl; have c0_10 := s0 10 _ rfl
    go_wp2
    refine bodyPost_ret (v := .tuple #[Ins.v ⟨20, 0, (fl x 128 32), (fl x 32768 32), (fl x 1048576 32), 0, (fl x 4096 8), false, false⟩ 4 x, .bool (fl x 1048576 32 == 0)]) ?_ rfl ⟨RdQ.mk ⟨20, 0, (fl x 128 32), (fl x 32768 32), (fl x 1048576 32), 0, (fl x 4096 8), false, false⟩ 4 x (fl x 1048576 32 == 0) rfl ?_ (fun _ => ⟨rfl, rfl⟩), ?_⟩
    · simp [results, Tryz.results40, go_sem, Ins.v, *]
    · skip
      have h := Hh.out
      have h2 := Hh2.out
      by_cases g : fl x 1048576 32 = 0 <;> simp [spAmo, h, h2, g]
    · with_reducible exact sb.kp
  · have t0 : (fl x 4096 8 != 2) = true := by simp; omega
    have t1 : (fl x 4096 8 != 3) = false := by simp; omega
    have t2 : (fl x 134217728 32 == 2) = false := by simp; omega
    have t3 : (fl x 134217728 32 == 3) = true := by simp; omega
    have Hh := Lib.hid h
    have Hh2 := Lib.hid h2
    clear h h2
    go_enter Tryz.func40, Tryz.ntmps40
    go_wp2_with (first | (go_at_call 93; (with_reducible refine (rfields_w x 22 x0 x1 _).mono ?_); rintro e' w1 ⟨rfl, qk⟩; have HKw1 := Lib.hid qk; obtain ⟨qw10, qw11, qw12, qw13, qw14, qw15, qw16, qw17, qw18, qw19, qw110⟩ := qk.c11 (b := w.heap.size) (.int .i64 0) (.int .i64 0) (.int .i64 0) (.int .i64 0) (.int .i64 0) (.int .i64 0) (.int .i64 0) (.bool false) (.bool false) (.int .i64 0) (.int .u32 0); obtain ⟨zw10, zw11, zw12, zw13, zw14, zw15, zw16, zw17, zw18, zw19, zw110⟩ := qk.z11 (b := w.heap.size); have sz := qk.size; (try simp at sz); have KW := Lib.hid (Kp.trans ((Kp.refl w).allocs _ _) qk); have ql0 : w.heap.size < w1.heap.size := (by omega); have ql1 : ¬ w.heap.size = w1.heap.size := (by omega); have ql2 : ¬ w1.heap.size = w.heap.size := (by omega); clear qk) | (go_at_call 34; with_reducible refine (rf_31_27 x x0 x1 _).mono ?_; rintro e' w1 ⟨rfl, rfl⟩))
    refine bodyPost_ret (v := .tuple #[Ins.v ⟨21, 0, (fl x 128 32), (fl x 32768 32), (fl x 1048576 32), 0, (fl x 4096 8), false, false⟩ 4 x, .bool (true)]) (by simp [results, Tryz.results40, go_sem, Ins.v, *]) rfl ⟨RdQ.mk ⟨21, 0, (fl x 128 32), (fl x 32768 32), (fl x 1048576 32), 0, (fl x 4096 8), false, false⟩ 4 x (true) rfl (by have h := Hh.out; have h2 := Hh2.out; simp [spAmo, h, h2]) (fun _ => ⟨rfl, rfl⟩), by (repeat' (first | with_reducible refine Kp.setCell ?_ ?_ _ | with_reducible refine Kp.allocs ?_ _ _ | with_reducible refine Kp.drew ?_ | with_reducible refine Kp.drewN ?_ _)); all_goals first | exact KW.out | (dsimp only; omega)⟩
  · obtain ⟨v, hv⟩ : ∃ v, amoB (fl x 134217728 32) = v := ⟨_, rfl⟩
    have HV := Lib.hid hv
    clear hv
    have R0 : Rm w.heap.size 11 (w.alloc (.cells #[.int .i64 0, .int .i64 0, .int .i64 0, .int .i64 0, .int .i64 0, .int .i64 0, .int .i64 0, .bool false, .bool false, .int .i64 0, .int .u32 0] 24)) := Rm.new' w [.int .i64 0, .int .i64 0, .int .i64 0, .int .i64 0, .int .i64 0, .int .i64 0, .int .i64 0, .bool false, .bool false, .int .i64 0, .int .u32 0] 24 11 (by simp) (by simp)
    have t0 : (fl x 4096 8 != 2) = true := by simp; omega
    have t1 : (fl x 4096 8 != 3) = false := by simp; omega
    have t2 : (fl x 134217728 32 == 2) = false := by simp; omega
    have t3 : (fl x 134217728 32 == 3) = false := by simp; omega
    have Hh := Lib.hid h
    have Hh2 := Lib.hid h2
    clear h h2
    go_enter Tryz.func40, Tryz.ntmps40
    go_wp2_with (first | (go_at_call 93; (with_reducible refine (rfields_w x 22 x0 x1 _).mono ?_); rintro e' w1 ⟨rfl, qk⟩; have HKw1 := Lib.hid qk; obtain ⟨qw10, qw11, qw12, qw13, qw14, qw15, qw16, qw17, qw18, qw19, qw110⟩ := qk.c11 (b := w.heap.size) (.int .i64 0) (.int .i64 0) (.int .i64 0) (.int .i64 0) (.int .i64 0) (.int .i64 0) (.int .i64 0) (.bool false) (.bool false) (.int .i64 0) (.int .u32 0); obtain ⟨zw10, zw11, zw12, zw13, zw14, zw15, zw16, zw17, zw18, zw19, zw110⟩ := qk.z11 (b := w.heap.size); have sz := qk.size; (try simp at sz); have KW := Lib.hid (Kp.trans ((Kp.refl w).allocs _ _) qk); have ql0 : w.heap.size < w1.heap.size := (by omega); have ql1 : ¬ w.heap.size = w1.heap.size := (by omega); have ql2 : ¬ w1.heap.size = w.heap.size := (by omega); clear qk) | (go_at_call 34; with_reducible refine (rf_31_27 x x0 x1 _).mono ?_; rintro e' w1 ⟨rfl, rfl⟩))
    have R1 := R0.kp HKw1.out (by simp)
    have A1 : At w1.heap.size [.int .i64 22, .int .i64 (fl x 134217728 32), .int .i64 ((fl x 128 32)), .int .i64 ((fl x 32768 32)), .int .i64 ((fl x 1048576 32)), .int .i64 0, .int .i64 ((fl x 4096 8)), .bool false, .bool false, .int .i64 4, .int .u32 x] (w1.alloc (.cells #[.int .i64 22, .int .i64 (fl x 134217728 32), .int .i64 ((fl x 128 32)), .int .i64 ((fl x 32768 32)), .int .i64 ((fl x 1048576 32)), .int .i64 0, .int .i64 ((fl x 4096 8)), .bool false, .bool false, .int .i64 4, .int .u32 x] 24)) := At.new' w1 _ _ rfl
    have R2 : Rm w.heap.size 11 (w1.alloc (.cells #[.int .i64 22, .int .i64 (fl x 134217728 32), .int .i64 ((fl x 128 32)), .int .i64 ((fl x 32768 32)), .int .i64 ((fl x 1048576 32)), .int .i64 0, .int .i64 ((fl x 4096 8)), .bool false, .bool false, .int .i64 4, .int .u32 x] 24)) := R1.alloc _ _
    have kb : Bh w (w1.heap.size + 1) (w1.alloc (.cells #[.int .i64 22, .int .i64 (fl x 134217728 32), .int .i64 ((fl x 128 32)), .int .i64 ((fl x 32768 32)), .int .i64 ((fl x 1048576 32)), .int .i64 0, .int .i64 ((fl x 4096 8)), .bool false, .bool false, .int .i64 4, .int .u32 x] 24)) := ⟨(((Kp.refl w).allocs _ _).trans HKw1.out).allocs _ _, by omega, by simp⟩
    obtain ⟨W2, hW⟩ : ∃ W2, (w1.alloc (.cells #[.int .i64 22, .int .i64 (fl x 134217728 32), .int .i64 ((fl x 128 32)), .int .i64 ((fl x 32768 32)), .int .i64 ((fl x 1048576 32)), .int .i64 0, .int .i64 ((fl x 4096 8)), .bool false, .bool false, .int .i64 4, .int .u32 x] 24)) = W2 := ⟨_, rfl⟩
    rw [hW] at A1 R2 kb ⊢
    clear hW
    have d0 := A1 0 _ rfl; have d1 := A1 1 _ rfl; have d2 := A1 2 _ rfl; have d3 := A1 3 _ rfl; have d4 := A1 4 _ rfl; have d5 := A1 5 _ rfl; have d6 := A1 6 _ rfl; have d7 := A1 7 _ rfl; have d8 := A1 8 _ rfl; have d9 := A1 9 _ rfl; have d10 := A1 10 _ rfl
    obtain ⟨⟨_, _⟩, _, ⟨_, _⟩, _, ⟨_, _⟩, _, ⟨_, _⟩, _, ⟨_, _⟩, _, ⟨_, _⟩, _, ⟨_, _⟩, _, ⟨_, _⟩, _, ⟨_, _⟩, _, ⟨_, _⟩, _, ⟨_, _⟩, _⟩ := R2.out11
    refine wp_region_held_drew (S := (fun w' => At (w1.heap.size) [.int .i64 22, .int .i64 (fl x 134217728 32), .int .i64 ((fl x 128 32)), .int .i64 ((fl x 32768 32)), .int .i64 ((fl x 1048576 32)), .int .i64 0, .int .i64 ((fl x 4096 8)), .bool false, .bool false, .int .i64 4, .int .u32 x] w' ∧ Rm (w.heap.size) 11 w' ∧ Bh w (w1.heap.size + 1) w')) (by kernel_rfl) ⟨At.drew (by with_reducible assumption), Rm.drew (by with_reducible assumption), Bh.drew (by with_reducible assumption)⟩ (fun hS => ?_)
    (refine tk 0 ?_ rfl (Or.inl ⟨by rfl, ?_⟩) hS ?_; rotate_left; focus (intro w' hSw; obtain ⟨s0, s1, sb⟩ := hSw; have c0_0 := s0 0 _ rfl; have c0_1 := s0 1 _ rfl; have c0_2 := s0 2 _ rfl; have c0_3 := s0 3 _ rfl; have c0_4 := s0 4 _ rfl; have c0_5 := s0 5 _ rfl; have c0_6 := s0 6 _ rfl; have c0_7 := s0 7 _ rfl; have c0_8 := s0 8 _ rfl; have c0_9 := s0 9 _ rfl; have c0_10 := s0 10 _ rfl; go_simp <;> try with_reducible rfl))
    try simp only [Act.put, zA, zB, zC]
    (refine tk 1 ?_ rfl (Or.inl ⟨by rfl, ?_⟩) hS ?_; rotate_left; focus (intro w' hSw; obtain ⟨s0, s1, sb⟩ := hSw; go_simp <;> try with_reducible rfl))
    try simp only [Act.put, zA, zB, zC]
    (refine tk 2 ?_ rfl (Or.inl ⟨by rfl, ?_⟩) hS ?_; rotate_left; focus (intro w' hSw; obtain ⟨s0, s1, sb⟩ := hSw; have c0_0 := s0 0 _ rfl; have c0_1 := s0 1 _ rfl; have c0_2 := s0 2 _ rfl; have c0_3 := s0 3 _ rfl; have c0_4 := s0 4 _ rfl; have c0_5 := s0 5 _ rfl; have c0_6 := s0 6 _ rfl; have c0_7 := s0 7 _ rfl; have c0_8 := s0 8 _ rfl; have c0_9 := s0 9 _ rfl; have c0_10 := s0 10 _ rfl; go_simp <;> try with_reducible rfl))
    try simp only [Act.put, zA, zB, zC]
    refine rdy 3 rfl (fun K hK => ?_)
    obtain ⟨s0, s1, sb⟩ := hS
    go_simp
    refine hK.out _ _ ⟨At.alloc s0 _, Rm.alloc s1 _ _, Bh.alloc sb _ _⟩ (fun hS => ?_)
    clear hK K
    try simp only [Act.put, zA, zB, zC]
    refine rdy 4 rfl (fun K hK => ?_)
    (refine take_if (by rfl) ?_; obtain ⟨s0, s1, sb⟩ := hS; go_simp; (with_reducible refine (in_w _ v HV.out _ _ (At.drew (At.new' _ _ _ rfl))).mono ?_); rintro e' w' ⟨rfl, qk⟩; have t0 := At.kp s0 qk (Nat.lt_of_lt_of_le (show w1.heap.size < w1.heap.size + 1 by omega) sb.le); have t1 := Rm.kp s1 qk (Nat.lt_of_lt_of_le (show w.heap.size < w1.heap.size + 1 by omega) sb.le); have tb := Bh.step sb qk; clear qk; refine hK.out _ _ ⟨t0, t1, tb⟩ (fun hS => ?_))
    clear hK K
    try simp only [Act.put, zA, zB, zC]
    refine rdy 5 rfl (fun K hK => ?_)
    obtain ⟨s0, s1, sb⟩ := hS
    have c0_0 := s0 0 _ rfl; have c0_1 := s0 1 _ rfl; have c0_2 := s0 2 _ rfl; have c0_3 := s0 3 _ rfl; have c0_4 := s0 4 _ rfl; have c0_5 := s0 5 _ rfl; have c0_6 := s0 6 _ rfl; have c0_7 := s0 7 _ rfl; have c0_8 := s0 8 _ rfl; have c0_9 := s0 9 _ rfl; have c0_10 := s0 10 _ rfl
    obtain ⟨⟨_, _⟩, _, ⟨_, _⟩, _, ⟨_, _⟩, _, ⟨_, _⟩, _, ⟨_, _⟩, _, ⟨_, _⟩, _, ⟨_, _⟩, _, ⟨_, _⟩, _, ⟨_, _⟩, _, ⟨_, _⟩, _, ⟨_, _⟩, _⟩ := s1.out11; 
    go_simp
    refine hK.out _ _ ⟨?_, ?_, ?_⟩ (fun hS => ?_)
    · repeat' (first | with_reducible assumption | (with_reducible refine At.set ?_ ?_ _) | with_reducible refine At.drew ?_)
      all_goals first | with_reducible assumption | (dsimp only; omega)
    · repeat' (first | with_reducible assumption | (with_reducible refine Rm.set ?_ _) | with_reducible refine Rm.drew ?_)
      all_goals first | with_reducible assumption | (dsimp only; omega)
    · repeat' (first | with_reducible assumption | with_reducible refine Bh.set2 ?_ ?_ | with_reducible refine Bh.drew ?_)
      all_goals first | with_reducible assumption | (dsimp only; omega)
    clear hK K
    try simp only [Act.put, zA, zB, zC]
    (refine tk 6 ?_ rfl (Or.inl ⟨by rfl, ?_⟩) hS ?_; rotate_left; focus (intro w' hSw; obtain ⟨s0, s1, sb⟩ := hSw; go_simp <;> try with_reducible rfl))
    try simp only [Act.put, zA, zB, zC]
    refine wpAnyH_done (by kernel_rfl) ?_ _
    obtain ⟨s0, s1, sb⟩ := hS
    have c0_0 := s0 0 _ rfl; have c0_1 := s0 1 _ rfl; have c0_2 := s0 2 _ rfl; have c0_3 := s0 3 _ rfl; have c0_4 := s0 4 _ rfl; have c0_5 := s0 5 _ rfl; have c0_6 := s0 6 _ rfl; have c0_7 := s0 7 _ rfl; have c0_8 := s0 8 _ rfl; have c0_9 := s0 9 _ rfl; have c0_10 := s0 10 _ rfl
    go_wp2
    refine bodyPost_ret (v := .tuple #[Ins.v ⟨22, (fl x 134217728 32), (fl x 128 32), (fl x 32768 32), (fl x 1048576 32), 0, (fl x 4096 8), false, false⟩ 4 x, .bool (v)]) ?_ rfl ⟨RdQ.mk ⟨22, (fl x 134217728 32), (fl x 128 32), (fl x 32768 32), (fl x 1048576 32), 0, (fl x 4096 8), false, false⟩ 4 x (v) rfl ?_ (fun _ => ⟨rfl, rfl⟩), ?_⟩
    · simp [results, Tryz.results40, go_sem, Ins.v, *]
    · skip
      have h := Hh.out
      have h2 := Hh2.out
      have hv := HV.out
      obtain ⟨g0, g1⟩ := h2
      cases v <;> simp [spAmo, h, g0, g1, hv]
    · with_reducible exact sb.kp
end Go.Proofs.YtlfeandnpflaaaaGreatDoor
