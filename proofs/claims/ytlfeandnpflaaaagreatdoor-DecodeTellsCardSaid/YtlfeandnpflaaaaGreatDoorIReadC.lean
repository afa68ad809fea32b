/-
  Contracts of base's readers: atomics, the system's words. No condition.
-/
import Derived.Test.YtlfeandnpflaaaaGreatDoorMC
namespace Go.Proofs.YtlfeandnpflaaaaGreatDoor
open Go.ChangeShapes Go.WideShapes Go.ChangeAt Go.RowKit
set_option linter.unusedVariables false
set_option linter.unusedSimpArgs false

set_option maxRecDepth 4000 in
set_option maxHeartbeats 16000000 in
theorem atomic_2 (x : Int) (x0 : 0 ≤ x) (x1 : x < 4294967296) (h : fl x 4096 8 = 2) (w : World) :
    Calls Tryz.prog 78 #[.int .u32 x] w fun e w' => RdP e (spAmo x) ∧ Kp w w' := by
  have brd := fl_bd x 128 32 (by omega)
  have bf3 := fl_bd x 4096 8 (by omega)
  have br1 := fl_bd x 32768 32 (by omega)
  have br2 := fl_bd x 1048576 32 (by omega)
  have bf7 := fl_bd x 33554432 128 (by omega)
  have ba := fl_bd x 134217728 32 (by omega)
  rcases (show fl x 134217728 32 = 2 ∨ fl x 134217728 32 = 3 ∨ fl x 134217728 32 = 0 ∨ fl x 134217728 32 = 1 ∨ fl x 134217728 32 = 4 ∨ fl x 134217728 32 = 8 ∨ fl x 134217728 32 = 12 ∨ fl x 134217728 32 = 16 ∨ fl x 134217728 32 = 20 ∨ fl x 134217728 32 = 24 ∨ fl x 134217728 32 = 28 ∨ (¬ fl x 134217728 32 = 2 ∧ ¬ fl x 134217728 32 = 3 ∧ ¬ fl x 134217728 32 = 0 ∧ ¬ fl x 134217728 32 = 1 ∧ ¬ fl x 134217728 32 = 4 ∧ ¬ fl x 134217728 32 = 8 ∧ ¬ fl x 134217728 32 = 12 ∧ ¬ fl x 134217728 32 = 16 ∧ ¬ fl x 134217728 32 = 20 ∧ ¬ fl x 134217728 32 = 24 ∧ ¬ fl x 134217728 32 = 28) by omega) with h2 | h2 | h2 | h2 | h2 | h2 | h2 | h2 | h2 | h2 | h2 | h2
  · have t0 : (fl x 4096 8 == 2) = true := by simp; omega
    have t1 : (fl x 134217728 32 == 2) = true := by simp; omega
    have t2 : (fl x 134217728 32 == 3) = false := by simp; omega
    have t3 : (fl x 134217728 32 == 0) = false := by simp; omega
    have t4 : (fl x 134217728 32 == 1) = false := by simp; omega
    have t5 : (fl x 134217728 32 == 4) = false := by simp; omega
    have t6 : (fl x 134217728 32 == 8) = false := by simp; omega
    have t7 : (fl x 134217728 32 == 12) = false := by simp; omega
    have t8 : (fl x 134217728 32 == 16) = false := by simp; omega
    have t9 : (fl x 134217728 32 == 20) = false := by simp; omega
    have t10 : (fl x 134217728 32 == 24) = false := by simp; omega
    have t11 : (fl x 134217728 32 == 28) = false := by simp; omega
    have Hh := Lib.hid h
    have Hh2 := Lib.hid h2
    clear h h2
    have A0 : At (w.heap.size) [.int .i64 0, .int .i64 0, .int .i64 0, .int .i64 0, .int .i64 0, .int .i64 0, .int .i64 0, .bool false, .bool false, .int .i64 0, .int .u32 0] ((w.alloc (.cells #[.int .i64 0, .int .i64 0, .int .i64 0, .int .i64 0, .int .i64 0, .int .i64 0, .int .i64 0, .bool false, .bool false, .int .i64 0, .int .u32 0] 24)).alloc (.cells #[.int .i64 20, .int .i64 0, .int .i64 ((fl x 128 32)), .int .i64 ((fl x 32768 32)), .int .i64 0, .int .i64 0, .int .i64 ((fl x 4096 8)), .bool false, .bool false, .int .i64 0, .int .u32 0] 24)) := ((At.new' w [.int .i64 0, .int .i64 0, .int .i64 0, .int .i64 0, .int .i64 0, .int .i64 0, .int .i64 0, .bool false, .bool false, .int .i64 0, .int .u32 0] 24 (by simp)).alloc _)
    have R0 : Rm (w.heap.size) 11 ((w.alloc (.cells #[.int .i64 0, .int .i64 0, .int .i64 0, .int .i64 0, .int .i64 0, .int .i64 0, .int .i64 0, .bool false, .bool false, .int .i64 0, .int .u32 0] 24)).alloc (.cells #[.int .i64 20, .int .i64 0, .int .i64 ((fl x 128 32)), .int .i64 ((fl x 32768 32)), .int .i64 0, .int .i64 0, .int .i64 ((fl x 4096 8)), .bool false, .bool false, .int .i64 0, .int .u32 0] 24)) := ((Rm.new' w [.int .i64 0, .int .i64 0, .int .i64 0, .int .i64 0, .int .i64 0, .int .i64 0, .int .i64 0, .bool false, .bool false, .int .i64 0, .int .u32 0] 24 11 (by simp) (by simp)).alloc _ _)
    have A1 : At (w.heap.size + 1) [.int .i64 20, .int .i64 0, .int .i64 ((fl x 128 32)), .int .i64 ((fl x 32768 32)), .int .i64 0, .int .i64 0, .int .i64 ((fl x 4096 8)), .bool false, .bool false, .int .i64 0, .int .u32 0] ((w.alloc (.cells #[.int .i64 0, .int .i64 0, .int .i64 0, .int .i64 0, .int .i64 0, .int .i64 0, .int .i64 0, .bool false, .bool false, .int .i64 0, .int .u32 0] 24)).alloc (.cells #[.int .i64 20, .int .i64 0, .int .i64 ((fl x 128 32)), .int .i64 ((fl x 32768 32)), .int .i64 0, .int .i64 0, .int .i64 ((fl x 4096 8)), .bool false, .bool false, .int .i64 0, .int .u32 0] 24)) := (At.new' (w.alloc (.cells #[.int .i64 0, .int .i64 0, .int .i64 0, .int .i64 0, .int .i64 0, .int .i64 0, .int .i64 0, .bool false, .bool false, .int .i64 0, .int .u32 0] 24)) [.int .i64 20, .int .i64 0, .int .i64 ((fl x 128 32)), .int .i64 ((fl x 32768 32)), .int .i64 0, .int .i64 0, .int .i64 ((fl x 4096 8)), .bool false, .bool false, .int .i64 0, .int .u32 0] 24 (by simp))
    have kb : Bh w (w.heap.size + 2) ((w.alloc (.cells #[.int .i64 0, .int .i64 0, .int .i64 0, .int .i64 0, .int .i64 0, .int .i64 0, .int .i64 0, .bool false, .bool false, .int .i64 0, .int .u32 0] 24)).alloc (.cells #[.int .i64 20, .int .i64 0, .int .i64 ((fl x 128 32)), .int .i64 ((fl x 32768 32)), .int .i64 0, .int .i64 0, .int .i64 ((fl x 4096 8)), .bool false, .bool false, .int .i64 0, .int .u32 0] 24)) := ⟨(((Kp.refl w).allocs _ _).allocs _ _), by simp, by simp⟩
    go_enter Tryz.func78, Tryz.ntmps78
    go_wp2_with (first | (go_at_call 117; with_reducible refine (f3_w x x0 x1 _).mono ?_; rintro e' w1 ⟨rfl, rfl⟩) | (go_at_call 118; with_reducible refine (rd_w x x0 x1 _).mono ?_; rintro e' w1 ⟨rfl, rfl⟩) | (go_at_call 119; with_reducible refine (rs1_w x x0 x1 _).mono ?_; rintro e' w1 ⟨rfl, rfl⟩) | (go_at_call 127; with_reducible refine (rs2_w x x0 x1 _).mono ?_; rintro e' w1 ⟨rfl, rfl⟩) | (go_at_call 84; with_reducible refine (cf_31_27 x x0 x1 _).mono ?_; rintro e' w1 ⟨rfl, rfl⟩))
    refine wp_region_held_drew (S := (fun w' => At (w.heap.size + 1) [.int .i64 20, .int .i64 0, .int .i64 ((fl x 128 32)), .int .i64 ((fl x 32768 32)), .int .i64 0, .int .i64 0, .int .i64 ((fl x 4096 8)), .bool false, .bool false, .int .i64 0, .int .u32 0] w' ∧ Rm (w.heap.size) 11 w' ∧ Bh w (w.heap.size + 2) w')) (by kernel_rfl) ⟨At.drew (by with_reducible assumption), Rm.drew (by with_reducible assumption), Bh.drew (by with_reducible assumption)⟩ (fun hS => ?_)
    (refine tk 0 ?_ rfl (Or.inl ⟨by rfl, ?_⟩) hS ?_; rotate_left; focus (intro w' hSw; obtain ⟨s0, s1, sb⟩ := hSw; have c0_0 := s0 0 _ rfl; have c0_1 := s0 1 _ rfl; have c0_2 := s0 2 _ rfl; have c0_3 := s0 3 _ rfl; have c0_4 := s0 4 _ rfl; have c0_5 := s0 5 _ rfl; have c0_6 := s0 6 _ rfl; have c0_7 := s0 7 _ rfl; have c0_8 := s0 8 _ rfl; have c0_9 := s0 9 _ rfl; have c0_10 := s0 10 _ rfl; go_simp <;> try with_reducible rfl))
    try simp only [Act.put, zA, zB, zC]
    (refine tk 1 ?_ rfl (Or.inl ⟨by rfl, ?_⟩) hS ?_; rotate_left; focus (intro w' hSw; obtain ⟨s0, s1, sb⟩ := hSw; go_simp <;> try with_reducible rfl))
    try simp only [Act.put, zA, zB, zC]
    (refine tk 2 ?_ rfl (Or.inl ⟨by rfl, ?_⟩) hS ?_; rotate_left; focus (intro w' hSw; obtain ⟨s0, s1, sb⟩ := hSw; go_simp <;> try with_reducible rfl))
    try simp only [Act.put, zA, zB, zC]
    (refine tk 3 ?_ rfl ?_ hS ?_; rotate_left; focus (first | (refine Or.inl ⟨by rfl, ?_⟩; intro w' hSw; obtain ⟨s0, s1, sb⟩ := hSw; go_simp <;> try with_reducible rfl) | (refine Or.inr ⟨by rfl, ?_⟩; rfl)))
    try simp only [Act.put, zA, zB, zC]
    refine rdy 4 rfl (fun K hK => ?_)
    (first | (refine take_if (by rfl) ?_; obtain ⟨s0, s1, sb⟩ := hS; go_simp; (with_reducible refine (quiet_kp (rs2_w x x0 x1 _)).mono ?_); rintro e' w' ⟨rfl, qk⟩; have t0 := At.kp s0 qk (Nat.lt_of_lt_of_le (show w.heap.size + 1 < w.heap.size + 2 by omega) sb.le); have t1 := Rm.kp s1 qk (Nat.lt_of_lt_of_le (show w.heap.size < w.heap.size + 2 by omega) sb.le); have tb := Bh.step sb qk; clear qk; refine hK.out _ _ ⟨t0, t1, tb⟩ (fun hS => ?_)) | (refine skip_if (by rfl) ?_; refine hK.out _ _ hS (fun hS => ?_)))
    clear hK K
    try simp only [Act.put, zA, zB, zC]
    (refine tk 5 ?_ rfl ?_ hS ?_; rotate_left; focus (first | (refine Or.inl ⟨by rfl, ?_⟩; intro w' hSw; obtain ⟨s0, s1, sb⟩ := hSw; go_simp <;> try with_reducible rfl) | (refine Or.inr ⟨by rfl, ?_⟩; rfl)))
    try simp only [Act.put, zA, zB, zC]
    (refine tk 6 ?_ rfl (Or.inl ⟨by rfl, ?_⟩) hS ?_; rotate_left; focus (intro w' hSw; obtain ⟨s0, s1, sb⟩ := hSw; go_simp <;> try with_reducible rfl))
    try simp only [Act.put, zA, zB, zC]
    refine rdy 7 rfl (fun K hK => ?_)
    obtain ⟨s0, s1, sb⟩ := hS
    have c0_0 := s0 0 _ rfl; have c0_1 := s0 1 _ rfl; have c0_2 := s0 2 _ rfl; have c0_3 := s0 3 _ rfl; have c0_4 := s0 4 _ rfl; have c0_5 := s0 5 _ rfl; have c0_6 := s0 6 _ rfl; have c0_7 := s0 7 _ rfl; have c0_8 := s0 8 _ rfl; have c0_9 := s0 9 _ rfl; have c0_10 := s0 10 _ rfl
    obtain ⟨⟨_, _⟩, _, ⟨_, _⟩, _, ⟨_, _⟩, _, ⟨_, _⟩, _, ⟨_, _⟩, _, ⟨_, _⟩, _, ⟨_, _⟩, _, ⟨_, _⟩, _, ⟨_, _⟩, _, ⟨_, _⟩, _, ⟨_, _⟩, _⟩ := s1.out11; 
    go_simp
    refine hK.out _ _ ⟨?_, ?_, ?_⟩ (fun hS => ?_)
    · repeat' (first | with_reducible assumption | (with_reducible refine At.set ?_ ?_ _) | with_reducible refine At.drew ?_)
      all_goals first | with_reducible assumption | (dsimp only; omega)
    · repeat' (first | with_reducible assumption | (with_reducible refine Rm.set ?_ _) | with_reducible refine Rm.drew ?_)
      all_goals first | with_reducible assumption | (dsimp only; omega)
    · repeat' (first | with_reducible assumption | with_reducible refine Bh.set2 ?_ ?_ | with_reducible refine Bh.drew ?_)
      all_goals first | with_reducible assumption | (dsimp only; omega)
    clear hK K
    try simp only [Act.put, zA, zB, zC]
    (refine tk 8 ?_ rfl (Or.inl ⟨by rfl, ?_⟩) hS ?_; rotate_left; focus (intro w' hSw; obtain ⟨s0, s1, sb⟩ := hSw; go_simp <;> try with_reducible rfl))
    try simp only [Act.put, zA, zB, zC]
    refine wpAnyH_done (by kernel_rfl) ?_ _
    obtain ⟨s0, s1, sb⟩ := hS
    have c0_0 := s0 0 _ rfl; have c0_1 := s0 1 _ rfl; have c0_2 := s0 2 _ rfl; have c0_3 := s0 3 _ rfl; have c0_4 := s0 4 _ rfl; have c0_5 := s0 5 _ rfl; have c0_6 := s0 6 _ rfl; have c0_7 := s0 7 _ rfl; have c0_8 := s0 8 _ rfl; have c0_9 := s0 9 _ rfl; have c0_10 := s0 10 _ rfl
    go_wp2
    have h := Hh.out
    have h2 := Hh2.out
    refine bodyPost_ret (v := .tuple #[Ins.v ⟨20, 0, (fl x 128 32), (fl x 32768 32), 0, 0, (fl x 4096 8), false, false⟩ 0 0, .bool (fl x 1048576 32 == 0)]) ?_ rfl ⟨RdP.mk ⟨20, 0, (fl x 128 32), (fl x 32768 32), 0, 0, (fl x 4096 8), false, false⟩ (fl x 1048576 32 == 0) rfl (by simp [spAmo, h, h2]), ?_⟩
    · clear h h2
      simp [results, Tryz.results78, go_sem, Ins.v, *]
    · with_reducible exact sb.kp
  · have t0 : (fl x 4096 8 == 2) = true := by simp; omega
    have t1 : (fl x 134217728 32 == 2) = false := by simp; omega
    have t2 : (fl x 134217728 32 == 3) = true := by simp; omega
    have t3 : (fl x 134217728 32 == 0) = false := by simp; omega
    have t4 : (fl x 134217728 32 == 1) = false := by simp; omega
    have t5 : (fl x 134217728 32 == 4) = false := by simp; omega
    have t6 : (fl x 134217728 32 == 8) = false := by simp; omega
    have t7 : (fl x 134217728 32 == 12) = false := by simp; omega
    have t8 : (fl x 134217728 32 == 16) = false := by simp; omega
    have t9 : (fl x 134217728 32 == 20) = false := by simp; omega
    have t10 : (fl x 134217728 32 == 24) = false := by simp; omega
    have t11 : (fl x 134217728 32 == 28) = false := by simp; omega
    have Hh := Lib.hid h
    have Hh2 := Lib.hid h2
    clear h h2
    go_enter Tryz.func78, Tryz.ntmps78
    go_wp2_with (first | (go_at_call 117; with_reducible refine (f3_w x x0 x1 _).mono ?_; rintro e' w1 ⟨rfl, rfl⟩) | (go_at_call 118; with_reducible refine (rd_w x x0 x1 _).mono ?_; rintro e' w1 ⟨rfl, rfl⟩) | (go_at_call 119; with_reducible refine (rs1_w x x0 x1 _).mono ?_; rintro e' w1 ⟨rfl, rfl⟩) | (go_at_call 127; with_reducible refine (rs2_w x x0 x1 _).mono ?_; rintro e' w1 ⟨rfl, rfl⟩) | (go_at_call 84; with_reducible refine (cf_31_27 x x0 x1 _).mono ?_; rintro e' w1 ⟨rfl, rfl⟩))
    refine bodyPost_ret (v := .tuple #[Ins.v ⟨21, 0, (fl x 128 32), (fl x 32768 32), (fl x 1048576 32), 0, (fl x 4096 8), false, false⟩ 0 0, .bool (true)]) (by simp [results, Tryz.results78, go_sem, Ins.v]) rfl ⟨RdP.mk ⟨21, 0, (fl x 128 32), (fl x 32768 32), (fl x 1048576 32), 0, (fl x 4096 8), false, false⟩ (true) rfl (by have h := Hh.out; have h2 := Hh2.out; simp [spAmo, h, h2]), by (repeat' (first | with_reducible refine Kp.setCell ?_ ?_ _ | with_reducible refine Kp.allocs ?_ _ _ | with_reducible refine Kp.drew ?_ | with_reducible refine Kp.drewN ?_ _)); all_goals first | exact Kp.refl w | (dsimp only; omega)⟩
  · have t0 : (fl x 4096 8 == 2) = true := by simp; omega
    have t1 : (fl x 134217728 32 == 2) = false := by simp; omega
    have t2 : (fl x 134217728 32 == 3) = false := by simp; omega
    have t3 : (fl x 134217728 32 == 0) = true := by simp; omega
    have t4 : (fl x 134217728 32 == 1) = false := by simp; omega
    have t5 : (fl x 134217728 32 == 4) = false := by simp; omega
    have t6 : (fl x 134217728 32 == 8) = false := by simp; omega
    have t7 : (fl x 134217728 32 == 12) = false := by simp; omega
    have t8 : (fl x 134217728 32 == 16) = false := by simp; omega
    have t9 : (fl x 134217728 32 == 20) = false := by simp; omega
    have t10 : (fl x 134217728 32 == 24) = false := by simp; omega
    have t11 : (fl x 134217728 32 == 28) = false := by simp; omega
    have Hh := Lib.hid h
    have Hh2 := Lib.hid h2
    clear h h2
    go_enter Tryz.func78, Tryz.ntmps78
    go_wp2_with (first | (go_at_call 117; with_reducible refine (f3_w x x0 x1 _).mono ?_; rintro e' w1 ⟨rfl, rfl⟩) | (go_at_call 118; with_reducible refine (rd_w x x0 x1 _).mono ?_; rintro e' w1 ⟨rfl, rfl⟩) | (go_at_call 119; with_reducible refine (rs1_w x x0 x1 _).mono ?_; rintro e' w1 ⟨rfl, rfl⟩) | (go_at_call 127; with_reducible refine (rs2_w x x0 x1 _).mono ?_; rintro e' w1 ⟨rfl, rfl⟩) | (go_at_call 84; with_reducible refine (cf_31_27 x x0 x1 _).mono ?_; rintro e' w1 ⟨rfl, rfl⟩))
    refine bodyPost_ret (v := .tuple #[Ins.v ⟨22, fl x 134217728 32, (fl x 128 32), (fl x 32768 32), (fl x 1048576 32), 0, (fl x 4096 8), false, false⟩ 0 0, .bool (true)]) (by simp [results, Tryz.results78, go_sem, Ins.v]) rfl ⟨RdP.mk ⟨22, fl x 134217728 32, (fl x 128 32), (fl x 32768 32), (fl x 1048576 32), 0, (fl x 4096 8), false, false⟩ (true) rfl (by have h := Hh.out; have h2 := Hh2.out; simp [spAmo, h, h2, amoB]), by (repeat' (first | with_reducible refine Kp.setCell ?_ ?_ _ | with_reducible refine Kp.allocs ?_ _ _ | with_reducible refine Kp.drew ?_ | with_reducible refine Kp.drewN ?_ _)); all_goals first | exact Kp.refl w | (dsimp only; omega)⟩
  · have t0 : (fl x 4096 8 == 2) = true := by simp; omega
    have t1 : (fl x 134217728 32 == 2) = false := by simp; omega
    have t2 : (fl x 134217728 32 == 3) = false := by simp; omega
    have t3 : (fl x 134217728 32 == 0) = false := by simp; omega
    have t4 : (fl x 134217728 32 == 1) = true := by simp; omega
    have t5 : (fl x 134217728 32 == 4) = false := by simp; omega
    have t6 : (fl x 134217728 32 == 8) = false := by simp; omega
    have t7 : (fl x 134217728 32 == 12) = false := by simp; omega
    have t8 : (fl x 134217728 32 == 16) = false := by simp; omega
    have t9 : (fl x 134217728 32 == 20) = false := by simp; omega
    have t10 : (fl x 134217728 32 == 24) = false := by simp; omega
    have t11 : (fl x 134217728 32 == 28) = false := by simp; omega
    have Hh := Lib.hid h
    have Hh2 := Lib.hid h2
    clear h h2
    go_enter Tryz.func78, Tryz.ntmps78
    go_wp2_with (first | (go_at_call 117; with_reducible refine (f3_w x x0 x1 _).mono ?_; rintro e' w1 ⟨rfl, rfl⟩) | (go_at_call 118; with_reducible refine (rd_w x x0 x1 _).mono ?_; rintro e' w1 ⟨rfl, rfl⟩) | (go_at_call 119; with_reducible refine (rs1_w x x0 x1 _).mono ?_; rintro e' w1 ⟨rfl, rfl⟩) | (go_at_call 127; with_reducible refine (rs2_w x x0 x1 _).mono ?_; rintro e' w1 ⟨rfl, rfl⟩) | (go_at_call 84; with_reducible refine (cf_31_27 x x0 x1 _).mono ?_; rintro e' w1 ⟨rfl, rfl⟩))
    refine bodyPost_ret (v := .tuple #[Ins.v ⟨22, fl x 134217728 32, (fl x 128 32), (fl x 32768 32), (fl x 1048576 32), 0, (fl x 4096 8), false, false⟩ 0 0, .bool (true)]) (by simp [results, Tryz.results78, go_sem, Ins.v]) rfl ⟨RdP.mk ⟨22, fl x 134217728 32, (fl x 128 32), (fl x 32768 32), (fl x 1048576 32), 0, (fl x 4096 8), false, false⟩ (true) rfl (by have h := Hh.out; have h2 := Hh2.out; simp [spAmo, h, h2, amoB]), by (repeat' (first | with_reducible refine Kp.setCell ?_ ?_ _ | with_reducible refine Kp.allocs ?_ _ _ | with_reducible refine Kp.drew ?_ | with_reducible refine Kp.drewN ?_ _)); all_goals first | exact Kp.refl w | (dsimp only; omega)⟩
  · have t0 : (fl x 4096 8 == 2) = true := by simp; omega
    have t1 : (fl x 134217728 32 == 2) = false := by simp; omega
    have t2 : (fl x 134217728 32 == 3) = false := by simp; omega
    have t3 : (fl x 134217728 32 == 0) = false := by simp; omega
    have t4 : (fl x 134217728 32 == 1) = false := by simp; omega
    have t5 : (fl x 134217728 32 == 4) = true := by simp; omega
    have t6 : (fl x 134217728 32 == 8) = false := by simp; omega
    have t7 : (fl x 134217728 32 == 12) = false := by simp; omega
    have t8 : (fl x 134217728 32 == 16) = false := by simp; omega
    have t9 : (fl x 134217728 32 == 20) = false := by simp; omega
    have t10 : (fl x 134217728 32 == 24) = false := by simp; omega
    have t11 : (fl x 134217728 32 == 28) = false := by simp; omega
    have Hh := Lib.hid h
    have Hh2 := Lib.hid h2
    clear h h2
    go_enter Tryz.func78, Tryz.ntmps78
    go_wp2_with (first | (go_at_call 117; with_reducible refine (f3_w x x0 x1 _).mono ?_; rintro e' w1 ⟨rfl, rfl⟩) | (go_at_call 118; with_reducible refine (rd_w x x0 x1 _).mono ?_; rintro e' w1 ⟨rfl, rfl⟩) | (go_at_call 119; with_reducible refine (rs1_w x x0 x1 _).mono ?_; rintro e' w1 ⟨rfl, rfl⟩) | (go_at_call 127; with_reducible refine (rs2_w x x0 x1 _).mono ?_; rintro e' w1 ⟨rfl, rfl⟩) | (go_at_call 84; with_reducible refine (cf_31_27 x x0 x1 _).mono ?_; rintro e' w1 ⟨rfl, rfl⟩))
    refine bodyPost_ret (v := .tuple #[Ins.v ⟨22, fl x 134217728 32, (fl x 128 32), (fl x 32768 32), (fl x 1048576 32), 0, (fl x 4096 8), false, false⟩ 0 0, .bool (true)]) (by simp [results, Tryz.results78, go_sem, Ins.v]) rfl ⟨RdP.mk ⟨22, fl x 134217728 32, (fl x 128 32), (fl x 32768 32), (fl x 1048576 32), 0, (fl x 4096 8), false, false⟩ (true) rfl (by have h := Hh.out; have h2 := Hh2.out; simp [spAmo, h, h2, amoB]), by (repeat' (first | with_reducible refine Kp.setCell ?_ ?_ _ | with_reducible refine Kp.allocs ?_ _ _ | with_reducible refine Kp.drew ?_ | with_reducible refine Kp.drewN ?_ _)); all_goals first | exact Kp.refl w | (dsimp only; omega)⟩
  · have t0 : (fl x 4096 8 == 2) = true := by simp; omega
    have t1 : (fl x 134217728 32 == 2) = false := by simp; omega
    have t2 : (fl x 134217728 32 == 3) = false := by simp; omega
    have t3 : (fl x 134217728 32 == 0) = false := by simp; omega
    have t4 : (fl x 134217728 32 == 1) = false := by simp; omega
    have t5 : (fl x 134217728 32 == 4) = false := by simp; omega
    have t6 : (fl x 134217728 32 == 8) = true := by simp; omega
    have t7 : (fl x 134217728 32 == 12) = false := by simp; omega
    have t8 : (fl x 134217728 32 == 16) = false := by simp; omega
    have t9 : (fl x 134217728 32 == 20) = false := by simp; omega
    have t10 : (fl x 134217728 32 == 24) = false := by simp; omega
    have t11 : (fl x 134217728 32 == 28) = false := by simp; omega
    have Hh := Lib.hid h
    have Hh2 := Lib.hid h2
    clear h h2
    go_enter Tryz.func78, Tryz.ntmps78
    go_wp2_with (first | (go_at_call 117; with_reducible refine (f3_w x x0 x1 _).mono ?_; rintro e' w1 ⟨rfl, rfl⟩) | (go_at_call 118; with_reducible refine (rd_w x x0 x1 _).mono ?_; rintro e' w1 ⟨rfl, rfl⟩) | (go_at_call 119; with_reducible refine (rs1_w x x0 x1 _).mono ?_; rintro e' w1 ⟨rfl, rfl⟩) | (go_at_call 127; with_reducible refine (rs2_w x x0 x1 _).mono ?_; rintro e' w1 ⟨rfl, rfl⟩) | (go_at_call 84; with_reducible refine (cf_31_27 x x0 x1 _).mono ?_; rintro e' w1 ⟨rfl, rfl⟩))
    refine bodyPost_ret (v := .tuple #[Ins.v ⟨22, fl x 134217728 32, (fl x 128 32), (fl x 32768 32), (fl x 1048576 32), 0, (fl x 4096 8), false, false⟩ 0 0, .bool (true)]) (by simp [results, Tryz.results78, go_sem, Ins.v]) rfl ⟨RdP.mk ⟨22, fl x 134217728 32, (fl x 128 32), (fl x 32768 32), (fl x 1048576 32), 0, (fl x 4096 8), false, false⟩ (true) rfl (by have h := Hh.out; have h2 := Hh2.out; simp [spAmo, h, h2, amoB]), by (repeat' (first | with_reducible refine Kp.setCell ?_ ?_ _ | with_reducible refine Kp.allocs ?_ _ _ | with_reducible refine Kp.drew ?_ | with_reducible refine Kp.drewN ?_ _)); all_goals first | exact Kp.refl w | (dsimp only; omega)⟩
  · have t0 : (fl x 4096 8 == 2) = true := by simp; omega
    have t1 : (fl x 134217728 32 == 2) = false := by simp; omega
    have t2 : (fl x 134217728 32 == 3) = false := by simp; omega
    have t3 : (fl x 134217728 32 == 0) = false := by simp; omega
    have t4 : (fl x 134217728 32 == 1) = false := by simp; omega
    have t5 : (fl x 134217728 32 == 4) = false := by simp; omega
    have t6 : (fl x 134217728 32 == 8) = false := by simp; omega
    have t7 : (fl x 134217728 32 == 12) = true := by simp; omega
    have t8 : (fl x 134217728 32 == 16) = false := by simp; omega
    have t9 : (fl x 134217728 32 == 20) = false := by simp; omega
    have t10 : (fl x 134217728 32 == 24) = false := by simp; omega
    have t11 : (fl x 134217728 32 == 28) = false := by simp; omega
    have Hh := Lib.hid h
    have Hh2 := Lib.hid h2
    clear h h2
    go_enter Tryz.func78, Tryz.ntmps78
    go_wp2_with (first | (go_at_call 117; with_reducible refine (f3_w x x0 x1 _).mono ?_; rintro e' w1 ⟨rfl, rfl⟩) | (go_at_call 118; with_reducible refine (rd_w x x0 x1 _).mono ?_; rintro e' w1 ⟨rfl, rfl⟩) | (go_at_call 119; with_reducible refine (rs1_w x x0 x1 _).mono ?_; rintro e' w1 ⟨rfl, rfl⟩) | (go_at_call 127; with_reducible refine (rs2_w x x0 x1 _).mono ?_; rintro e' w1 ⟨rfl, rfl⟩) | (go_at_call 84; with_reducible refine (cf_31_27 x x0 x1 _).mono ?_; rintro e' w1 ⟨rfl, rfl⟩))
    refine bodyPost_ret (v := .tuple #[Ins.v ⟨22, fl x 134217728 32, (fl x 128 32), (fl x 32768 32), (fl x 1048576 32), 0, (fl x 4096 8), false, false⟩ 0 0, .bool (true)]) (by simp [results, Tryz.results78, go_sem, Ins.v]) rfl ⟨RdP.mk ⟨22, fl x 134217728 32, (fl x 128 32), (fl x 32768 32), (fl x 1048576 32), 0, (fl x 4096 8), false, false⟩ (true) rfl (by have h := Hh.out; have h2 := Hh2.out; simp [spAmo, h, h2, amoB]), by (repeat' (first | with_reducible refine Kp.setCell ?_ ?_ _ | with_reducible refine Kp.allocs ?_ _ _ | with_reducible refine Kp.drew ?_ | with_reducible refine Kp.drewN ?_ _)); all_goals first | exact Kp.refl w | (dsimp only; omega)⟩
  · have t0 : (fl x 4096 8 == 2) = true := by simp; omega
    have t1 : (fl x 134217728 32 == 2) = false := by simp; omega
    have t2 : (fl x 134217728 32 == 3) = false := by simp; omega
    have t3 : (fl x 134217728 32 == 0) = false := by simp; omega
    have t4 : (fl x 134217728 32 == 1) = false := by simp; omega
    have t5 : (fl x 134217728 32 == 4) = false := by simp; omega
    have t6 : (fl x 134217728 32 == 8) = false := by simp; omega
    have t7 : (fl x 134217728 32 == 12) = false := by simp; omega
    have t8 : (fl x 134217728 32 == 16) = true := by simp; omega
    have t9 : (fl x 134217728 32 == 20) = false := by simp; omega
    have t10 : (fl x 134217728 32 == 24) = false := by simp; omega
    have t11 : (fl x 134217728 32 == 28) = false := by simp; omega
    have Hh := Lib.hid h
    have Hh2 := Lib.hid h2
    clear h h2
    go_enter Tryz.func78, Tryz.ntmps78
    go_wp2_with (first | (go_at_call 117; with_reducible refine (f3_w x x0 x1 _).mono ?_; rintro e' w1 ⟨rfl, rfl⟩) | (go_at_call 118; with_reducible refine (rd_w x x0 x1 _).mono ?_; rintro e' w1 ⟨rfl, rfl⟩) | (go_at_call 119; with_reducible refine (rs1_w x x0 x1 _).mono ?_; rintro e' w1 ⟨rfl, rfl⟩) | (go_at_call 127; with_reducible refine (rs2_w x x0 x1 _).mono ?_; rintro e' w1 ⟨rfl, rfl⟩) | (go_at_call 84; with_reducible refine (cf_31_27 x x0 x1 _).mono ?_; rintro e' w1 ⟨rfl, rfl⟩))
    refine bodyPost_ret (v := .tuple #[Ins.v ⟨22, fl x 134217728 32, (fl x 128 32), (fl x 32768 32), (fl x 1048576 32), 0, (fl x 4096 8), false, false⟩ 0 0, .bool (true)]) (by simp [results, Tryz.results78, go_sem, Ins.v]) rfl ⟨RdP.mk ⟨22, fl x 134217728 32, (fl x 128 32), (fl x 32768 32), (fl x 1048576 32), 0, (fl x 4096 8), false, false⟩ (true) rfl (by have h := Hh.out; have h2 := Hh2.out; simp [spAmo, h, h2, amoB]), by (repeat' (first | with_reducible refine Kp.setCell ?_ ?_ _ | with_reducible refine Kp.allocs ?_ _ _ | with_reducible refine Kp.drew ?_ | with_reducible refine Kp.drewN ?_ _)); all_goals first | exact Kp.refl w | (dsimp only; omega)⟩
  · have t0 : (fl x 4096 8 == 2) = true := by simp; omega
    have t1 : (fl x 134217728 32 == 2) = false := by simp; omega
    have t2 : (fl x 134217728 32 == 3) = false := by simp; omega
    have t3 : (fl x 134217728 32 == 0) = false := by simp; omega
    have t4 : (fl x 134217728 32 == 1) = false := by simp; omega
    have t5 : (fl x 134217728 32 == 4) = false := by simp; omega
    have t6 : (fl x 134217728 32 == 8) = false := by simp; omega
    have t7 : (fl x 134217728 32 == 12) = false := by simp; omega
    have t8 : (fl x 134217728 32 == 16) = false := by simp; omega
    have t9 : (fl x 134217728 32 == 20) = true := by simp; omega
    have t10 : (fl x 134217728 32 == 24) = false := by simp; omega
    have t11 : (fl x 134217728 32 == 28) = false := by simp; omega
    have Hh := Lib.hid h
    have Hh2 := Lib.hid h2
    clear h h2
    go_enter Tryz.func78, Tryz.ntmps78
    go_wp2_with (first | (go_at_call 117; with_reducible refine (f3_w x x0 x1 _).mono ?_; rintro e' w1 ⟨rfl, rfl⟩) | (go_at_call 118; with_reducible refine (rd_w x x0 x1 _).mono ?_; rintro e' w1 ⟨rfl, rfl⟩) | (go_at_call 119; with_reducible refine (rs1_w x x0 x1 _).mono ?_; rintro e' w1 ⟨rfl, rfl⟩) | (go_at_call 127; with_reducible refine (rs2_w x x0 x1 _).mono ?_; rintro e' w1 ⟨rfl, rfl⟩) | (go_at_call 84; with_reducible refine (cf_31_27 x x0 x1 _).mono ?_; rintro e' w1 ⟨rfl, rfl⟩))
    refine bodyPost_ret (v := .tuple #[Ins.v ⟨22, fl x 134217728 32, (fl x 128 32), (fl x 32768 32), (fl x 1048576 32), 0, (fl x 4096 8), false, false⟩ 0 0, .bool (true)]) (by simp [results, Tryz.results78, go_sem, Ins.v]) rfl ⟨RdP.mk ⟨22, fl x 134217728 32, (fl x 128 32), (fl x 32768 32), (fl x 1048576 32), 0, (fl x 4096 8), false, false⟩ (true) rfl (by have h := Hh.out; have h2 := Hh2.out; simp [spAmo, h, h2, amoB]), by (repeat' (first | with_reducible refine Kp.setCell ?_ ?_ _ | with_reducible refine Kp.allocs ?_ _ _ | with_reducible refine Kp.drew ?_ | with_reducible refine Kp.drewN ?_ _)); all_goals first | exact Kp.refl w | (dsimp only; omega)⟩
  · have t0 : (fl x 4096 8 == 2) = true := by simp; omega
    have t1 : (fl x 134217728 32 == 2) = false := by simp; omega
    have t2 : (fl x 134217728 32 == 3) = false := by simp; omega
    have t3 : (fl x 134217728 32 == 0) = false := by simp; omega
    have t4 : (fl x 134217728 32 == 1) = false := by simp; omega
    have t5 : (fl x 134217728 32 == 4) = false := by simp; omega
    have t6 : (fl x 134217728 32 == 8) = false := by simp; omega
    have t7 : (fl x 134217728 32 == 12) = false := by simp; omega
    have t8 : (fl x 134217728 32 == 16) = false := by simp; omega
    have t9 : (fl x 134217728 32 == 20) = false := by simp; omega
    have t10 : (fl x 134217728 32 == 24) = true := by simp; omega
    have t11 : (fl x 134217728 32 == 28) = false := by simp; omega
    have Hh := Lib.hid h
    have Hh2 := Lib.hid h2
    clear h h2
    go_enter Tryz.func78, Tryz.ntmps78
    go_wp2_with (first | (go_at_call 117; with_reducible refine (f3_w x x0 x1 _).mono ?_; rintro e' w1 ⟨rfl, rfl⟩) | (go_at_call 118; with_reducible refine (rd_w x x0 x1 _).mono ?_; rintro e' w1 ⟨rfl, rfl⟩) | (go_at_call 119; with_reducible refine (rs1_w x x0 x1 _).mono ?_; rintro e' w1 ⟨rfl, rfl⟩) | (go_at_call 127; with_reducible refine (rs2_w x x0 x1 _).mono ?_; rintro e' w1 ⟨rfl, rfl⟩) | (go_at_call 84; with_reducible refine (cf_31_27 x x0 x1 _).mono ?_; rintro e' w1 ⟨rfl, rfl⟩))
    refine bodyPost_ret (v := .tuple #[Ins.v ⟨22, fl x 134217728 32, (fl x 128 32), (fl x 32768 32), (fl x 1048576 32), 0, (fl x 4096 8), false, false⟩ 0 0, .bool (true)]) (by simp [results, Tryz.results78, go_sem, Ins.v]) rfl ⟨RdP.mk ⟨22, fl x 134217728 32, (fl x 128 32), (fl x 32768 32), (fl x 1048576 32), 0, (fl x 4096 8), false, false⟩ (true) rfl (by have h := Hh.out; have h2 := Hh2.out; simp [spAmo, h, h2, amoB]), by (repeat' (first | with_reducible refine Kp.setCell ?_ ?_ _ | with_reducible refine Kp.allocs ?_ _ _ | with_reducible refine Kp.drew ?_ | with_reducible refine Kp.drewN ?_ _)); all_goals first | exact Kp.refl w | (dsimp only; omega)⟩
  · have t0 : (fl x 4096 8 == 2) = true := by simp; omega
    have t1 : (fl x 134217728 32 == 2) = false := by simp; omega
    have t2 : (fl x 134217728 32 == 3) = false := by simp; omega
    have t3 : (fl x 134217728 32 == 0) = false := by simp; omega
    have t4 : (fl x 134217728 32 == 1) = false := by simp; omega
    have t5 : (fl x 134217728 32 == 4) = false := by simp; omega
    have t6 : (fl x 134217728 32 == 8) = false := by simp; omega
    have t7 : (fl x 134217728 32 == 12) = false := by simp; omega
    have t8 : (fl x 134217728 32 == 16) = false := by simp; omega
    have t9 : (fl x 134217728 32 == 20) = false := by simp; omega
    have t10 : (fl x 134217728 32 == 24) = false := by simp; omega
    have t11 : (fl x 134217728 32 == 28) = true := by simp; omega
    have Hh := Lib.hid h
    have Hh2 := Lib.hid h2
    clear h h2
    go_enter Tryz.func78, Tryz.ntmps78
    go_wp2_with (first | (go_at_call 117; with_reducible refine (f3_w x x0 x1 _).mono ?_; rintro e' w1 ⟨rfl, rfl⟩) | (go_at_call 118; with_reducible refine (rd_w x x0 x1 _).mono ?_; rintro e' w1 ⟨rfl, rfl⟩) | (go_at_call 119; with_reducible refine (rs1_w x x0 x1 _).mono ?_; rintro e' w1 ⟨rfl, rfl⟩) | (go_at_call 127; with_reducible refine (rs2_w x x0 x1 _).mono ?_; rintro e' w1 ⟨rfl, rfl⟩) | (go_at_call 84; with_reducible refine (cf_31_27 x x0 x1 _).mono ?_; rintro e' w1 ⟨rfl, rfl⟩))
    refine bodyPost_ret (v := .tuple #[Ins.v ⟨22, fl x 134217728 32, (fl x 128 32), (fl x 32768 32), (fl x 1048576 32), 0, (fl x 4096 8), false, false⟩ 0 0, .bool (true)]) (by simp [results, Tryz.results78, go_sem, Ins.v]) rfl ⟨RdP.mk ⟨22, fl x 134217728 32, (fl x 128 32), (fl x 32768 32), (fl x 1048576 32), 0, (fl x 4096 8), false, false⟩ (true) rfl (by have h := Hh.out; have h2 := Hh2.out; simp [spAmo, h, h2, amoB]), by (repeat' (first | with_reducible refine Kp.setCell ?_ ?_ _ | with_reducible refine Kp.allocs ?_ _ _ | with_reducible refine Kp.drew ?_ | with_reducible refine Kp.drewN ?_ _)); all_goals first | exact Kp.refl w | (dsimp only; omega)⟩
  · have t0 : (fl x 4096 8 == 2) = true := by simp; omega
    have t1 : (fl x 134217728 32 == 2) = false := by simp; omega
    have t2 : (fl x 134217728 32 == 3) = false := by simp; omega
    have t3 : (fl x 134217728 32 == 0) = false := by simp; omega
    have t4 : (fl x 134217728 32 == 1) = false := by simp; omega
    have t5 : (fl x 134217728 32 == 4) = false := by simp; omega
    have t6 : (fl x 134217728 32 == 8) = false := by simp; omega
    have t7 : (fl x 134217728 32 == 12) = false := by simp; omega
    have t8 : (fl x 134217728 32 == 16) = false := by simp; omega
    have t9 : (fl x 134217728 32 == 20) = false := by simp; omega
    have t10 : (fl x 134217728 32 == 24) = false := by simp; omega
    have t11 : (fl x 134217728 32 == 28) = false := by simp; omega
    have Hh := Lib.hid h
    have Hh2 := Lib.hid h2
    clear h h2
    go_enter Tryz.func78, Tryz.ntmps78
    go_wp2_with (first | (go_at_call 117; with_reducible refine (f3_w x x0 x1 _).mono ?_; rintro e' w1 ⟨rfl, rfl⟩) | (go_at_call 118; with_reducible refine (rd_w x x0 x1 _).mono ?_; rintro e' w1 ⟨rfl, rfl⟩) | (go_at_call 119; with_reducible refine (rs1_w x x0 x1 _).mono ?_; rintro e' w1 ⟨rfl, rfl⟩) | (go_at_call 127; with_reducible refine (rs2_w x x0 x1 _).mono ?_; rintro e' w1 ⟨rfl, rfl⟩) | (go_at_call 84; with_reducible refine (cf_31_27 x x0 x1 _).mono ?_; rintro e' w1 ⟨rfl, rfl⟩))
    refine bodyPost_ret (v := .tuple #[Ins.v zIns 0 0, .bool (false)]) (by simp [results, Tryz.results78, go_sem, Ins.v, zIns]) rfl ⟨RdP.mk zIns (false) rfl (by have h := Hh.out; have h2 := Hh2.out; obtain ⟨g0, g1, g2, g3, g4, g5, g6, g7, g8, g9, g10⟩ := h2; simp [spAmo, h, amoB, g0, g1, g2, g3, g4, g5, g6, g7, g8, g9, g10]), by (repeat' (first | with_reducible refine Kp.setCell ?_ ?_ _ | with_reducible refine Kp.allocs ?_ _ _ | with_reducible refine Kp.drew ?_ | with_reducible refine Kp.drewN ?_ _)); all_goals first | exact Kp.refl w | (dsimp only; omega)⟩
set_option maxRecDepth 4000 in
set_option maxHeartbeats 16000000 in
theorem atomic_3 (x : Int) (x0 : 0 ≤ x) (x1 : x < 4294967296) (h : fl x 4096 8 = 3) (w : World) :
    Calls Tryz.prog 78 #[.int .u32 x] w fun e w' => RdP e (spAmo x) ∧ Kp w w' := by
  have brd := fl_bd x 128 32 (by omega)
  have bf3 := fl_bd x 4096 8 (by omega)
  have br1 := fl_bd x 32768 32 (by omega)
  have br2 := fl_bd x 1048576 32 (by omega)
  have bf7 := fl_bd x 33554432 128 (by omega)
  have ba := fl_bd x 134217728 32 (by omega)
  rcases (show fl x 134217728 32 = 2 ∨ fl x 134217728 32 = 3 ∨ fl x 134217728 32 = 0 ∨ fl x 134217728 32 = 1 ∨ fl x 134217728 32 = 4 ∨ fl x 134217728 32 = 8 ∨ fl x 134217728 32 = 12 ∨ fl x 134217728 32 = 16 ∨ fl x 134217728 32 = 20 ∨ fl x 134217728 32 = 24 ∨ fl x 134217728 32 = 28 ∨ (¬ fl x 134217728 32 = 2 ∧ ¬ fl x 134217728 32 = 3 ∧ ¬ fl x 134217728 32 = 0 ∧ ¬ fl x 134217728 32 = 1 ∧ ¬ fl x 134217728 32 = 4 ∧ ¬ fl x 134217728 32 = 8 ∧ ¬ fl x 134217728 32 = 12 ∧ ¬ fl x 134217728 32 = 16 ∧ ¬ fl x 134217728 32 = 20 ∧ ¬ fl x 134217728 32 = 24 ∧ ¬ fl x 134217728 32 = 28) by omega) with h2 | h2 | h2 | h2 | h2 | h2 | h2 | h2 | h2 | h2 | h2 | h2
  · have t0 : (fl x 4096 8 == 2) = false := by simp; omega
    have t1 : (fl x 4096 8 == 3) = true := by simp; omega
    have t2 : (fl x 134217728 32 == 2) = true := by simp; omega
    have t3 : (fl x 134217728 32 == 3) = false := by simp; omega
    have t4 : (fl x 134217728 32 == 0) = false := by simp; omega
    have t5 : (fl x 134217728 32 == 1) = false := by simp; omega
    have t6 : (fl x 134217728 32 == 4) = false := by simp; omega
    have t7 : (fl x 134217728 32 == 8) = false := by simp; omega
    have t8 : (fl x 134217728 32 == 12) = false := by simp; omega
    have t9 : (fl x 134217728 32 == 16) = false := by simp; omega
    have t10 : (fl x 134217728 32 == 20) = false := by simp; omega
    have t11 : (fl x 134217728 32 == 24) = false := by simp; omega
    have t12 : (fl x 134217728 32 == 28) = false := by simp; omega
    have Hh := Lib.hid h
    have Hh2 := Lib.hid h2
    clear h h2
    have A0 : At (w.heap.size) [.int .i64 0, .int .i64 0, .int .i64 0, .int .i64 0, .int .i64 0, .int .i64 0, .int .i64 0, .bool false, .bool false, .int .i64 0, .int .u32 0] ((w.alloc (.cells #[.int .i64 0, .int .i64 0, .int .i64 0, .int .i64 0, .int .i64 0, .int .i64 0, .int .i64 0, .bool false, .bool false, .int .i64 0, .int .u32 0] 24)).alloc (.cells #[.int .i64 20, .int .i64 0, .int .i64 ((fl x 128 32)), .int .i64 ((fl x 32768 32)), .int .i64 0, .int .i64 0, .int .i64 ((fl x 4096 8)), .bool false, .bool false, .int .i64 0, .int .u32 0] 24)) := ((At.new' w [.int .i64 0, .int .i64 0, .int .i64 0, .int .i64 0, .int .i64 0, .int .i64 0, .int .i64 0, .bool false, .bool false, .int .i64 0, .int .u32 0] 24 (by simp)).alloc _)
    have R0 : Rm (w.heap.size) 11 ((w.alloc (.cells #[.int .i64 0, .int .i64 0, .int .i64 0, .int .i64 0, .int .i64 0, .int .i64 0, .int .i64 0, .bool false, .bool false, .int .i64 0, .int .u32 0] 24)).alloc (.cells #[.int .i64 20, .int .i64 0, .int .i64 ((fl x 128 32)), .int .i64 ((fl x 32768 32)), .int .i64 0, .int .i64 0, .int .i64 ((fl x 4096 8)), .bool false, .bool false, .int .i64 0, .int .u32 0] 24)) := ((Rm.new' w [.int .i64 0, .int .i64 0, .int .i64 0, .int .i64 0, .int .i64 0, .int .i64 0, .int .i64 0, .bool false, .bool false, .int .i64 0, .int .u32 0] 24 11 (by simp) (by simp)).alloc _ _)
    have A1 : At (w.heap.size + 1) [.int .i64 20, .int .i64 0, .int .i64 ((fl x 128 32)), .int .i64 ((fl x 32768 32)), .int .i64 0, .int .i64 0, .int .i64 ((fl x 4096 8)), .bool false, .bool false, .int .i64 0, .int .u32 0] ((w.alloc (.cells #[.int .i64 0, .int .i64 0, .int .i64 0, .int .i64 0, .int .i64 0, .int .i64 0, .int .i64 0, .bool false, .bool false, .int .i64 0, .int .u32 0] 24)).alloc (.cells #[.int .i64 20, .int .i64 0, .int .i64 ((fl x 128 32)), .int .i64 ((fl x 32768 32)), .int .i64 0, .int .i64 0, .int .i64 ((fl x 4096 8)), .bool false, .bool false, .int .i64 0, .int .u32 0] 24)) := (At.new' (w.alloc (.cells #[.int .i64 0, .int .i64 0, .int .i64 0, .int .i64 0, .int .i64 0, .int .i64 0, .int .i64 0, .bool false, .bool false, .int .i64 0, .int .u32 0] 24)) [.int .i64 20, .int .i64 0, .int .i64 ((fl x 128 32)), .int .i64 ((fl x 32768 32)), .int .i64 0, .int .i64 0, .int .i64 ((fl x 4096 8)), .bool false, .bool false, .int .i64 0, .int .u32 0] 24 (by simp))
    have kb : Bh w (w.heap.size + 2) ((w.alloc (.cells #[.int .i64 0, .int .i64 0, .int .i64 0, .int .i64 0, .int .i64 0, .int .i64 0, .int .i64 0, .bool false, .bool false, .int .i64 0, .int .u32 0] 24)).alloc (.cells #[.int .i64 20, .int .i64 0, .int .i64 ((fl x 128 32)), .int .i64 ((fl x 32768 32)), .int .i64 0, .int .i64 0, .int .i64 ((fl x 4096 8)), .bool false, .bool false, .int .i64 0, .int .u32 0] 24)) := ⟨(((Kp.refl w).allocs _ _).allocs _ _), by simp, by simp⟩
    go_enter Tryz.func78, Tryz.ntmps78
    go_wp2_with (first | (go_at_call 117; with_reducible refine (f3_w x x0 x1 _).mono ?_; rintro e' w1 ⟨rfl, rfl⟩) | (go_at_call 118; with_reducible refine (rd_w x x0 x1 _).mono ?_; rintro e' w1 ⟨rfl, rfl⟩) | (go_at_call 119; with_reducible refine (rs1_w x x0 x1 _).mono ?_; rintro e' w1 ⟨rfl, rfl⟩) | (go_at_call 127; with_reducible refine (rs2_w x x0 x1 _).mono ?_; rintro e' w1 ⟨rfl, rfl⟩) | (go_at_call 84; with_reducible refine (cf_31_27 x x0 x1 _).mono ?_; rintro e' w1 ⟨rfl, rfl⟩))
    refine wp_region_held_drew (S := (fun w' => At (w.heap.size + 1) [.int .i64 20, .int .i64 0, .int .i64 ((fl x 128 32)), .int .i64 ((fl x 32768 32)), .int .i64 0, .int .i64 0, .int .i64 ((fl x 4096 8)), .bool false, .bool false, .int .i64 0, .int .u32 0] w' ∧ Rm (w.heap.size) 11 w' ∧ Bh w (w.heap.size + 2) w')) (by kernel_rfl) ⟨At.drew (by with_reducible assumption), Rm.drew (by with_reducible assumption), Bh.drew (by with_reducible assumption)⟩ (fun hS => ?_)
    (refine tk 0 ?_ rfl (Or.inl ⟨by rfl, ?_⟩) hS ?_; rotate_left; focus (intro w' hSw; obtain ⟨s0, s1, sb⟩ := hSw; have c0_0 := s0 0 _ rfl; have c0_1 := s0 1 _ rfl; have c0_2 := s0 2 _ rfl; have c0_3 := s0 3 _ rfl; have c0_4 := s0 4 _ rfl; have c0_5 := s0 5 _ rfl; have c0_6 := s0 6 _ rfl; have c0_7 := s0 7 _ rfl; have c0_8 := s0 8 _ rfl; have c0_9 := s0 9 _ rfl; have c0_10 := s0 10 _ rfl; go_simp <;> try with_reducible rfl))
    try simp only [Act.put, zA, zB, zC]
    (refine tk 1 ?_ rfl (Or.inl ⟨by rfl, ?_⟩) hS ?_; rotate_left; focus (intro w' hSw; obtain ⟨s0, s1, sb⟩ := hSw; go_simp <;> try with_reducible rfl))
    try simp only [Act.put, zA, zB, zC]
    (refine tk 2 ?_ rfl (Or.inl ⟨by rfl, ?_⟩) hS ?_; rotate_left; focus (intro w' hSw; obtain ⟨s0, s1, sb⟩ := hSw; go_simp <;> try with_reducible rfl))
    try simp only [Act.put, zA, zB, zC]
    (refine tk 3 ?_ rfl ?_ hS ?_; rotate_left; focus (first | (refine Or.inl ⟨by rfl, ?_⟩; intro w' hSw; obtain ⟨s0, s1, sb⟩ := hSw; go_simp <;> try with_reducible rfl) | (refine Or.inr ⟨by rfl, ?_⟩; rfl)))
    try simp only [Act.put, zA, zB, zC]
    refine rdy 4 rfl (fun K hK => ?_)
    (first | (refine take_if (by rfl) ?_; obtain ⟨s0, s1, sb⟩ := hS; go_simp; (with_reducible refine (quiet_kp (rs2_w x x0 x1 _)).mono ?_); rintro e' w' ⟨rfl, qk⟩; have t0 := At.kp s0 qk (Nat.lt_of_lt_of_le (show w.heap.size + 1 < w.heap.size + 2 by omega) sb.le); have t1 := Rm.kp s1 qk (Nat.lt_of_lt_of_le (show w.heap.size < w.heap.size + 2 by omega) sb.le); have tb := Bh.step sb qk; clear qk; refine hK.out _ _ ⟨t0, t1, tb⟩ (fun hS => ?_)) | (refine skip_if (by rfl) ?_; refine hK.out _ _ hS (fun hS => ?_)))
    clear hK K
    try simp only [Act.put, zA, zB, zC]
    (refine tk 5 ?_ rfl ?_ hS ?_; rotate_left; focus (first | (refine Or.inl ⟨by rfl, ?_⟩; intro w' hSw; obtain ⟨s0, s1, sb⟩ := hSw; go_simp <;> try with_reducible rfl) | (refine Or.inr ⟨by rfl, ?_⟩; rfl)))
    try simp only [Act.put, zA, zB, zC]
    (refine tk 6 ?_ rfl (Or.inl ⟨by rfl, ?_⟩) hS ?_; rotate_left; focus (intro w' hSw; obtain ⟨s0, s1, sb⟩ := hSw; go_simp <;> try with_reducible rfl))
    try simp only [Act.put, zA, zB, zC]
    refine rdy 7 rfl (fun K hK => ?_)
    obtain ⟨s0, s1, sb⟩ := hS
    have c0_0 := s0 0 _ rfl; have c0_1 := s0 1 _ rfl; have c0_2 := s0 2 _ rfl; have c0_3 := s0 3 _ rfl; have c0_4 := s0 4 _ rfl; have c0_5 := s0 5 _ rfl; have c0_6 := s0 6 _ rfl; have c0_7 := s0 7 _ rfl; have c0_8 := s0 8 _ rfl; have c0_9 := s0 9 _ rfl; have c0_10 := s0 10 _ rfl
    obtain ⟨⟨_, _⟩, _, ⟨_, _⟩, _, ⟨_, _⟩, _, ⟨_, _⟩, _, ⟨_, _⟩, _, ⟨_, _⟩, _, ⟨_, _⟩, _, ⟨_, _⟩, _, ⟨_, _⟩, _, ⟨_, _⟩, _, ⟨_, _⟩, _⟩ := s1.out11; 
    go_simp
    refine hK.out _ _ ⟨?_, ?_, ?_⟩ (fun hS => ?_)
    · repeat' (first | with_reducible assumption | (with_reducible refine At.set ?_ ?_ _) | with_reducible refine At.drew ?_)
      all_goals first | with_reducible assumption | (dsimp only; omega)
    · repeat' (first | with_reducible assumption | (with_reducible refine Rm.set ?_ _) | with_reducible refine Rm.drew ?_)
      all_goals first | with_reducible assumption | (dsimp only; omega)
    · repeat' (first | with_reducible assumption | with_reducible refine Bh.set2 ?_ ?_ | with_reducible refine Bh.drew ?_)
      all_goals first | with_reducible assumption | (dsimp only; omega)
    clear hK K
    try simp only [Act.put, zA, zB, zC]
    (refine tk 8 ?_ rfl (Or.inl ⟨by rfl, ?_⟩) hS ?_; rotate_left; focus (intro w' hSw; obtain ⟨s0, s1, sb⟩ := hSw; go_simp <;> try with_reducible rfl))
    try simp only [Act.put, zA, zB, zC]
    refine wpAnyH_done (by kernel_rfl) ?_ _
    obtain ⟨s0, s1, sb⟩ := hS
    have c0_0 := s0 0 _ rfl; have c0_1 := s0 1 _ rfl; have c0_2 := s0 2 _ rfl; have c0_3 := s0 3 _ rfl; have c0_4 := s0 4 _ rfl; have c0_5 := s0 5 _ rfl; have c0_6 := s0 6 _ rfl; have c0_7 := s0 7 _ rfl; have c0_8 := s0 8 _ rfl; have c0_9 := s0 9 _ rfl; have c0_10 := s0 10 _ rfl
    go_wp2
    have h := Hh.out
    have h2 := Hh2.out
    refine bodyPost_ret (v := .tuple #[Ins.v ⟨20, 0, (fl x 128 32), (fl x 32768 32), 0, 0, (fl x 4096 8), false, false⟩ 0 0, .bool (fl x 1048576 32 == 0)]) ?_ rfl ⟨RdP.mk ⟨20, 0, (fl x 128 32), (fl x 32768 32), 0, 0, (fl x 4096 8), false, false⟩ (fl x 1048576 32 == 0) rfl (by simp [spAmo, h, h2]), ?_⟩
    · clear h h2
      simp [results, Tryz.results78, go_sem, Ins.v, *]
    · with_reducible exact sb.kp
  · have t0 : (fl x 4096 8 == 2) = false := by simp; omega
    have t1 : (fl x 4096 8 == 3) = true := by simp; omega
    have t2 : (fl x 134217728 32 == 2) = false := by simp; omega
    have t3 : (fl x 134217728 32 == 3) = true := by simp; omega
    have t4 : (fl x 134217728 32 == 0) = false := by simp; omega
    have t5 : (fl x 134217728 32 == 1) = false := by simp; omega
    have t6 : (fl x 134217728 32 == 4) = false := by simp; omega
    have t7 : (fl x 134217728 32 == 8) = false := by simp; omega
    have t8 : (fl x 134217728 32 == 12) = false := by simp; omega
    have t9 : (fl x 134217728 32 == 16) = false := by simp; omega
    have t10 : (fl x 134217728 32 == 20) = false := by simp; omega
    have t11 : (fl x 134217728 32 == 24) = false := by simp; omega
    have t12 : (fl x 134217728 32 == 28) = false := by simp; omega
    have Hh := Lib.hid h
    have Hh2 := Lib.hid h2
    clear h h2
    go_enter Tryz.func78, Tryz.ntmps78
    go_wp2_with (first | (go_at_call 117; with_reducible refine (f3_w x x0 x1 _).mono ?_; rintro e' w1 ⟨rfl, rfl⟩) | (go_at_call 118; with_reducible refine (rd_w x x0 x1 _).mono ?_; rintro e' w1 ⟨rfl, rfl⟩) | (go_at_call 119; with_reducible refine (rs1_w x x0 x1 _).mono ?_; rintro e' w1 ⟨rfl, rfl⟩) | (go_at_call 127; with_reducible refine (rs2_w x x0 x1 _).mono ?_; rintro e' w1 ⟨rfl, rfl⟩) | (go_at_call 84; with_reducible refine (cf_31_27 x x0 x1 _).mono ?_; rintro e' w1 ⟨rfl, rfl⟩))
    refine bodyPost_ret (v := .tuple #[Ins.v ⟨21, 0, (fl x 128 32), (fl x 32768 32), (fl x 1048576 32), 0, (fl x 4096 8), false, false⟩ 0 0, .bool (true)]) (by simp [results, Tryz.results78, go_sem, Ins.v]) rfl ⟨RdP.mk ⟨21, 0, (fl x 128 32), (fl x 32768 32), (fl x 1048576 32), 0, (fl x 4096 8), false, false⟩ (true) rfl (by have h := Hh.out; have h2 := Hh2.out; simp [spAmo, h, h2]), by (repeat' (first | with_reducible refine Kp.setCell ?_ ?_ _ | with_reducible refine Kp.allocs ?_ _ _ | with_reducible refine Kp.drew ?_ | with_reducible refine Kp.drewN ?_ _)); all_goals first | exact Kp.refl w | (dsimp only; omega)⟩
  · have t0 : (fl x 4096 8 == 2) = false := by simp; omega
    have t1 : (fl x 4096 8 == 3) = true := by simp; omega
    have t2 : (fl x 134217728 32 == 2) = false := by simp; omega
    have t3 : (fl x 134217728 32 == 3) = false := by simp; omega
    have t4 : (fl x 134217728 32 == 0) = true := by simp; omega
    have t5 : (fl x 134217728 32 == 1) = false := by simp; omega
    have t6 : (fl x 134217728 32 == 4) = false := by simp; omega
    have t7 : (fl x 134217728 32 == 8) = false := by simp; omega
    have t8 : (fl x 134217728 32 == 12) = false := by simp; omega
    have t9 : (fl x 134217728 32 == 16) = false := by simp; omega
    have t10 : (fl x 134217728 32 == 20) = false := by simp; omega
    have t11 : (fl x 134217728 32 == 24) = false := by simp; omega
    have t12 : (fl x 134217728 32 == 28) = false := by simp; omega
    have Hh := Lib.hid h
    have Hh2 := Lib.hid h2
    clear h h2
    go_enter Tryz.func78, Tryz.ntmps78
    go_wp2_with (first | (go_at_call 117; with_reducible refine (f3_w x x0 x1 _).mono ?_; rintro e' w1 ⟨rfl, rfl⟩) | (go_at_call 118; with_reducible refine (rd_w x x0 x1 _).mono ?_; rintro e' w1 ⟨rfl, rfl⟩) | (go_at_call 119; with_reducible refine (rs1_w x x0 x1 _).mono ?_; rintro e' w1 ⟨rfl, rfl⟩) | (go_at_call 127; with_reducible refine (rs2_w x x0 x1 _).mono ?_; rintro e' w1 ⟨rfl, rfl⟩) | (go_at_call 84; with_reducible refine (cf_31_27 x x0 x1 _).mono ?_; rintro e' w1 ⟨rfl, rfl⟩))
    refine bodyPost_ret (v := .tuple #[Ins.v ⟨22, fl x 134217728 32, (fl x 128 32), (fl x 32768 32), (fl x 1048576 32), 0, (fl x 4096 8), false, false⟩ 0 0, .bool (true)]) (by simp [results, Tryz.results78, go_sem, Ins.v]) rfl ⟨RdP.mk ⟨22, fl x 134217728 32, (fl x 128 32), (fl x 32768 32), (fl x 1048576 32), 0, (fl x 4096 8), false, false⟩ (true) rfl (by have h := Hh.out; have h2 := Hh2.out; simp [spAmo, h, h2, amoB]), by (repeat' (first | with_reducible refine Kp.setCell ?_ ?_ _ | with_reducible refine Kp.allocs ?_ _ _ | with_reducible refine Kp.drew ?_ | with_reducible refine Kp.drewN ?_ _)); all_goals first | exact Kp.refl w | (dsimp only; omega)⟩
  · have t0 : (fl x 4096 8 == 2) = false := by simp; omega
    have t1 : (fl x 4096 8 == 3) = true := by simp; omega
    have t2 : (fl x 134217728 32 == 2) = false := by simp; omega
    have t3 : (fl x 134217728 32 == 3) = false := by simp; omega
    have t4 : (fl x 134217728 32 == 0) = false := by simp; omega
    have t5 : (fl x 134217728 32 == 1) = true := by simp; omega
    have t6 : (fl x 134217728 32 == 4) = false := by simp; omega
    have t7 : (fl x 134217728 32 == 8) = false := by simp; omega
    have t8 : (fl x 134217728 32 == 12) = false := by simp; omega
    have t9 : (fl x 134217728 32 == 16) = false := by simp; omega
    have t10 : (fl x 134217728 32 == 20) = false := by simp; omega
    have t11 : (fl x 134217728 32 == 24) = false := by simp; omega
    have t12 : (fl x 134217728 32 == 28) = false := by simp; omega
    have Hh := Lib.hid h
    have Hh2 := Lib.hid h2
    clear h h2
    go_enter Tryz.func78, Tryz.ntmps78
    go_wp2_with (first | (go_at_call 117; with_reducible refine (f3_w x x0 x1 _).mono ?_; rintro e' w1 ⟨rfl, rfl⟩) | (go_at_call 118; with_reducible refine (rd_w x x0 x1 _).mono ?_; rintro e' w1 ⟨rfl, rfl⟩) | (go_at_call 119; with_reducible refine (rs1_w x x0 x1 _).mono ?_; rintro e' w1 ⟨rfl, rfl⟩) | (go_at_call 127; with_reducible refine (rs2_w x x0 x1 _).mono ?_; rintro e' w1 ⟨rfl, rfl⟩) | (go_at_call 84; with_reducible refine (cf_31_27 x x0 x1 _).mono ?_; rintro e' w1 ⟨rfl, rfl⟩))
    refine bodyPost_ret (v := .tuple #[Ins.v ⟨22, fl x 134217728 32, (fl x 128 32), (fl x 32768 32), (fl x 1048576 32), 0, (fl x 4096 8), false, false⟩ 0 0, .bool (true)]) (by simp [results, Tryz.results78, go_sem, Ins.v]) rfl ⟨RdP.mk ⟨22, fl x 134217728 32, (fl x 128 32), (fl x 32768 32), (fl x 1048576 32), 0, (fl x 4096 8), false, false⟩ (true) rfl (by have h := Hh.out; have h2 := Hh2.out; simp [spAmo, h, h2, amoB]), by (repeat' (first | with_reducible refine Kp.setCell ?_ ?_ _ | with_reducible refine Kp.allocs ?_ _ _ | with_reducible refine Kp.drew ?_ | with_reducible refine Kp.drewN ?_ _)); all_goals first | exact Kp.refl w | (dsimp only; omega)⟩
  · have t0 : (fl x 4096 8 == 2) = false := by simp; omega
    have t1 : (fl x 4096 8 == 3) = true := by simp; omega
    have t2 : (fl x 134217728 32 == 2) = false := by simp; omega
    have t3 : (fl x 134217728 32 == 3) = false := by simp; omega
    have t4 : (fl x 134217728 32 == 0) = false := by simp; omega
    have t5 : (fl x 134217728 32 == 1) = false := by simp; omega
    have t6 : (fl x 134217728 32 == 4) = true := by simp; omega
    have t7 : (fl x 134217728 32 == 8) = false := by simp; omega
    have t8 : (fl x 134217728 32 == 12) = false := by simp; omega
    have t9 : (fl x 134217728 32 == 16) = false := by simp; omega
    have t10 : (fl x 134217728 32 == 20) = false := by simp; omega
    have t11 : (fl x 134217728 32 == 24) = false := by simp; omega
    have t12 : (fl x 134217728 32 == 28) = false := by simp; omega
    have Hh := Lib.hid h
    have Hh2 := Lib.hid h2
    clear h h2
    go_enter Tryz.func78, Tryz.ntmps78
    go_wp2_with (first | (go_at_call 117; with_reducible refine (f3_w x x0 x1 _).mono ?_; rintro e' w1 ⟨rfl, rfl⟩) | (go_at_call 118; with_reducible refine (rd_w x x0 x1 _).mono ?_; rintro e' w1 ⟨rfl, rfl⟩) | (go_at_call 119; with_reducible refine (rs1_w x x0 x1 _).mono ?_; rintro e' w1 ⟨rfl, rfl⟩) | (go_at_call 127; with_reducible refine (rs2_w x x0 x1 _).mono ?_; rintro e' w1 ⟨rfl, rfl⟩) | (go_at_call 84; with_reducible refine (cf_31_27 x x0 x1 _).mono ?_; rintro e' w1 ⟨rfl, rfl⟩))
    refine bodyPost_ret (v := .tuple #[Ins.v ⟨22, fl x 134217728 32, (fl x 128 32), (fl x 32768 32), (fl x 1048576 32), 0, (fl x 4096 8), false, false⟩ 0 0, .bool (true)]) (by simp [results, Tryz.results78, go_sem, Ins.v]) rfl ⟨RdP.mk ⟨22, fl x 134217728 32, (fl x 128 32), (fl x 32768 32), (fl x 1048576 32), 0, (fl x 4096 8), false, false⟩ (true) rfl (by have h := Hh.out; have h2 := Hh2.out; simp [spAmo, h, h2, amoB]), by (repeat' (first | with_reducible refine Kp.setCell ?_ ?_ _ | with_reducible refine Kp.allocs ?_ _ _ | with_reducible refine Kp.drew ?_ | with_reducible refine Kp.drewN ?_ _)); all_goals first | exact Kp.refl w | (dsimp only; omega)⟩
  · have t0 : (fl x 4096 8 == 2) = false := by simp; omega
    have t1 : (fl x 4096 8 == 3) = true := by simp; omega
    have t2 : (fl x 134217728 32 == 2) = false := by simp; omega
    have t3 : (fl x 134217728 32 == 3) = false := by simp; omega
    have t4 : (fl x 134217728 32 == 0) = false := by simp; omega
    have t5 : (fl x 134217728 32 == 1) = false := by simp; omega
    have t6 : (fl x 134217728 32 == 4) = false := by simp; omega
    have t7 : (fl x 134217728 32 == 8) = true := by simp; omega
    have t8 : (fl x 134217728 32 == 12) = false := by simp; omega
    have t9 : (fl x 134217728 32 == 16) = false := by simp; omega
    have t10 : (fl x 134217728 32 == 20) = false := by simp; omega
    have t11 : (fl x 134217728 32 == 24) = false := by simp; omega
    have t12 : (fl x 134217728 32 == 28) = false := by simp; omega
    have Hh := Lib.hid h
    have Hh2 := Lib.hid h2
    clear h h2
    go_enter Tryz.func78, Tryz.ntmps78
    go_wp2_with (first | (go_at_call 117; with_reducible refine (f3_w x x0 x1 _).mono ?_; rintro e' w1 ⟨rfl, rfl⟩) | (go_at_call 118; with_reducible refine (rd_w x x0 x1 _).mono ?_; rintro e' w1 ⟨rfl, rfl⟩) | (go_at_call 119; with_reducible refine (rs1_w x x0 x1 _).mono ?_; rintro e' w1 ⟨rfl, rfl⟩) | (go_at_call 127; with_reducible refine (rs2_w x x0 x1 _).mono ?_; rintro e' w1 ⟨rfl, rfl⟩) | (go_at_call 84; with_reducible refine (cf_31_27 x x0 x1 _).mono ?_; rintro e' w1 ⟨rfl, rfl⟩))
    refine bodyPost_ret (v := .tuple #[Ins.v ⟨22, fl x 134217728 32, (fl x 128 32), (fl x 32768 32), (fl x 1048576 32), 0, (fl x 4096 8), false, false⟩ 0 0, .bool (true)]) (by simp [results, Tryz.results78, go_sem, Ins.v]) rfl ⟨RdP.mk ⟨22, fl x 134217728 32, (fl x 128 32), (fl x 32768 32), (fl x 1048576 32), 0, (fl x 4096 8), false, false⟩ (true) rfl (by have h := Hh.out; have h2 := Hh2.out; simp [spAmo, h, h2, amoB]), by (repeat' (first | with_reducible refine Kp.setCell ?_ ?_ _ | with_reducible refine Kp.allocs ?_ _ _ | with_reducible refine Kp.drew ?_ | with_reducible refine Kp.drewN ?_ _)); all_goals first | exact Kp.refl w | (dsimp only; omega)⟩
  · have t0 : (fl x 4096 8 == 2) = false := by simp; omega
    have t1 : (fl x 4096 8 == 3) = true := by simp; omega
    have t2 : (fl x 134217728 32 == 2) = false := by simp; omega
    have t3 : (fl x 134217728 32 == 3) = false := by simp; omega
    have t4 : (fl x 134217728 32 == 0) = false := by simp; omega
    have t5 : (fl x 134217728 32 == 1) = false := by simp; omega
    have t6 : (fl x 134217728 32 == 4) = false := by simp; omega
    have t7 : (fl x 134217728 32 == 8) = false := by simp; omega
    have t8 : (fl x 134217728 32 == 12) = true := by simp; omega
    have t9 : (fl x 134217728 32 == 16) = false := by simp; omega
    have t10 : (fl x 134217728 32 == 20) = false := by simp; omega
    have t11 : (fl x 134217728 32 == 24) = false := by simp; omega
    have t12 : (fl x 134217728 32 == 28) = false := by simp; omega
    have Hh := Lib.hid h
    have Hh2 := Lib.hid h2
    clear h h2
    go_enter Tryz.func78, Tryz.ntmps78
    go_wp2_with (first | (go_at_call 117; with_reducible refine (f3_w x x0 x1 _).mono ?_; rintro e' w1 ⟨rfl, rfl⟩) | (go_at_call 118; with_reducible refine (rd_w x x0 x1 _).mono ?_; rintro e' w1 ⟨rfl, rfl⟩) | (go_at_call 119; with_reducible refine (rs1_w x x0 x1 _).mono ?_; rintro e' w1 ⟨rfl, rfl⟩) | (go_at_call 127; with_reducible refine (rs2_w x x0 x1 _).mono ?_; rintro e' w1 ⟨rfl, rfl⟩) | (go_at_call 84; with_reducible refine (cf_31_27 x x0 x1 _).mono ?_; rintro e' w1 ⟨rfl, rfl⟩))
    refine bodyPost_ret (v := .tuple #[Ins.v ⟨22, fl x 134217728 32, (fl x 128 32), (fl x 32768 32), (fl x 1048576 32), 0, (fl x 4096 8), false, false⟩ 0 0, .bool (true)]) (by simp [results, Tryz.results78, go_sem, Ins.v]) rfl ⟨RdP.mk ⟨22, fl x 134217728 32, (fl x 128 32), (fl x 32768 32), (fl x 1048576 32), 0, (fl x 4096 8), false, false⟩ (true) rfl (by have h := Hh.out; have h2 := Hh2.out; simp [spAmo, h, h2, amoB]), by (repeat' (first | with_reducible refine Kp.setCell ?_ ?_ _ | with_reducible refine Kp.allocs ?_ _ _ | with_reducible refine Kp.drew ?_ | with_reducible refine Kp.drewN ?_ _)); all_goals first | exact Kp.refl w | (dsimp only; omega)⟩
  · have t0 : (fl x 4096 8 == 2) = false := by simp; omega
    have t1 : (fl x 4096 8 == 3) = true := by simp; omega
    have t2 : (fl x 134217728 32 == 2) = false := by simp; omega
    have t3 : (fl x 134217728 32 == 3) = false := by simp; omega
    have t4 : (fl x 134217728 32 == 0) = false := by simp; omega
    have t5 : (fl x 134217728 32 == 1) = false := by simp; omega
    have t6 : (fl x 134217728 32 == 4) = false := by simp; omega
    have t7 : (fl x 134217728 32 == 8) = false := by simp; omega
    have t8 : (fl x 134217728 32 == 12) = false := by simp; omega
    have t9 : (fl x 134217728 32 == 16) = true := by simp; omega
    have t10 : (fl x 134217728 32 == 20) = false := by simp; omega
    have t11 : (fl x 134217728 32 == 24) = false := by simp; omega
    have t12 : (fl x 134217728 32 == 28) = false := by simp; omega
    have Hh := Lib.hid h
    have Hh2 := Lib.hid h2
    clear h h2
    go_enter Tryz.func78, Tryz.ntmps78
    go_wp2_with (first | (go_at_call 117; with_reducible refine (f3_w x x0 x1 _).mono ?_; rintro e' w1 ⟨rfl, rfl⟩) | (go_at_call 118; with_reducible refine (rd_w x x0 x1 _).mono ?_; rintro e' w1 ⟨rfl, rfl⟩) | (go_at_call 119; with_reducible refine (rs1_w x x0 x1 _).mono ?_; rintro e' w1 ⟨rfl, rfl⟩) | (go_at_call 127; with_reducible refine (rs2_w x x0 x1 _).mono ?_; rintro e' w1 ⟨rfl, rfl⟩) | (go_at_call 84; with_reducible refine (cf_31_27 x x0 x1 _).mono ?_; rintro e' w1 ⟨rfl, rfl⟩))
    refine bodyPost_ret (v := .tuple #[Ins.v ⟨22, fl x 134217728 32, (fl x 128 32), (fl x 32768 32), (fl x 1048576 32), 0, (fl x 4096 8), false, false⟩ 0 0, .bool (true)]) (by simp [results, Tryz.results78, go_sem, Ins.v]) rfl ⟨RdP.mk ⟨22, fl x 134217728 32, (fl x 128 32), (fl x 32768 32), (fl x 1048576 32), 0, (fl x 4096 8), false, false⟩ (true) rfl (by have h := Hh.out; have h2 := Hh2.out; simp [spAmo, h, h2, amoB]), by (repeat' (first | with_reducible refine Kp.setCell ?_ ?_ _ | with_reducible refine Kp.allocs ?_ _ _ | with_reducible refine Kp.drew ?_ | with_reducible refine Kp.drewN ?_ _)); all_goals first | exact Kp.refl w | (dsimp only; omega)⟩
  · have t0 : (fl x 4096 8 == 2) = false := by simp; omega
    have t1 : (fl x 4096 8 == 3) = true := by simp; omega
    have t2 : (fl x 134217728 32 == 2) = false := by simp; omega
    have t3 : (fl x 134217728 32 == 3) = false := by simp; omega
    have t4 : (fl x 134217728 32 == 0) = false := by simp; omega
    have t5 : (fl x 134217728 32 == 1) = false := by simp; omega
    have t6 : (fl x 134217728 32 == 4) = false := by simp; omega
    have t7 : (fl x 134217728 32 == 8) = false := by simp; omega
    have t8 : (fl x 134217728 32 == 12) = false := by simp; omega
    have t9 : (fl x 134217728 32 == 16) = false := by simp; omega
    have t10 : (fl x 134217728 32 == 20) = true := by simp; omega
    have t11 : (fl x 134217728 32 == 24) = false := by simp; omega
    have t12 : (fl x 134217728 32 == 28) = false := by simp; omega
    have Hh := Lib.hid h
    have Hh2 := Lib.hid h2
    clear h h2
    go_enter Tryz.func78, Tryz.ntmps78
    go_wp2_with (first | (go_at_call 117; with_reducible refine (f3_w x x0 x1 _).mono ?_; rintro e' w1 ⟨rfl, rfl⟩) | (go_at_call 118; with_reducible refine (rd_w x x0 x1 _).mono ?_; rintro e' w1 ⟨rfl, rfl⟩) | (go_at_call 119; with_reducible refine (rs1_w x x0 x1 _).mono ?_; rintro e' w1 ⟨rfl, rfl⟩) | (go_at_call 127; with_reducible refine (rs2_w x x0 x1 _).mono ?_; rintro e' w1 ⟨rfl, rfl⟩) | (go_at_call 84; with_reducible refine (cf_31_27 x x0 x1 _).mono ?_; rintro e' w1 ⟨rfl, rfl⟩))
    refine bodyPost_ret (v := .tuple #[Ins.v ⟨22, fl x 134217728 32, (fl x 128 32), (fl x 32768 32), (fl x 1048576 32), 0, (fl x 4096 8), false, false⟩ 0 0, .bool (true)]) (by simp [results, Tryz.results78, go_sem, Ins.v]) rfl ⟨RdP.mk ⟨22, fl x 134217728 32, (fl x 128 32), (fl x 32768 32), (fl x 1048576 32), 0, (fl x 4096 8), false, false⟩ (true) rfl (by have h := Hh.out; have h2 := Hh2.out; simp [spAmo, h, h2, amoB]), by (repeat' (first | with_reducible refine Kp.setCell ?_ ?_ _ | with_reducible refine Kp.allocs ?_ _ _ | with_reducible refine Kp.drew ?_ | with_reducible refine Kp.drewN ?_ _)); all_goals first | exact Kp.refl w | (dsimp only; omega)⟩
  · have t0 : (fl x 4096 8 == 2) = false := by simp; omega
    have t1 : (fl x 4096 8 == 3) = true := by simp; omega
    have t2 : (fl x 134217728 32 == 2) = false := by simp; omega
    have t3 : (fl x 134217728 32 == 3) = false := by simp; omega
    have t4 : (fl x 134217728 32 == 0) = false := by simp; omega
    have t5 : (fl x 134217728 32 == 1) = false := by simp; omega
    have t6 : (fl x 134217728 32 == 4) = false := by simp; omega
    have t7 : (fl x 134217728 32 == 8) = false := by simp; omega
    have t8 : (fl x 134217728 32 == 12) = false := by simp; omega
    have t9 : (fl x 134217728 32 == 16) = false := by simp; omega
    have t10 : (fl x 134217728 32 == 20) = false := by simp; omega
    have t11 : (fl x 134217728 32 == 24) = true := by simp; omega
    have t12 : (fl x 134217728 32 == 28) = false := by simp; omega
    have Hh := Lib.hid h
    have Hh2 := Lib.hid h2
    clear h h2
    go_enter Tryz.func78, Tryz.ntmps78
    go_wp2_with (first | (go_at_call 117; with_reducible refine (f3_w x x0 x1 _).mono ?_; rintro e' w1 ⟨rfl, rfl⟩) | (go_at_call 118; with_reducible refine (rd_w x x0 x1 _).mono ?_; rintro e' w1 ⟨rfl, rfl⟩) | (go_at_call 119; with_reducible refine (rs1_w x x0 x1 _).mono ?_; rintro e' w1 ⟨rfl, rfl⟩) | (go_at_call 127; with_reducible refine (rs2_w x x0 x1 _).mono ?_; rintro e' w1 ⟨rfl, rfl⟩) | (go_at_call 84; with_reducible refine (cf_31_27 x x0 x1 _).mono ?_; rintro e' w1 ⟨rfl, rfl⟩))
    refine bodyPost_ret (v := .tuple #[Ins.v ⟨22, fl x 134217728 32, (fl x 128 32), (fl x 32768 32), (fl x 1048576 32), 0, (fl x 4096 8), false, false⟩ 0 0, .bool (true)]) (by simp [results, Tryz.results78, go_sem, Ins.v]) rfl ⟨RdP.mk ⟨22, fl x 134217728 32, (fl x 128 32), (fl x 32768 32), (fl x 1048576 32), 0, (fl x 4096 8), false, false⟩ (true) rfl (by have h := Hh.out; have h2 := Hh2.out; simp [spAmo, h, h2, amoB]), by (repeat' (first | with_reducible refine Kp.setCell ?_ ?_ _ | with_reducible refine Kp.allocs ?_ _ _ | with_reducible refine Kp.drew ?_ | with_reducible refine Kp.drewN ?_ _)); all_goals first | exact Kp.refl w | (dsimp only; omega)⟩
  · have t0 : (fl x 4096 8 == 2) = false := by simp; omega
    have t1 : (fl x 4096 8 == 3) = true := by simp; omega
    have t2 : (fl x 134217728 32 == 2) = false := by simp; omega
    have t3 : (fl x 134217728 32 == 3) = false := by simp; omega
    have t4 : (fl x 134217728 32 == 0) = false := by simp; omega
    have t5 : (fl x 134217728 32 == 1) = false := by simp; omega
    have t6 : (fl x 134217728 32 == 4) = false := by simp; omega
    have t7 : (fl x 134217728 32 == 8) = false := by simp; omega
    have t8 : (fl x 134217728 32 == 12) = false := by simp; omega
    have t9 : (fl x 134217728 32 == 16) = false := by simp; omega
    have t10 : (fl x 134217728 32 == 20) = false := by simp; omega
    have t11 : (fl x 134217728 32 == 24) = false := by simp; omega
    have t12 : (fl x 134217728 32 == 28) = true := by simp; omega
    have Hh := Lib.hid h
    have Hh2 := Lib.hid h2
    clear h h2
    go_enter Tryz.func78, Tryz.ntmps78
    go_wp2_with (first | (go_at_call 117; with_reducible refine (f3_w x x0 x1 _).mono ?_; rintro e' w1 ⟨rfl, rfl⟩) | (go_at_call 118; with_reducible refine (rd_w x x0 x1 _).mono ?_; rintro e' w1 ⟨rfl, rfl⟩) | (go_at_call 119; with_reducible refine (rs1_w x x0 x1 _).mono ?_; rintro e' w1 ⟨rfl, rfl⟩) | (go_at_call 127; with_reducible refine (rs2_w x x0 x1 _).mono ?_; rintro e' w1 ⟨rfl, rfl⟩) | (go_at_call 84; with_reducible refine (cf_31_27 x x0 x1 _).mono ?_; rintro e' w1 ⟨rfl, rfl⟩))
    refine bodyPost_ret (v := .tuple #[Ins.v ⟨22, fl x 134217728 32, (fl x 128 32), (fl x 32768 32), (fl x 1048576 32), 0, (fl x 4096 8), false, false⟩ 0 0, .bool (true)]) (by simp [results, Tryz.results78, go_sem, Ins.v]) rfl ⟨RdP.mk ⟨22, fl x 134217728 32, (fl x 128 32), (fl x 32768 32), (fl x 1048576 32), 0, (fl x 4096 8), false, false⟩ (true) rfl (by have h := Hh.out; have h2 := Hh2.out; simp [spAmo, h, h2, amoB]), by (repeat' (first | with_reducible refine Kp.setCell ?_ ?_ _ | with_reducible refine Kp.allocs ?_ _ _ | with_reducible refine Kp.drew ?_ | with_reducible refine Kp.drewN ?_ _)); all_goals first | exact Kp.refl w | (dsimp only; omega)⟩
  · have t0 : (fl x 4096 8 == 2) = false := by simp; omega
    have t1 : (fl x 4096 8 == 3) = true := by simp; omega
    have t2 : (fl x 134217728 32 == 2) = false := by simp; omega
    have t3 : (fl x 134217728 32 == 3) = false := by simp; omega
    have t4 : (fl x 134217728 32 == 0) = false := by simp; omega
    have t5 : (fl x 134217728 32 == 1) = false := by simp; omega
    have t6 : (fl x 134217728 32 == 4) = false := by simp; omega
    have t7 : (fl x 134217728 32 == 8) = false := by simp; omega
    have t8 : (fl x 134217728 32 == 12) = false := by simp; omega
    have t9 : (fl x 134217728 32 == 16) = false := by simp; omega
    have t10 : (fl x 134217728 32 == 20) = false := by simp; omega
    have t11 : (fl x 134217728 32 == 24) = false := by simp; omega
    have t12 : (fl x 134217728 32 == 28) = false := by simp; omega
    have Hh := Lib.hid h
    have Hh2 := Lib.hid h2
    clear h h2
    go_enter Tryz.func78, Tryz.ntmps78
    go_wp2_with (first | (go_at_call 117; with_reducible refine (f3_w x x0 x1 _).mono ?_; rintro e' w1 ⟨rfl, rfl⟩) | (go_at_call 118; with_reducible refine (rd_w x x0 x1 _).mono ?_; rintro e' w1 ⟨rfl, rfl⟩) | (go_at_call 119; with_reducible refine (rs1_w x x0 x1 _).mono ?_; rintro e' w1 ⟨rfl, rfl⟩) | (go_at_call 127; with_reducible refine (rs2_w x x0 x1 _).mono ?_; rintro e' w1 ⟨rfl, rfl⟩) | (go_at_call 84; with_reducible refine (cf_31_27 x x0 x1 _).mono ?_; rintro e' w1 ⟨rfl, rfl⟩))
    refine bodyPost_ret (v := .tuple #[Ins.v zIns 0 0, .bool (false)]) (by simp [results, Tryz.results78, go_sem, Ins.v, zIns]) rfl ⟨RdP.mk zIns (false) rfl (by have h := Hh.out; have h2 := Hh2.out; obtain ⟨g0, g1, g2, g3, g4, g5, g6, g7, g8, g9, g10⟩ := h2; simp [spAmo, h, amoB, g0, g1, g2, g3, g4, g5, g6, g7, g8, g9, g10]), by (repeat' (first | with_reducible refine Kp.setCell ?_ ?_ _ | with_reducible refine Kp.allocs ?_ _ _ | with_reducible refine Kp.drew ?_ | with_reducible refine Kp.drewN ?_ _)); all_goals first | exact Kp.refl w | (dsimp only; omega)⟩
set_option maxRecDepth 4000 in
set_option maxHeartbeats 16000000 in
theorem atomic_n (x : Int) (x0 : 0 ≤ x) (x1 : x < 4294967296) (h : ¬ fl x 4096 8 = 2 ∧ ¬ fl x 4096 8 = 3) (w : World) :
    Calls Tryz.prog 78 #[.int .u32 x] w fun e w' => RdP e (spAmo x) ∧ Kp w w' := by
  have brd := fl_bd x 128 32 (by omega)
  have bf3 := fl_bd x 4096 8 (by omega)
  have br1 := fl_bd x 32768 32 (by omega)
  have br2 := fl_bd x 1048576 32 (by omega)
  have bf7 := fl_bd x 33554432 128 (by omega)
  have ba := fl_bd x 134217728 32 (by omega)
  rcases (show fl x 134217728 32 = 2 ∨ fl x 134217728 32 = 3 ∨ fl x 134217728 32 = 0 ∨ fl x 134217728 32 = 1 ∨ fl x 134217728 32 = 4 ∨ fl x 134217728 32 = 8 ∨ fl x 134217728 32 = 12 ∨ fl x 134217728 32 = 16 ∨ fl x 134217728 32 = 20 ∨ fl x 134217728 32 = 24 ∨ fl x 134217728 32 = 28 ∨ (¬ fl x 134217728 32 = 2 ∧ ¬ fl x 134217728 32 = 3 ∧ ¬ fl x 134217728 32 = 0 ∧ ¬ fl x 134217728 32 = 1 ∧ ¬ fl x 134217728 32 = 4 ∧ ¬ fl x 134217728 32 = 8 ∧ ¬ fl x 134217728 32 = 12 ∧ ¬ fl x 134217728 32 = 16 ∧ ¬ fl x 134217728 32 = 20 ∧ ¬ fl x 134217728 32 = 24 ∧ ¬ fl x 134217728 32 = 28) by omega) with h2 | h2 | h2 | h2 | h2 | h2 | h2 | h2 | h2 | h2 | h2 | h2
  · have t0 : (fl x 4096 8 == 2) = false := by simp; omega
    have t1 : (fl x 4096 8 == 3) = false := by simp; omega
    have t2 : (fl x 134217728 32 == 2) = true := by simp; omega
    have t3 : (fl x 134217728 32 == 3) = false := by simp; omega
    have t4 : (fl x 134217728 32 == 0) = false := by simp; omega
    have t5 : (fl x 134217728 32 == 1) = false := by simp; omega
    have t6 : (fl x 134217728 32 == 4) = false := by simp; omega
    have t7 : (fl x 134217728 32 == 8) = false := by simp; omega
    have t8 : (fl x 134217728 32 == 12) = false := by simp; omega
    have t9 : (fl x 134217728 32 == 16) = false := by simp; omega
    have t10 : (fl x 134217728 32 == 20) = false := by simp; omega
    have t11 : (fl x 134217728 32 == 24) = false := by simp; omega
    have t12 : (fl x 134217728 32 == 28) = false := by simp; omega
    have Hh := Lib.hid h
    have Hh2 := Lib.hid h2
    clear h h2
    have A0 : At (w.heap.size) [.int .i64 0, .int .i64 0, .int .i64 0, .int .i64 0, .int .i64 0, .int .i64 0, .int .i64 0, .bool false, .bool false, .int .i64 0, .int .u32 0] ((w.alloc (.cells #[.int .i64 0, .int .i64 0, .int .i64 0, .int .i64 0, .int .i64 0, .int .i64 0, .int .i64 0, .bool false, .bool false, .int .i64 0, .int .u32 0] 24)).alloc (.cells #[.int .i64 20, .int .i64 0, .int .i64 ((fl x 128 32)), .int .i64 ((fl x 32768 32)), .int .i64 0, .int .i64 0, .int .i64 ((fl x 4096 8)), .bool false, .bool false, .int .i64 0, .int .u32 0] 24)) := ((At.new' w [.int .i64 0, .int .i64 0, .int .i64 0, .int .i64 0, .int .i64 0, .int .i64 0, .int .i64 0, .bool false, .bool false, .int .i64 0, .int .u32 0] 24 (by simp)).alloc _)
    have R0 : Rm (w.heap.size) 11 ((w.alloc (.cells #[.int .i64 0, .int .i64 0, .int .i64 0, .int .i64 0, .int .i64 0, .int .i64 0, .int .i64 0, .bool false, .bool false, .int .i64 0, .int .u32 0] 24)).alloc (.cells #[.int .i64 20, .int .i64 0, .int .i64 ((fl x 128 32)), .int .i64 ((fl x 32768 32)), .int .i64 0, .int .i64 0, .int .i64 ((fl x 4096 8)), .bool false, .bool false, .int .i64 0, .int .u32 0] 24)) := ((Rm.new' w [.int .i64 0, .int .i64 0, .int .i64 0, .int .i64 0, .int .i64 0, .int .i64 0, .int .i64 0, .bool false, .bool false, .int .i64 0, .int .u32 0] 24 11 (by simp) (by simp)).alloc _ _)
    have A1 : At (w.heap.size + 1) [.int .i64 20, .int .i64 0, .int .i64 ((fl x 128 32)), .int .i64 ((fl x 32768 32)), .int .i64 0, .int .i64 0, .int .i64 ((fl x 4096 8)), .bool false, .bool false, .int .i64 0, .int .u32 0] ((w.alloc (.cells #[.int .i64 0, .int .i64 0, .int .i64 0, .int .i64 0, .int .i64 0, .int .i64 0, .int .i64 0, .bool false, .bool false, .int .i64 0, .int .u32 0] 24)).alloc (.cells #[.int .i64 20, .int .i64 0, .int .i64 ((fl x 128 32)), .int .i64 ((fl x 32768 32)), .int .i64 0, .int .i64 0, .int .i64 ((fl x 4096 8)), .bool false, .bool false, .int .i64 0, .int .u32 0] 24)) := (At.new' (w.alloc (.cells #[.int .i64 0, .int .i64 0, .int .i64 0, .int .i64 0, .int .i64 0, .int .i64 0, .int .i64 0, .bool false, .bool false, .int .i64 0, .int .u32 0] 24)) [.int .i64 20, .int .i64 0, .int .i64 ((fl x 128 32)), .int .i64 ((fl x 32768 32)), .int .i64 0, .int .i64 0, .int .i64 ((fl x 4096 8)), .bool false, .bool false, .int .i64 0, .int .u32 0] 24 (by simp))
    have kb : Bh w (w.heap.size + 2) ((w.alloc (.cells #[.int .i64 0, .int .i64 0, .int .i64 0, .int .i64 0, .int .i64 0, .int .i64 0, .int .i64 0, .bool false, .bool false, .int .i64 0, .int .u32 0] 24)).alloc (.cells #[.int .i64 20, .int .i64 0, .int .i64 ((fl x 128 32)), .int .i64 ((fl x 32768 32)), .int .i64 0, .int .i64 0, .int .i64 ((fl x 4096 8)), .bool false, .bool false, .int .i64 0, .int .u32 0] 24)) := ⟨(((Kp.refl w).allocs _ _).allocs _ _), by simp, by simp⟩
    go_enter Tryz.func78, Tryz.ntmps78
    go_wp2_with (first | (go_at_call 117; with_reducible refine (f3_w x x0 x1 _).mono ?_; rintro e' w1 ⟨rfl, rfl⟩) | (go_at_call 118; with_reducible refine (rd_w x x0 x1 _).mono ?_; rintro e' w1 ⟨rfl, rfl⟩) | (go_at_call 119; with_reducible refine (rs1_w x x0 x1 _).mono ?_; rintro e' w1 ⟨rfl, rfl⟩) | (go_at_call 127; with_reducible refine (rs2_w x x0 x1 _).mono ?_; rintro e' w1 ⟨rfl, rfl⟩) | (go_at_call 84; with_reducible refine (cf_31_27 x x0 x1 _).mono ?_; rintro e' w1 ⟨rfl, rfl⟩))
    obtain ⟨W, hW⟩ : ∃ W, ((w.alloc (.cells #[.int .i64 0, .int .i64 0, .int .i64 0, .int .i64 0, .int .i64 0, .int .i64 0, .int .i64 0, .bool false, .bool false, .int .i64 0, .int .u32 0] 24)).alloc (.cells #[.int .i64 20, .int .i64 0, .int .i64 ((fl x 128 32)), .int .i64 ((fl x 32768 32)), .int .i64 0, .int .i64 0, .int .i64 ((fl x 4096 8)), .bool false, .bool false, .int .i64 0, .int .u32 0] 24)) = W := ⟨_, rfl⟩
    rw [hW] at A0 R0 A1 kb ⊢
    clear hW
    have d0 := A1 0 _ rfl; have d1 := A1 1 _ rfl; have d2 := A1 2 _ rfl; have d3 := A1 3 _ rfl; have d4 := A1 4 _ rfl; have d5 := A1 5 _ rfl; have d6 := A1 6 _ rfl; have d7 := A1 7 _ rfl; have d8 := A1 8 _ rfl; have d9 := A1 9 _ rfl; have d10 := A1 10 _ rfl
    obtain ⟨⟨_, _⟩, _, ⟨_, _⟩, _, ⟨_, _⟩, _, ⟨_, _⟩, _, ⟨_, _⟩, _, ⟨_, _⟩, _, ⟨_, _⟩, _, ⟨_, _⟩, _, ⟨_, _⟩, _, ⟨_, _⟩, _, ⟨_, _⟩, _⟩ := R0.out11
    refine wp_region_held_drew (S := (fun w' => At (w.heap.size + 1) [.int .i64 20, .int .i64 0, .int .i64 ((fl x 128 32)), .int .i64 ((fl x 32768 32)), .int .i64 0, .int .i64 0, .int .i64 ((fl x 4096 8)), .bool false, .bool false, .int .i64 0, .int .u32 0] w' ∧ Rm (w.heap.size) 11 w' ∧ Bh w (w.heap.size + 2) w')) (by kernel_rfl) ⟨At.drew (by with_reducible assumption), Rm.drew (by with_reducible assumption), Bh.drew (by with_reducible assumption)⟩ (fun hS => ?_)
    (refine tk 0 ?_ rfl (Or.inl ⟨by rfl, ?_⟩) hS ?_; rotate_left; focus (intro w' hSw; obtain ⟨s0, s1, sb⟩ := hSw; have c0_0 := s0 0 _ rfl; have c0_1 := s0 1 _ rfl; have c0_2 := s0 2 _ rfl; have c0_3 := s0 3 _ rfl; have c0_4 := s0 4 _ rfl; have c0_5 := s0 5 _ rfl; have c0_6 := s0 6 _ rfl; have c0_7 := s0 7 _ rfl; have c0_8 := s0 8 _ rfl; have c0_9 := s0 9 _ rfl; have c0_10 := s0 10 _ rfl; go_simp <;> try with_reducible rfl))
    try simp only [Act.put, zA, zB, zC]
    (refine tk 1 ?_ rfl (Or.inl ⟨by rfl, ?_⟩) hS ?_; rotate_left; focus (intro w' hSw; obtain ⟨s0, s1, sb⟩ := hSw; go_simp <;> try with_reducible rfl))
    try simp only [Act.put, zA, zB, zC]
    (refine tk 2 ?_ rfl (Or.inl ⟨by rfl, ?_⟩) hS ?_; rotate_left; focus (intro w' hSw; obtain ⟨s0, s1, sb⟩ := hSw; go_simp <;> try with_reducible rfl))
    try simp only [Act.put, zA, zB, zC]
    (refine tk 3 ?_ rfl ?_ hS ?_; rotate_left; focus (first | (refine Or.inl ⟨by rfl, ?_⟩; intro w' hSw; obtain ⟨s0, s1, sb⟩ := hSw; go_simp <;> try with_reducible rfl) | (refine Or.inr ⟨by rfl, ?_⟩; rfl)))
    try simp only [Act.put, zA, zB, zC]
    refine rdy 4 rfl (fun K hK => ?_)
    (first | (refine take_if (by rfl) ?_; obtain ⟨s0, s1, sb⟩ := hS; go_simp; (with_reducible refine (quiet_kp (rs2_w x x0 x1 _)).mono ?_); rintro e' w' ⟨rfl, qk⟩; have t0 := At.kp s0 qk (Nat.lt_of_lt_of_le (show w.heap.size + 1 < w.heap.size + 2 by omega) sb.le); have t1 := Rm.kp s1 qk (Nat.lt_of_lt_of_le (show w.heap.size < w.heap.size + 2 by omega) sb.le); have tb := Bh.step sb qk; clear qk; refine hK.out _ _ ⟨t0, t1, tb⟩ (fun hS => ?_)) | (refine skip_if (by rfl) ?_; refine hK.out _ _ hS (fun hS => ?_)))
    clear hK K
    try simp only [Act.put, zA, zB, zC]
    (refine tk 5 ?_ rfl ?_ hS ?_; rotate_left; focus (first | (refine Or.inl ⟨by rfl, ?_⟩; intro w' hSw; obtain ⟨s0, s1, sb⟩ := hSw; go_simp <;> try with_reducible rfl) | (refine Or.inr ⟨by rfl, ?_⟩; rfl)))
    try simp only [Act.put, zA, zB, zC]
    (refine tk 6 ?_ rfl (Or.inl ⟨by rfl, ?_⟩) hS ?_; rotate_left; focus (intro w' hSw; obtain ⟨s0, s1, sb⟩ := hSw; go_simp <;> try with_reducible rfl))
    try simp only [Act.put, zA, zB, zC]
    refine rdy 7 rfl (fun K hK => ?_)
    obtain ⟨s0, s1, sb⟩ := hS
    have c0_0 := s0 0 _ rfl; have c0_1 := s0 1 _ rfl; have c0_2 := s0 2 _ rfl; have c0_3 := s0 3 _ rfl; have c0_4 := s0 4 _ rfl; have c0_5 := s0 5 _ rfl; have c0_6 := s0 6 _ rfl; have c0_7 := s0 7 _ rfl; have c0_8 := s0 8 _ rfl; have c0_9 := s0 9 _ rfl; have c0_10 := s0 10 _ rfl
    obtain ⟨⟨_, _⟩, _, ⟨_, _⟩, _, ⟨_, _⟩, _, ⟨_, _⟩, _, ⟨_, _⟩, _, ⟨_, _⟩, _, ⟨_, _⟩, _, ⟨_, _⟩, _, ⟨_, _⟩, _, ⟨_, _⟩, _, ⟨_, _⟩, _⟩ := s1.out11; 
    go_simp
    refine hK.out _ _ ⟨?_, ?_, ?_⟩ (fun hS => ?_)
    · repeat' (first | with_reducible assumption | (with_reducible refine At.set ?_ ?_ _) | with_reducible refine At.drew ?_)
      all_goals first | with_reducible assumption | (dsimp only; omega)
    · repeat' (first | with_reducible assumption | (with_reducible refine Rm.set ?_ _) | with_reducible refine Rm.drew ?_)
      all_goals first | with_reducible assumption | (dsimp only; omega)
    · repeat' (first | with_reducible assumption | with_reducible refine Bh.set2 ?_ ?_ | with_reducible refine Bh.drew ?_)
      all_goals first | with_reducible assumption | (dsimp only; omega)
    clear hK K
    try simp only [Act.put, zA, zB, zC]
    (refine tk 8 ?_ rfl (Or.inl ⟨by rfl, ?_⟩) hS ?_; rotate_left; focus (intro w' hSw; obtain ⟨s0, s1, sb⟩ := hSw; go_simp <;> try with_reducible rfl))
    try simp only [Act.put, zA, zB, zC]
    refine wpAnyH_done (by kernel_rfl) ?_ _
    obtain ⟨s0, s1, sb⟩ := hS
    have c0_0 := s0 0 _ rfl; have c0_1 := s0 1 _ rfl; have c0_2 := s0 2 _ rfl; have c0_3 := s0 3 _ rfl; have c0_4 := s0 4 _ rfl; have c0_5 := s0 5 _ rfl; have c0_6 := s0 6 _ rfl; have c0_7 := s0 7 _ rfl; have c0_8 := s0 8 _ rfl; have c0_9 := s0 9 _ rfl; have c0_10 := s0 10 _ rfl
    go_wp2
    have h := Hh.out
    have h2 := Hh2.out
    refine bodyPost_ret (v := .tuple #[Ins.v ⟨20, 0, (fl x 128 32), (fl x 32768 32), 0, 0, (fl x 4096 8), false, false⟩ 0 0, .bool (false)]) ?_ rfl ⟨RdP.mk ⟨20, 0, (fl x 128 32), (fl x 32768 32), 0, 0, (fl x 4096 8), false, false⟩ (false) rfl (by simp [spAmo, h.1, h.2]), ?_⟩
    · clear h h2
      simp [results, Tryz.results78, go_sem, Ins.v, *]
    · with_reducible exact sb.kp
  · have t0 : (fl x 4096 8 == 2) = false := by simp; omega
    have t1 : (fl x 4096 8 == 3) = false := by simp; omega
    have t2 : (fl x 134217728 32 == 2) = false := by simp; omega
    have t3 : (fl x 134217728 32 == 3) = true := by simp; omega
    have t4 : (fl x 134217728 32 == 0) = false := by simp; omega
    have t5 : (fl x 134217728 32 == 1) = false := by simp; omega
    have t6 : (fl x 134217728 32 == 4) = false := by simp; omega
    have t7 : (fl x 134217728 32 == 8) = false := by simp; omega
    have t8 : (fl x 134217728 32 == 12) = false := by simp; omega
    have t9 : (fl x 134217728 32 == 16) = false := by simp; omega
    have t10 : (fl x 134217728 32 == 20) = false := by simp; omega
    have t11 : (fl x 134217728 32 == 24) = false := by simp; omega
    have t12 : (fl x 134217728 32 == 28) = false := by simp; omega
    have Hh := Lib.hid h
    have Hh2 := Lib.hid h2
    clear h h2
    go_enter Tryz.func78, Tryz.ntmps78
    go_wp2_with (first | (go_at_call 117; with_reducible refine (f3_w x x0 x1 _).mono ?_; rintro e' w1 ⟨rfl, rfl⟩) | (go_at_call 118; with_reducible refine (rd_w x x0 x1 _).mono ?_; rintro e' w1 ⟨rfl, rfl⟩) | (go_at_call 119; with_reducible refine (rs1_w x x0 x1 _).mono ?_; rintro e' w1 ⟨rfl, rfl⟩) | (go_at_call 127; with_reducible refine (rs2_w x x0 x1 _).mono ?_; rintro e' w1 ⟨rfl, rfl⟩) | (go_at_call 84; with_reducible refine (cf_31_27 x x0 x1 _).mono ?_; rintro e' w1 ⟨rfl, rfl⟩))
    refine bodyPost_ret (v := .tuple #[Ins.v ⟨21, 0, (fl x 128 32), (fl x 32768 32), (fl x 1048576 32), 0, (fl x 4096 8), false, false⟩ 0 0, .bool (false)]) (by simp [results, Tryz.results78, go_sem, Ins.v]) rfl ⟨RdP.mk ⟨21, 0, (fl x 128 32), (fl x 32768 32), (fl x 1048576 32), 0, (fl x 4096 8), false, false⟩ (false) rfl (by have h := Hh.out; have h2 := Hh2.out; simp [spAmo, h.1, h.2]), by (repeat' (first | with_reducible refine Kp.setCell ?_ ?_ _ | with_reducible refine Kp.allocs ?_ _ _ | with_reducible refine Kp.drew ?_ | with_reducible refine Kp.drewN ?_ _)); all_goals first | exact Kp.refl w | (dsimp only; omega)⟩
  · have t0 : (fl x 4096 8 == 2) = false := by simp; omega
    have t1 : (fl x 4096 8 == 3) = false := by simp; omega
    have t2 : (fl x 134217728 32 == 2) = false := by simp; omega
    have t3 : (fl x 134217728 32 == 3) = false := by simp; omega
    have t4 : (fl x 134217728 32 == 0) = true := by simp; omega
    have t5 : (fl x 134217728 32 == 1) = false := by simp; omega
    have t6 : (fl x 134217728 32 == 4) = false := by simp; omega
    have t7 : (fl x 134217728 32 == 8) = false := by simp; omega
    have t8 : (fl x 134217728 32 == 12) = false := by simp; omega
    have t9 : (fl x 134217728 32 == 16) = false := by simp; omega
    have t10 : (fl x 134217728 32 == 20) = false := by simp; omega
    have t11 : (fl x 134217728 32 == 24) = false := by simp; omega
    have t12 : (fl x 134217728 32 == 28) = false := by simp; omega
    have Hh := Lib.hid h
    have Hh2 := Lib.hid h2
    clear h h2
    go_enter Tryz.func78, Tryz.ntmps78
    go_wp2_with (first | (go_at_call 117; with_reducible refine (f3_w x x0 x1 _).mono ?_; rintro e' w1 ⟨rfl, rfl⟩) | (go_at_call 118; with_reducible refine (rd_w x x0 x1 _).mono ?_; rintro e' w1 ⟨rfl, rfl⟩) | (go_at_call 119; with_reducible refine (rs1_w x x0 x1 _).mono ?_; rintro e' w1 ⟨rfl, rfl⟩) | (go_at_call 127; with_reducible refine (rs2_w x x0 x1 _).mono ?_; rintro e' w1 ⟨rfl, rfl⟩) | (go_at_call 84; with_reducible refine (cf_31_27 x x0 x1 _).mono ?_; rintro e' w1 ⟨rfl, rfl⟩))
    refine bodyPost_ret (v := .tuple #[Ins.v ⟨22, fl x 134217728 32, (fl x 128 32), (fl x 32768 32), (fl x 1048576 32), 0, (fl x 4096 8), false, false⟩ 0 0, .bool (false)]) (by simp [results, Tryz.results78, go_sem, Ins.v]) rfl ⟨RdP.mk ⟨22, fl x 134217728 32, (fl x 128 32), (fl x 32768 32), (fl x 1048576 32), 0, (fl x 4096 8), false, false⟩ (false) rfl (by have h := Hh.out; have h2 := Hh2.out; simp [spAmo, h.1, h.2]), by (repeat' (first | with_reducible refine Kp.setCell ?_ ?_ _ | with_reducible refine Kp.allocs ?_ _ _ | with_reducible refine Kp.drew ?_ | with_reducible refine Kp.drewN ?_ _)); all_goals first | exact Kp.refl w | (dsimp only; omega)⟩
  · have t0 : (fl x 4096 8 == 2) = false := by simp; omega
    have t1 : (fl x 4096 8 == 3) = false := by simp; omega
    have t2 : (fl x 134217728 32 == 2) = false := by simp; omega
    have t3 : (fl x 134217728 32 == 3) = false := by simp; omega
    have t4 : (fl x 134217728 32 == 0) = false := by simp; omega
    have t5 : (fl x 134217728 32 == 1) = true := by simp; omega
    have t6 : (fl x 134217728 32 == 4) = false := by simp; omega
    have t7 : (fl x 134217728 32 == 8) = false := by simp; omega
    have t8 : (fl x 134217728 32 == 12) = false := by simp; omega
    have t9 : (fl x 134217728 32 == 16) = false := by simp; omega
    have t10 : (fl x 134217728 32 == 20) = false := by simp; omega
    have t11 : (fl x 134217728 32 == 24) = false := by simp; omega
    have t12 : (fl x 134217728 32 == 28) = false := by simp; omega
    have Hh := Lib.hid h
    have Hh2 := Lib.hid h2
    clear h h2
    go_enter Tryz.func78, Tryz.ntmps78
    go_wp2_with (first | (go_at_call 117; with_reducible refine (f3_w x x0 x1 _).mono ?_; rintro e' w1 ⟨rfl, rfl⟩) | (go_at_call 118; with_reducible refine (rd_w x x0 x1 _).mono ?_; rintro e' w1 ⟨rfl, rfl⟩) | (go_at_call 119; with_reducible refine (rs1_w x x0 x1 _).mono ?_; rintro e' w1 ⟨rfl, rfl⟩) | (go_at_call 127; with_reducible refine (rs2_w x x0 x1 _).mono ?_; rintro e' w1 ⟨rfl, rfl⟩) | (go_at_call 84; with_reducible refine (cf_31_27 x x0 x1 _).mono ?_; rintro e' w1 ⟨rfl, rfl⟩))
    refine bodyPost_ret (v := .tuple #[Ins.v ⟨22, fl x 134217728 32, (fl x 128 32), (fl x 32768 32), (fl x 1048576 32), 0, (fl x 4096 8), false, false⟩ 0 0, .bool (false)]) (by simp [results, Tryz.results78, go_sem, Ins.v]) rfl ⟨RdP.mk ⟨22, fl x 134217728 32, (fl x 128 32), (fl x 32768 32), (fl x 1048576 32), 0, (fl x 4096 8), false, false⟩ (false) rfl (by have h := Hh.out; have h2 := Hh2.out; simp [spAmo, h.1, h.2]), by (repeat' (first | with_reducible refine Kp.setCell ?_ ?_ _ | with_reducible refine Kp.allocs ?_ _ _ | with_reducible refine Kp.drew ?_ | with_reducible refine Kp.drewN ?_ _)); all_goals first | exact Kp.refl w | (dsimp only; omega)⟩
  · have t0 : (fl x 4096 8 == 2) = false := by simp; omega
    have t1 : (fl x 4096 8 == 3) = false := by simp; omega
    have t2 : (fl x 134217728 32 == 2) = false := by simp; omega
    have t3 : (fl x 134217728 32 == 3) = false := by simp; omega
    have t4 : (fl x 134217728 32 == 0) = false := by simp; omega
    have t5 : (fl x 134217728 32 == 1) = false := by simp; omega
    have t6 : (fl x 134217728 32 == 4) = true := by simp; omega
    have t7 : (fl x 134217728 32 == 8) = false := by simp; omega
    have t8 : (fl x 134217728 32 == 12) = false := by simp; omega
    have t9 : (fl x 134217728 32 == 16) = false := by simp; omega
    have t10 : (fl x 134217728 32 == 20) = false := by simp; omega
    have t11 : (fl x 134217728 32 == 24) = false := by simp; omega
    have t12 : (fl x 134217728 32 == 28) = false := by simp; omega
    have Hh := Lib.hid h
    have Hh2 := Lib.hid h2
    clear h h2
    go_enter Tryz.func78, Tryz.ntmps78
    go_wp2_with (first | (go_at_call 117; with_reducible refine (f3_w x x0 x1 _).mono ?_; rintro e' w1 ⟨rfl, rfl⟩) | (go_at_call 118; with_reducible refine (rd_w x x0 x1 _).mono ?_; rintro e' w1 ⟨rfl, rfl⟩) | (go_at_call 119; with_reducible refine (rs1_w x x0 x1 _).mono ?_; rintro e' w1 ⟨rfl, rfl⟩) | (go_at_call 127; with_reducible refine (rs2_w x x0 x1 _).mono ?_; rintro e' w1 ⟨rfl, rfl⟩) | (go_at_call 84; with_reducible refine (cf_31_27 x x0 x1 _).mono ?_; rintro e' w1 ⟨rfl, rfl⟩))
    refine bodyPost_ret (v := .tuple #[Ins.v ⟨22, fl x 134217728 32, (fl x 128 32), (fl x 32768 32), (fl x 1048576 32), 0, (fl x 4096 8), false, false⟩ 0 0, .bool (false)]) (by simp [results, Tryz.results78, go_sem, Ins.v]) rfl ⟨RdP.mk ⟨22, fl x 134217728 32, (fl x 128 32), (fl x 32768 32), (fl x 1048576 32), 0, (fl x 4096 8), false, false⟩ (false) rfl (by have h := Hh.out; have h2 := Hh2.out; simp [spAmo, h.1, h.2]), by (repeat' (first | with_reducible refine Kp.setCell ?_ ?_ _ | with_reducible refine Kp.allocs ?_ _ _ | with_reducible refine Kp.drew ?_ | with_reducible refine Kp.drewN ?_ _)); all_goals first | exact Kp.refl w | (dsimp only; omega)⟩
  · have t0 : (fl x 4096 8 == 2) = false := by simp; omega
    have t1 : (fl x 4096 8 == 3) = false := by simp; omega
    have t2 : (fl x 134217728 32 == 2) = false := by simp; omega
    have t3 : (fl x 134217728 32 == 3) = false := by simp; omega
    have t4 : (fl x 134217728 32 == 0) = false := by simp; omega
    have t5 : (fl x 134217728 32 == 1) = false := by simp; omega
    have t6 : (fl x 134217728 32 == 4) = false := by simp; omega
    have t7 : (fl x 134217728 32 == 8) = true := by simp; omega
    have t8 : (fl x 134217728 32 == 12) = false := by simp; omega
    have t9 : (fl x 134217728 32 == 16) = false := by simp; omega
    have t10 : (fl x 134217728 32 == 20) = false := by simp; omega
    have t11 : (fl x 134217728 32 == 24) = false := by simp; omega
    have t12 : (fl x 134217728 32 == 28) = false := by simp; omega
    have Hh := Lib.hid h
    have Hh2 := Lib.hid h2
    clear h h2
    go_enter Tryz.func78, Tryz.ntmps78
    go_wp2_with (first | (go_at_call 117; with_reducible refine (f3_w x x0 x1 _).mono ?_; rintro e' w1 ⟨rfl, rfl⟩) | (go_at_call 118; with_reducible refine (rd_w x x0 x1 _).mono ?_; rintro e' w1 ⟨rfl, rfl⟩) | (go_at_call 119; with_reducible refine (rs1_w x x0 x1 _).mono ?_; rintro e' w1 ⟨rfl, rfl⟩) | (go_at_call 127; with_reducible refine (rs2_w x x0 x1 _).mono ?_; rintro e' w1 ⟨rfl, rfl⟩) | (go_at_call 84; with_reducible refine (cf_31_27 x x0 x1 _).mono ?_; rintro e' w1 ⟨rfl, rfl⟩))
    refine bodyPost_ret (v := .tuple #[Ins.v ⟨22, fl x 134217728 32, (fl x 128 32), (fl x 32768 32), (fl x 1048576 32), 0, (fl x 4096 8), false, false⟩ 0 0, .bool (false)]) (by simp [results, Tryz.results78, go_sem, Ins.v]) rfl ⟨RdP.mk ⟨22, fl x 134217728 32, (fl x 128 32), (fl x 32768 32), (fl x 1048576 32), 0, (fl x 4096 8), false, false⟩ (false) rfl (by have h := Hh.out; have h2 := Hh2.out; simp [spAmo, h.1, h.2]), by (repeat' (first | with_reducible refine Kp.setCell ?_ ?_ _ | with_reducible refine Kp.allocs ?_ _ _ | with_reducible refine Kp.drew ?_ | with_reducible refine Kp.drewN ?_ _)); all_goals first | exact Kp.refl w | (dsimp only; omega)⟩
  · have t0 : (fl x 4096 8 == 2) = false := by simp; omega
    have t1 : (fl x 4096 8 == 3) = false := by simp; omega
    have t2 : (fl x 134217728 32 == 2) = false := by simp; omega
    have t3 : (fl x 134217728 32 == 3) = false := by simp; omega
    have t4 : (fl x 134217728 32 == 0) = false := by simp; omega
    have t5 : (fl x 134217728 32 == 1) = false := by simp; omega
    have t6 : (fl x 134217728 32 == 4) = false := by simp; omega
    have t7 : (fl x 134217728 32 == 8) = false := by simp; omega
    have t8 : (fl x 134217728 32 == 12) = true := by simp; omega
    have t9 : (fl x 134217728 32 == 16) = false := by simp; omega
    have t10 : (fl x 134217728 32 == 20) = false := by simp; omega
    have t11 : (fl x 134217728 32 == 24) = false := by simp; omega
    have t12 : (fl x 134217728 32 == 28) = false := by simp; omega
    have Hh := Lib.hid h
    have Hh2 := Lib.hid h2
    clear h h2
    go_enter Tryz.func78, Tryz.ntmps78
    go_wp2_with (first | (go_at_call 117; with_reducible refine (f3_w x x0 x1 _).mono ?_; rintro e' w1 ⟨rfl, rfl⟩) | (go_at_call 118; with_reducible refine (rd_w x x0 x1 _).mono ?_; rintro e' w1 ⟨rfl, rfl⟩) | (go_at_call 119; with_reducible refine (rs1_w x x0 x1 _).mono ?_; rintro e' w1 ⟨rfl, rfl⟩) | (go_at_call 127; with_reducible refine (rs2_w x x0 x1 _).mono ?_; rintro e' w1 ⟨rfl, rfl⟩) | (go_at_call 84; with_reducible refine (cf_31_27 x x0 x1 _).mono ?_; rintro e' w1 ⟨rfl, rfl⟩))
    refine bodyPost_ret (v := .tuple #[Ins.v ⟨22, fl x 134217728 32, (fl x 128 32), (fl x 32768 32), (fl x 1048576 32), 0, (fl x 4096 8), false, false⟩ 0 0, .bool (false)]) (by simp [results, Tryz.results78, go_sem, Ins.v]) rfl ⟨RdP.mk ⟨22, fl x 134217728 32, (fl x 128 32), (fl x 32768 32), (fl x 1048576 32), 0, (fl x 4096 8), false, false⟩ (false) rfl (by have h := Hh.out; have h2 := Hh2.out; simp [spAmo, h.1, h.2]), by (repeat' (first | with_reducible refine Kp.setCell ?_ ?_ _ | with_reducible refine Kp.allocs ?_ _ _ | with_reducible refine Kp.drew ?_ | with_reducible refine Kp.drewN ?_ _)); all_goals first | exact Kp.refl w | (dsimp only; omega)⟩
  · have t0 : (fl x 4096 8 == 2) = false := by simp; omega
    have t1 : (fl x 4096 8 == 3) = false := by simp; omega
    have t2 : (fl x 134217728 32 == 2) = false := by simp; omega
    have t3 : (fl x 134217728 32 == 3) = false := by simp; omega
    have t4 : (fl x 134217728 32 == 0) = false := by simp; omega
    have t5 : (fl x 134217728 32 == 1) = false := by simp; omega
    have t6 : (fl x 134217728 32 == 4) = false := by simp; omega
    have t7 : (fl x 134217728 32 == 8) = false := by simp; omega
    have t8 : (fl x 134217728 32 == 12) = false := by simp; omega
    have t9 : (fl x 134217728 32 == 16) = true := by simp; omega
    have t10 : (fl x 134217728 32 == 20) = false := by simp; omega
    have t11 : (fl x 134217728 32 == 24) = false := by simp; omega
    have t12 : (fl x 134217728 32 == 28) = false := by simp; omega
    have Hh := Lib.hid h
    have Hh2 := Lib.hid h2
    clear h h2
    go_enter Tryz.func78, Tryz.ntmps78
    go_wp2_with (first | (go_at_call 117; with_reducible refine (f3_w x x0 x1 _).mono ?_; rintro e' w1 ⟨rfl, rfl⟩) | (go_at_call 118; with_reducible refine (rd_w x x0 x1 _).mono ?_; rintro e' w1 ⟨rfl, rfl⟩) | (go_at_call 119; with_reducible refine (rs1_w x x0 x1 _).mono ?_; rintro e' w1 ⟨rfl, rfl⟩) | (go_at_call 127; with_reducible refine (rs2_w x x0 x1 _).mono ?_; rintro e' w1 ⟨rfl, rfl⟩) | (go_at_call 84; with_reducible refine (cf_31_27 x x0 x1 _).mono ?_; rintro e' w1 ⟨rfl, rfl⟩))
    refine bodyPost_ret (v := .tuple #[Ins.v ⟨22, fl x 134217728 32, (fl x 128 32), (fl x 32768 32), (fl x 1048576 32), 0, (fl x 4096 8), false, false⟩ 0 0, .bool (false)]) (by simp [results, Tryz.results78, go_sem, Ins.v]) rfl ⟨RdP.mk ⟨22, fl x 134217728 32, (fl x 128 32), (fl x 32768 32), (fl x 1048576 32), 0, (fl x 4096 8), false, false⟩ (false) rfl (by have h := Hh.out; have h2 := Hh2.out; simp [spAmo, h.1, h.2]), by (repeat' (first | with_reducible refine Kp.setCell ?_ ?_ _ | with_reducible refine Kp.allocs ?_ _ _ | with_reducible refine Kp.drew ?_ | with_reducible refine Kp.drewN ?_ _)); all_goals first | exact Kp.refl w | (dsimp only; omega)⟩
  · have t0 : (fl x 4096 8 == 2) = false := by simp; omega
    have t1 : (fl x 4096 8 == 3) = false := by simp; omega
    have t2 : (fl x 134217728 32 == 2) = false := by simp; omega
    have t3 : (fl x 134217728 32 == 3) = false := by simp; omega
    have t4 : (fl x 134217728 32 == 0) = false := by simp; omega
    have t5 : (fl x 134217728 32 == 1) = false := by simp; omega
    have t6 : (fl x 134217728 32 == 4) = false := by simp; omega
    have t7 : (fl x 134217728 32 == 8) = false := by simp; omega
    have t8 : (fl x 134217728 32 == 12) = false := by simp; omega
    have t9 : (fl x 134217728 32 == 16) = false := by simp; omega
    have t10 : (fl x 134217728 32 == 20) = true := by simp; omega
    have t11 : (fl x 134217728 32 == 24) = false := by simp; omega
    have t12 : (fl x 134217728 32 == 28) = false := by simp; omega
    have Hh := Lib.hid h
    have Hh2 := Lib.hid h2
    clear h h2
    go_enter Tryz.func78, Tryz.ntmps78
    go_wp2_with (first | (go_at_call 117; with_reducible refine (f3_w x x0 x1 _).mono ?_; rintro e' w1 ⟨rfl, rfl⟩) | (go_at_call 118; with_reducible refine (rd_w x x0 x1 _).mono ?_; rintro e' w1 ⟨rfl, rfl⟩) | (go_at_call 119; with_reducible refine (rs1_w x x0 x1 _).mono ?_; rintro e' w1 ⟨rfl, rfl⟩) | (go_at_call 127; with_reducible refine (rs2_w x x0 x1 _).mono ?_; rintro e' w1 ⟨rfl, rfl⟩) | (go_at_call 84; with_reducible refine (cf_31_27 x x0 x1 _).mono ?_; rintro e' w1 ⟨rfl, rfl⟩))
    refine bodyPost_ret (v := .tuple #[Ins.v ⟨22, fl x 134217728 32, (fl x 128 32), (fl x 32768 32), (fl x 1048576 32), 0, (fl x 4096 8), false, false⟩ 0 0, .bool (false)]) (by simp [results, Tryz.results78, go_sem, Ins.v]) rfl ⟨RdP.mk ⟨22, fl x 134217728 32, (fl x 128 32), (fl x 32768 32), (fl x 1048576 32), 0, (fl x 4096 8), false, false⟩ (false) rfl (by have h := Hh.out; have h2 := Hh2.out; simp [spAmo, h.1, h.2]), by (repeat' (first | with_reducible refine Kp.setCell ?_ ?_ _ | with_reducible refine Kp.allocs ?_ _ _ | with_reducible refine Kp.drew ?_ | with_reducible refine Kp.drewN ?_ _)); all_goals first | exact Kp.refl w | (dsimp only; omega)⟩
  · have t0 : (fl x 4096 8 == 2) = false := by simp; omega
    have t1 : (fl x 4096 8 == 3) = false := by simp; omega
    have t2 : (fl x 134217728 32 == 2) = false := by simp; omega
    have t3 : (fl x 134217728 32 == 3) = false := by simp; omega
    have t4 : (fl x 134217728 32 == 0) = false := by simp; omega
    have t5 : (fl x 134217728 32 == 1) = false := by simp; omega
    have t6 : (fl x 134217728 32 == 4) = false := by simp; omega
    have t7 : (fl x 134217728 32 == 8) = false := by simp; omega
    have t8 : (fl x 134217728 32 == 12) = false := by simp; omega
    have t9 : (fl x 134217728 32 == 16) = false := by simp; omega
    have t10 : (fl x 134217728 32 == 20) = false := by simp; omega
    have t11 : (fl x 134217728 32 == 24) = true := by simp; omega
    have t12 : (fl x 134217728 32 == 28) = false := by simp; omega
    have Hh := Lib.hid h
    have Hh2 := Lib.hid h2
    clear h h2
    go_enter Tryz.func78, Tryz.ntmps78
    go_wp2_with (first | (go_at_call 117; with_reducible refine (f3_w x x0 x1 _).mono ?_; rintro e' w1 ⟨rfl, rfl⟩) | (go_at_call 118; with_reducible refine (rd_w x x0 x1 _).mono ?_; rintro e' w1 ⟨rfl, rfl⟩) | (go_at_call 119; with_reducible refine (rs1_w x x0 x1 _).mono ?_; rintro e' w1 ⟨rfl, rfl⟩) | (go_at_call 127; with_reducible refine (rs2_w x x0 x1 _).mono ?_; rintro e' w1 ⟨rfl, rfl⟩) | (go_at_call 84; with_reducible refine (cf_31_27 x x0 x1 _).mono ?_; rintro e' w1 ⟨rfl, rfl⟩))
    refine bodyPost_ret (v := .tuple #[Ins.v ⟨22, fl x 134217728 32, (fl x 128 32), (fl x 32768 32), (fl x 1048576 32), 0, (fl x 4096 8), false, false⟩ 0 0, .bool (false)]) (by simp [results, Tryz.results78, go_sem, Ins.v]) rfl ⟨RdP.mk ⟨22, fl x 134217728 32, (fl x 128 32), (fl x 32768 32), (fl x 1048576 32), 0, (fl x 4096 8), false, false⟩ (false) rfl (by have h := Hh.out; have h2 := Hh2.out; simp [spAmo, h.1, h.2]), by (repeat' (first | with_reducible refine Kp.setCell ?_ ?_ _ | with_reducible refine Kp.allocs ?_ _ _ | with_reducible refine Kp.drew ?_ | with_reducible refine Kp.drewN ?_ _)); all_goals first | exact Kp.refl w | (dsimp only; omega)⟩
  · have t0 : (fl x 4096 8 == 2) = false := by simp; omega
    have t1 : (fl x 4096 8 == 3) = false := by simp; omega
    have t2 : (fl x 134217728 32 == 2) = false := by simp; omega
    have t3 : (fl x 134217728 32 == 3) = false := by simp; omega
    have t4 : (fl x 134217728 32 == 0) = false := by simp; omega
    have t5 : (fl x 134217728 32 == 1) = false := by simp; omega
    have t6 : (fl x 134217728 32 == 4) = false := by simp; omega
    have t7 : (fl x 134217728 32 == 8) = false := by simp; omega
    have t8 : (fl x 134217728 32 == 12) = false := by simp; omega
    have t9 : (fl x 134217728 32 == 16) = false := by simp; omega
    have t10 : (fl x 134217728 32 == 20) = false := by simp; omega
    have t11 : (fl x 134217728 32 == 24) = false := by simp; omega
    have t12 : (fl x 134217728 32 == 28) = true := by simp; omega
    have Hh := Lib.hid h
    have Hh2 := Lib.hid h2
    clear h h2
    go_enter Tryz.func78, Tryz.ntmps78
    go_wp2_with (first | (go_at_call 117; with_reducible refine (f3_w x x0 x1 _).mono ?_; rintro e' w1 ⟨rfl, rfl⟩) | (go_at_call 118; with_reducible refine (rd_w x x0 x1 _).mono ?_; rintro e' w1 ⟨rfl, rfl⟩) | (go_at_call 119; with_reducible refine (rs1_w x x0 x1 _).mono ?_; rintro e' w1 ⟨rfl, rfl⟩) | (go_at_call 127; with_reducible refine (rs2_w x x0 x1 _).mono ?_; rintro e' w1 ⟨rfl, rfl⟩) | (go_at_call 84; with_reducible refine (cf_31_27 x x0 x1 _).mono ?_; rintro e' w1 ⟨rfl, rfl⟩))
    refine bodyPost_ret (v := .tuple #[Ins.v ⟨22, fl x 134217728 32, (fl x 128 32), (fl x 32768 32), (fl x 1048576 32), 0, (fl x 4096 8), false, false⟩ 0 0, .bool (false)]) (by simp [results, Tryz.results78, go_sem, Ins.v]) rfl ⟨RdP.mk ⟨22, fl x 134217728 32, (fl x 128 32), (fl x 32768 32), (fl x 1048576 32), 0, (fl x 4096 8), false, false⟩ (false) rfl (by have h := Hh.out; have h2 := Hh2.out; simp [spAmo, h.1, h.2]), by (repeat' (first | with_reducible refine Kp.setCell ?_ ?_ _ | with_reducible refine Kp.allocs ?_ _ _ | with_reducible refine Kp.drew ?_ | with_reducible refine Kp.drewN ?_ _)); all_goals first | exact Kp.refl w | (dsimp only; omega)⟩
  · have t0 : (fl x 4096 8 == 2) = false := by simp; omega
    have t1 : (fl x 4096 8 == 3) = false := by simp; omega
    have t2 : (fl x 134217728 32 == 2) = false := by simp; omega
    have t3 : (fl x 134217728 32 == 3) = false := by simp; omega
    have t4 : (fl x 134217728 32 == 0) = false := by simp; omega
    have t5 : (fl x 134217728 32 == 1) = false := by simp; omega
    have t6 : (fl x 134217728 32 == 4) = false := by simp; omega
    have t7 : (fl x 134217728 32 == 8) = false := by simp; omega
    have t8 : (fl x 134217728 32 == 12) = false := by simp; omega
    have t9 : (fl x 134217728 32 == 16) = false := by simp; omega
    have t10 : (fl x 134217728 32 == 20) = false := by simp; omega
    have t11 : (fl x 134217728 32 == 24) = false := by simp; omega
    have t12 : (fl x 134217728 32 == 28) = false := by simp; omega
    have Hh := Lib.hid h
    have Hh2 := Lib.hid h2
    clear h h2
    go_enter Tryz.func78, Tryz.ntmps78
    go_wp2_with (first | (go_at_call 117; with_reducible refine (f3_w x x0 x1 _).mono ?_; rintro e' w1 ⟨rfl, rfl⟩) | (go_at_call 118; with_reducible refine (rd_w x x0 x1 _).mono ?_; rintro e' w1 ⟨rfl, rfl⟩) | (go_at_call 119; with_reducible refine (rs1_w x x0 x1 _).mono ?_; rintro e' w1 ⟨rfl, rfl⟩) | (go_at_call 127; with_reducible refine (rs2_w x x0 x1 _).mono ?_; rintro e' w1 ⟨rfl, rfl⟩) | (go_at_call 84; with_reducible refine (cf_31_27 x x0 x1 _).mono ?_; rintro e' w1 ⟨rfl, rfl⟩))
    refine bodyPost_ret (v := .tuple #[Ins.v zIns 0 0, .bool (false)]) (by simp [results, Tryz.results78, go_sem, Ins.v, zIns]) rfl ⟨RdP.mk zIns (false) rfl (by have h := Hh.out; have h2 := Hh2.out; simp [spAmo, h.1, h.2]), by (repeat' (first | with_reducible refine Kp.setCell ?_ ?_ _ | with_reducible refine Kp.allocs ?_ _ _ | with_reducible refine Kp.drew ?_ | with_reducible refine Kp.drewN ?_ _)); all_goals first | exact Kp.refl w | (dsimp only; omega)⟩
end Go.Proofs.YtlfeandnpflaaaaGreatDoor
