/-
  Contracts of the document's readers for layer 7: the system's words, atomics, the others, a row, Decode. No condition.
-/
import Derived.Test.YtlfeandnpflaaaaGreatDoorIRAlu
import Derived.Test.YtlfeandnpflaaaaGreatDoorMC
namespace Go.Proofs.YtlfeandnpflaaaaGreatDoor
open Go.ChangeShapes Go.WideShapes Go.ChangeAt Go.RowKit
set_option linter.unusedVariables false
set_option linter.unusedSimpArgs false

set_option maxRecDepth 4000 in
set_option maxHeartbeats 4000000 in
theorem rsys_w (x : Int) (x0 : 0 ≤ x) (x1 : x < 4294967296) (w : World) :
    Calls Tryz.prog 39 #[.int .u32 x] w fun e w' => RdQ e x (spSys x) ∧ Kp w w' := by
  have brd := fl_bd x 128 32 (by omega)
  have bf3 := fl_bd x 4096 8 (by omega)
  have br1 := fl_bd x 32768 32 (by omega)
  have br2 := fl_bd x 1048576 32 (by omega)
  have bf7 := fl_bd x 33554432 128 (by omega)
  have bc := fl_bd x 1048576 4096 (by omega)
  have hc : (fl x 4096 8).tmod 4 = fl x 4096 8 % 4 := Int.tmod_eq_emod_of_nonneg (by omega)
  rcases (show x = 115 ∨ x = 1048691 ∨ x = 807403635 ∨ x = 270532723 ∨ x = 273678451 ∨ (¬ x = 115 ∧ ¬ x = 1048691 ∧ ¬ x = 807403635 ∧ ¬ x = 270532723 ∧ ¬ x = 273678451 ∧ fl x 4096 8 = 0 ∧ fl x 33554432 128 = 9) ∨ (¬ x = 115 ∧ ¬ x = 1048691 ∧ ¬ x = 807403635 ∧ ¬ x = 270532723 ∧ ¬ x = 273678451 ∧ fl x 4096 8 = 0 ∧ ¬ fl x 33554432 128 = 9) ∨ (¬ x = 115 ∧ ¬ x = 1048691 ∧ ¬ x = 807403635 ∧ ¬ x = 270532723 ∧ ¬ x = 273678451 ∧ ¬ fl x 4096 8 = 0) by omega) with h | h | h | h | h | h | h | h
  · have t0 : (x == 115) = true := by simp; omega
    have t1 : (x == 1048691) = false := by simp; omega
    have t2 : (x == 807403635) = false := by simp; omega
    have t3 : (x == 270532723) = false := by simp; omega
    have t4 : (x == 273678451) = false := by simp; omega
    have Hh := Lib.hid h
    clear h
    go_enter Tryz.func39, Tryz.ntmps39
    go_wp2_with (first | (go_at_call 34; with_reducible refine (rf_14_12 x x0 x1 _).mono ?_; rintro e' w1 ⟨rfl, rfl⟩) | (go_at_call 34; with_reducible refine (rf_11_7 x x0 x1 _).mono ?_; rintro e' w1 ⟨rfl, rfl⟩) | (go_at_call 34; with_reducible refine (rf_19_15 x x0 x1 _).mono ?_; rintro e' w1 ⟨rfl, rfl⟩) | (go_at_call 34; with_reducible refine (rf_24_20 x x0 x1 _).mono ?_; rintro e' w1 ⟨rfl, rfl⟩) | (go_at_call 34; with_reducible refine (rf_31_20 x x0 x1 _).mono ?_; rintro e' w1 ⟨rfl, rfl⟩) | (go_at_call 34; with_reducible refine (rf_31_25 x x0 x1 _).mono ?_; rintro e' w1 ⟨rfl, rfl⟩))
    refine bodyPost_ret (v := .tuple #[Ins.v ⟨13, 0, 0, 0, 0, 0, 0, false, false⟩ 4 x, .bool (true)]) (by simp [results, Tryz.results39, go_sem, Ins.v, *]) rfl ⟨RdQ.mk ⟨13, 0, 0, 0, 0, 0, 0, false, false⟩ 4 x (true) rfl (by have h := Hh.out; simp [spSys, h]) (fun _ => ⟨rfl, rfl⟩), by (repeat' (first | with_reducible refine Kp.setCell ?_ ?_ _ | with_reducible refine Kp.allocs ?_ _ _ | with_reducible refine Kp.drew ?_ | with_reducible refine Kp.drewN ?_ _)); all_goals first | exact Kp.refl w | (dsimp only; omega)⟩
  · have t0 : (x == 115) = false := by simp; omega
    have t1 : (x == 1048691) = true := by simp; omega
    have t2 : (x == 807403635) = false := by simp; omega
    have t3 : (x == 270532723) = false := by simp; omega
    have t4 : (x == 273678451) = false := by simp; omega
    have Hh := Lib.hid h
    clear h
    go_enter Tryz.func39, Tryz.ntmps39
    go_wp2_with (first | (go_at_call 34; with_reducible refine (rf_14_12 x x0 x1 _).mono ?_; rintro e' w1 ⟨rfl, rfl⟩) | (go_at_call 34; with_reducible refine (rf_11_7 x x0 x1 _).mono ?_; rintro e' w1 ⟨rfl, rfl⟩) | (go_at_call 34; with_reducible refine (rf_19_15 x x0 x1 _).mono ?_; rintro e' w1 ⟨rfl, rfl⟩) | (go_at_call 34; with_reducible refine (rf_24_20 x x0 x1 _).mono ?_; rintro e' w1 ⟨rfl, rfl⟩) | (go_at_call 34; with_reducible refine (rf_31_20 x x0 x1 _).mono ?_; rintro e' w1 ⟨rfl, rfl⟩) | (go_at_call 34; with_reducible refine (rf_31_25 x x0 x1 _).mono ?_; rintro e' w1 ⟨rfl, rfl⟩))
    refine bodyPost_ret (v := .tuple #[Ins.v ⟨14, 0, 0, 0, 0, 0, 0, false, false⟩ 4 x, .bool (true)]) (by simp [results, Tryz.results39, go_sem, Ins.v, *]) rfl ⟨RdQ.mk ⟨14, 0, 0, 0, 0, 0, 0, false, false⟩ 4 x (true) rfl (by have h := Hh.out; simp [spSys, h]) (fun _ => ⟨rfl, rfl⟩), by (repeat' (first | with_reducible refine Kp.setCell ?_ ?_ _ | with_reducible refine Kp.allocs ?_ _ _ | with_reducible refine Kp.drew ?_ | with_reducible refine Kp.drewN ?_ _)); all_goals first | exact Kp.refl w | (dsimp only; omega)⟩
  · have t0 : (x == 115) = false := by simp; omega
    have t1 : (x == 1048691) = false := by simp; omega
    have t2 : (x == 807403635) = true := by simp; omega
    have t3 : (x == 270532723) = false := by simp; omega
    have t4 : (x == 273678451) = false := by simp; omega
    have Hh := Lib.hid h
    clear h
    go_enter Tryz.func39, Tryz.ntmps39
    go_wp2_with (first | (go_at_call 34; with_reducible refine (rf_14_12 x x0 x1 _).mono ?_; rintro e' w1 ⟨rfl, rfl⟩) | (go_at_call 34; with_reducible refine (rf_11_7 x x0 x1 _).mono ?_; rintro e' w1 ⟨rfl, rfl⟩) | (go_at_call 34; with_reducible refine (rf_19_15 x x0 x1 _).mono ?_; rintro e' w1 ⟨rfl, rfl⟩) | (go_at_call 34; with_reducible refine (rf_24_20 x x0 x1 _).mono ?_; rintro e' w1 ⟨rfl, rfl⟩) | (go_at_call 34; with_reducible refine (rf_31_20 x x0 x1 _).mono ?_; rintro e' w1 ⟨rfl, rfl⟩) | (go_at_call 34; with_reducible refine (rf_31_25 x x0 x1 _).mono ?_; rintro e' w1 ⟨rfl, rfl⟩))
    refine bodyPost_ret (v := .tuple #[Ins.v ⟨15, 0, 0, 0, 0, 0, 0, false, false⟩ 4 x, .bool (true)]) (by simp [results, Tryz.results39, go_sem, Ins.v, *]) rfl ⟨RdQ.mk ⟨15, 0, 0, 0, 0, 0, 0, false, false⟩ 4 x (true) rfl (by have h := Hh.out; simp [spSys, h]) (fun _ => ⟨rfl, rfl⟩), by (repeat' (first | with_reducible refine Kp.setCell ?_ ?_ _ | with_reducible refine Kp.allocs ?_ _ _ | with_reducible refine Kp.drew ?_ | with_reducible refine Kp.drewN ?_ _)); all_goals first | exact Kp.refl w | (dsimp only; omega)⟩
  · have t0 : (x == 115) = false := by simp; omega
    have t1 : (x == 1048691) = false := by simp; omega
    have t2 : (x == 807403635) = false := by simp; omega
    have t3 : (x == 270532723) = true := by simp; omega
    have t4 : (x == 273678451) = false := by simp; omega
    have Hh := Lib.hid h
    clear h
    go_enter Tryz.func39, Tryz.ntmps39
    go_wp2_with (first | (go_at_call 34; with_reducible refine (rf_14_12 x x0 x1 _).mono ?_; rintro e' w1 ⟨rfl, rfl⟩) | (go_at_call 34; with_reducible refine (rf_11_7 x x0 x1 _).mono ?_; rintro e' w1 ⟨rfl, rfl⟩) | (go_at_call 34; with_reducible refine (rf_19_15 x x0 x1 _).mono ?_; rintro e' w1 ⟨rfl, rfl⟩) | (go_at_call 34; with_reducible refine (rf_24_20 x x0 x1 _).mono ?_; rintro e' w1 ⟨rfl, rfl⟩) | (go_at_call 34; with_reducible refine (rf_31_20 x x0 x1 _).mono ?_; rintro e' w1 ⟨rfl, rfl⟩) | (go_at_call 34; with_reducible refine (rf_31_25 x x0 x1 _).mono ?_; rintro e' w1 ⟨rfl, rfl⟩))
    refine bodyPost_ret (v := .tuple #[Ins.v ⟨16, 0, 0, 0, 0, 0, 0, false, false⟩ 4 x, .bool (true)]) (by simp [results, Tryz.results39, go_sem, Ins.v, *]) rfl ⟨RdQ.mk ⟨16, 0, 0, 0, 0, 0, 0, false, false⟩ 4 x (true) rfl (by have h := Hh.out; simp [spSys, h]) (fun _ => ⟨rfl, rfl⟩), by (repeat' (first | with_reducible refine Kp.setCell ?_ ?_ _ | with_reducible refine Kp.allocs ?_ _ _ | with_reducible refine Kp.drew ?_ | with_reducible refine Kp.drewN ?_ _)); all_goals first | exact Kp.refl w | (dsimp only; omega)⟩
  · have t0 : (x == 115) = false := by simp; omega
    have t1 : (x == 1048691) = false := by simp; omega
    have t2 : (x == 807403635) = false := by simp; omega
    have t3 : (x == 270532723) = false := by simp; omega
    have t4 : (x == 273678451) = true := by simp; omega
    have Hh := Lib.hid h
    clear h
    go_enter Tryz.func39, Tryz.ntmps39
    go_wp2_with (first | (go_at_call 34; with_reducible refine (rf_14_12 x x0 x1 _).mono ?_; rintro e' w1 ⟨rfl, rfl⟩) | (go_at_call 34; with_reducible refine (rf_11_7 x x0 x1 _).mono ?_; rintro e' w1 ⟨rfl, rfl⟩) | (go_at_call 34; with_reducible refine (rf_19_15 x x0 x1 _).mono ?_; rintro e' w1 ⟨rfl, rfl⟩) | (go_at_call 34; with_reducible refine (rf_24_20 x x0 x1 _).mono ?_; rintro e' w1 ⟨rfl, rfl⟩) | (go_at_call 34; with_reducible refine (rf_31_20 x x0 x1 _).mono ?_; rintro e' w1 ⟨rfl, rfl⟩) | (go_at_call 34; with_reducible refine (rf_31_25 x x0 x1 _).mono ?_; rintro e' w1 ⟨rfl, rfl⟩))
    refine bodyPost_ret (v := .tuple #[Ins.v ⟨17, 0, 0, 0, 0, 0, 0, false, false⟩ 4 x, .bool (true)]) (by simp [results, Tryz.results39, go_sem, Ins.v, *]) rfl ⟨RdQ.mk ⟨17, 0, 0, 0, 0, 0, 0, false, false⟩ 4 x (true) rfl (by have h := Hh.out; simp [spSys, h]) (fun _ => ⟨rfl, rfl⟩), by (repeat' (first | with_reducible refine Kp.setCell ?_ ?_ _ | with_reducible refine Kp.allocs ?_ _ _ | with_reducible refine Kp.drew ?_ | with_reducible refine Kp.drewN ?_ _)); all_goals first | exact Kp.refl w | (dsimp only; omega)⟩
  · have R0 : Rm w.heap.size 11 ((w.alloc (.cells #[.int .i64 0, .int .i64 0, .int .i64 0, .int .i64 0, .int .i64 0, .int .i64 0, .int .i64 0, .bool false, .bool false, .int .i64 0, .int .u32 0] 24)).alloc (.cells #[.int .i64 18, .int .i64 0, .int .i64 0, .int .i64 ((fl x 32768 32)), .int .i64 ((fl x 1048576 32)), .int .i64 0, .int .i64 0, .bool false, .bool false, .int .i64 4, .int .u32 x] 24)) := Rm.alloc (Rm.new' w [.int .i64 0, .int .i64 0, .int .i64 0, .int .i64 0, .int .i64 0, .int .i64 0, .int .i64 0, .bool false, .bool false, .int .i64 0, .int .u32 0] 24 11 (by simp) (by simp)) _ _
    have t0 : (x == 115) = false := by simp; omega
    have t1 : (x == 1048691) = false := by simp; omega
    have t2 : (x == 807403635) = false := by simp; omega
    have t3 : (x == 270532723) = false := by simp; omega
    have t4 : (x == 273678451) = false := by simp; omega
    have t5 : (fl x 4096 8 == 0) = true := by simp; omega
    have t6 : (fl x 33554432 128 == 9) = true := by simp; omega
    have Hh := Lib.hid h
    clear h
    go_enter Tryz.func39, Tryz.ntmps39
    go_wp2_with (first | (go_at_call 34; with_reducible refine (rf_14_12 x x0 x1 _).mono ?_; rintro e' w1 ⟨rfl, rfl⟩) | (go_at_call 34; with_reducible refine (rf_11_7 x x0 x1 _).mono ?_; rintro e' w1 ⟨rfl, rfl⟩) | (go_at_call 34; with_reducible refine (rf_19_15 x x0 x1 _).mono ?_; rintro e' w1 ⟨rfl, rfl⟩) | (go_at_call 34; with_reducible refine (rf_24_20 x x0 x1 _).mono ?_; rintro e' w1 ⟨rfl, rfl⟩) | (go_at_call 34; with_reducible refine (rf_31_20 x x0 x1 _).mono ?_; rintro e' w1 ⟨rfl, rfl⟩) | (go_at_call 34; with_reducible refine (rf_31_25 x x0 x1 _).mono ?_; rintro e' w1 ⟨rfl, rfl⟩))
    have A1 : At (w.heap.size + 1) [.int .i64 18, .int .i64 0, .int .i64 0, .int .i64 ((fl x 32768 32)), .int .i64 ((fl x 1048576 32)), .int .i64 0, .int .i64 0, .bool false, .bool false, .int .i64 4, .int .u32 x] ((w.alloc (.cells #[.int .i64 0, .int .i64 0, .int .i64 0, .int .i64 0, .int .i64 0, .int .i64 0, .int .i64 0, .bool false, .bool false, .int .i64 0, .int .u32 0] 24)).alloc (.cells #[.int .i64 18, .int .i64 0, .int .i64 0, .int .i64 ((fl x 32768 32)), .int .i64 ((fl x 1048576 32)), .int .i64 0, .int .i64 0, .bool false, .bool false, .int .i64 4, .int .u32 x] 24)) := At.new' _ _ _ (by simp)
    have R2 := R0
    have kb : Bh w (w.heap.size + 1 + 1) ((w.alloc (.cells #[.int .i64 0, .int .i64 0, .int .i64 0, .int .i64 0, .int .i64 0, .int .i64 0, .int .i64 0, .bool false, .bool false, .int .i64 0, .int .u32 0] 24)).alloc (.cells #[.int .i64 18, .int .i64 0, .int .i64 0, .int .i64 ((fl x 32768 32)), .int .i64 ((fl x 1048576 32)), .int .i64 0, .int .i64 0, .bool false, .bool false, .int .i64 4, .int .u32 x] 24)) := ⟨((Kp.refl w).allocs _ _).allocs _ _, by omega, by simp⟩
    obtain ⟨W2, hW⟩ : ∃ W2, ((w.alloc (.cells #[.int .i64 0, .int .i64 0, .int .i64 0, .int .i64 0, .int .i64 0, .int .i64 0, .int .i64 0, .bool false, .bool false, .int .i64 0, .int .u32 0] 24)).alloc (.cells #[.int .i64 18, .int .i64 0, .int .i64 0, .int .i64 ((fl x 32768 32)), .int .i64 ((fl x 1048576 32)), .int .i64 0, .int .i64 0, .bool false, .bool false, .int .i64 4, .int .u32 x] 24)) = W2 := ⟨_, rfl⟩
    rw [hW] at A1 R2 kb ⊢
    clear hW
    have d0 := A1 0 _ rfl; have d1 := A1 1 _ rfl; have d2 := A1 2 _ rfl; have d3 := A1 3 _ rfl; have d4 := A1 4 _ rfl; have d5 := A1 5 _ rfl; have d6 := A1 6 _ rfl; have d7 := A1 7 _ rfl; have d8 := A1 8 _ rfl; have d9 := A1 9 _ rfl; have d10 := A1 10 _ rfl
    obtain ⟨⟨_, _⟩, _, ⟨_, _⟩, _, ⟨_, _⟩, _, ⟨_, _⟩, _, ⟨_, _⟩, _, ⟨_, _⟩, _, ⟨_, _⟩, _, ⟨_, _⟩, _, ⟨_, _⟩, _, ⟨_, _⟩, _, ⟨_, _⟩, _⟩ := R2.out11
    refine wp_region_held_drew (S := (fun w' => At (w.heap.size + 1) [.int .i64 18, .int .i64 0, .int .i64 0, .int .i64 ((fl x 32768 32)), .int .i64 ((fl x 1048576 32)), .int .i64 0, .int .i64 0, .bool false, .bool false, .int .i64 4, .int .u32 x] w' ∧ Rm (w.heap.size) 11 w' ∧ Bh w (w.heap.size + 1 + 1) w')) (by kernel_rfl) ⟨At.drew (by with_reducible assumption), Rm.drew (by with_reducible assumption), Bh.drew (by with_reducible assumption)⟩ (fun hS => ?_)
    (refine tk 0 ?_ rfl (Or.inl ⟨by rfl, ?_⟩) hS ?_; rotate_left; focus (intro w' hSw; obtain ⟨s0, s1, sb⟩ := hSw; have c0_0 := s0 0 _ rfl; have c0_1 := s0 1 _ rfl; have c0_2 := s0 2 _ rfl; have c0_3 := s0 3 _ rfl; have c0_4 := s0 4 _ rfl; have c0_5 := s0 5 _ rfl; have c0_6 := s0 6 _ rfl; have c0_7 := s0 7 _ rfl; have c0_8 := s0 8 _ rfl; have c0_9 := s0 9 _ rfl; have c0_10 := s0 10 _ rfl; go_simp <;> try with_reducible rfl))
    try simp only [Act.put, zA, zB, zC]
    (refine tk 1 ?_ rfl (Or.inl ⟨by rfl, ?_⟩) hS ?_; rotate_left; focus (intro w' hSw; obtain ⟨s0, s1, sb⟩ := hSw; go_simp <;> try with_reducible rfl))
    try simp only [Act.put, zA, zB, zC]
    refine rdy 2 rfl (fun K hK => ?_)
    (refine take_if (by rfl) ?_; obtain ⟨s0, s1, sb⟩ := hS; go_simp; (with_reducible refine (quiet_kp (rf_31_25 x x0 x1 _)).mono ?_); rintro e' w' ⟨rfl, qk⟩; have t0 := At.kp s0 qk (Nat.lt_of_lt_of_le (show w.heap.size + 1 < w.heap.size + 1 + 1 by omega) sb.le); have t1 := Rm.kp s1 qk (Nat.lt_of_lt_of_le (show w.heap.size < w.heap.size + 1 + 1 by omega) sb.le); have tb := Bh.step sb qk; clear qk; refine hK.out _ _ ⟨t0, t1, tb⟩ (fun hS => ?_))
    clear hK K
    try simp only [Act.put, zA, zB, zC]
    (refine tk 3 ?_ rfl (Or.inl ⟨by rfl, ?_⟩) hS ?_; rotate_left; focus (intro w' hSw; obtain ⟨s0, s1, sb⟩ := hSw; go_simp <;> try with_reducible rfl))
    try simp only [Act.put, zA, zB, zC]
    (refine tk 4 ?_ rfl (Or.inl ⟨by rfl, ?_⟩) hS ?_; rotate_left; focus (intro w' hSw; obtain ⟨s0, s1, sb⟩ := hSw; go_simp <;> try with_reducible rfl))
    try simp only [Act.put, zA, zB, zC]
    (refine tk 5 ?_ rfl ?_ hS ?_; rotate_left; focus (first | (refine Or.inl ⟨by rfl, ?_⟩; intro w' hSw; obtain ⟨s0, s1, sb⟩ := hSw; go_simp <;> try with_reducible rfl) | (refine Or.inr ⟨by rfl, ?_⟩; rfl)))
    try simp only [Act.put, zA, zB, zC]
    refine rdy 6 rfl (fun K hK => ?_)
    (first | (refine take_if (by rfl) ?_; obtain ⟨s0, s1, sb⟩ := hS; go_simp; (with_reducible refine (quiet_kp (rf_11_7 x x0 x1 _)).mono ?_); rintro e' w' ⟨rfl, qk⟩; have t0 := At.kp s0 qk (Nat.lt_of_lt_of_le (show w.heap.size + 1 < w.heap.size + 1 + 1 by omega) sb.le); have t1 := Rm.kp s1 qk (Nat.lt_of_lt_of_le (show w.heap.size < w.heap.size + 1 + 1 by omega) sb.le); have tb := Bh.step sb qk; clear qk; refine hK.out _ _ ⟨t0, t1, tb⟩ (fun hS => ?_)) | (refine skip_if (by rfl) ?_; refine hK.out _ _ hS (fun hS => ?_)))
    clear hK K
    try simp only [Act.put, zA, zB, zC]
    (refine tk 7 ?_ rfl ?_ hS ?_; rotate_left; focus (first | (refine Or.inl ⟨by rfl, ?_⟩; intro w' hSw; obtain ⟨s0, s1, sb⟩ := hSw; go_simp <;> try with_reducible rfl) | (refine Or.inr ⟨by rfl, ?_⟩; rfl)))
    try simp only [Act.put, zA, zB, zC]
    (refine tk 8 ?_ rfl (Or.inl ⟨by rfl, ?_⟩) hS ?_; rotate_left; focus (intro w' hSw; obtain ⟨s0, s1, sb⟩ := hSw; go_simp <;> try with_reducible rfl))
    try simp only [Act.put, zA, zB, zC]
    refine rdy 9 rfl (fun K hK => ?_)
    obtain ⟨s0, s1, sb⟩ := hS
    have c0_0 := s0 0 _ rfl; have c0_1 := s0 1 _ rfl; have c0_2 := s0 2 _ rfl; have c0_3 := s0 3 _ rfl; have c0_4 := s0 4 _ rfl; have c0_5 := s0 5 _ rfl; have c0_6 := s0 6 _ rfl; have c0_7 := s0 7 _ rfl; have c0_8 := s0 8 _ rfl; have c0_9 := s0 9 _ rfl; have c0_10 := s0 10 _ rfl
    obtain ⟨⟨_, _⟩, _, ⟨_, _⟩, _, ⟨_, _⟩, _, ⟨_, _⟩, _, ⟨_, _⟩, _, ⟨_, _⟩, _, ⟨_, _⟩, _, ⟨_, _⟩, _, ⟨_, _⟩, _, ⟨_, _⟩, _, ⟨_, _⟩, _⟩ := s1.out11; 
    go_simp
    refine hK.out _ _ ⟨?_, ?_, ?_⟩ (fun hS => ?_)
    · repeat' (first | with_reducible assumption | (with_reducible refine At.set ?_ ?_ _) | with_reducible refine At.drew ?_)
      all_goals first | with_reducible assumption | (dsimp only; omega)
    · repeat' (first | with_reducible assumption | (with_reducible refine Rm.set ?_ _) | with_reducible refine Rm.drew ?_)
      all_goals first | with_reducible assumption | (dsimp only; omega)
    · repeat' (first | with_reducible assumption | with_reducible refine Bh.set2 ?_ ?_ | with_reducible refine Bh.drew ?_)
      all_goals first | with_reducible assumption | (dsimp only; omega)
    clear hK K
    try simp only [Act.put, zA, zB, zC]
    (refine tk 10 ?_ rfl (Or.inl ⟨by rfl, ?_⟩) hS ?_; rotate_left; focus (intro w' hSw; obtain ⟨s0, s1, sb⟩ := hSw; go_simp <;> try with_reducible rfl))
    try simp only [Act.put, zA, zB, zC]
    refine wpAnyH_done (by kernel_rfl) ?_ _
    obtain ⟨s0, s1, sb⟩ := hS
    have c0_0 := s0 0 _ rfl; have c0_1 := s0 1 _ rfl; have c0_2 := s0 2 _ rfl; have c0_3 := s0 3 _ rfl; have c0_4 := s0 4 _ rfl; have c0_5 := s0 5 _ rfl; have c0_6 := s0 6 _ rfl; have c0_7 := s0 7 _ rfl; have c0_8 := s0 8 _ rfl; have c0_9 := s0 9 _ rfl; have c0_10 := s0 10 _ rfl
    go_wp2
    refine bodyPost_ret (v := .tuple #[Ins.v ⟨18, 0, 0, (fl x 32768 32), (fl x 1048576 32), 0, 0, false, false⟩ 4 x, .bool (fl x 128 32 == 0)]) ?_ rfl ⟨RdQ.mk ⟨18, 0, 0, (fl x 32768 32), (fl x 1048576 32), 0, 0, false, false⟩ 4 x (fl x 128 32 == 0) rfl ?_ (fun _ => ⟨rfl, rfl⟩), ?_⟩
    · simp [results, Tryz.results39, go_sem, Ins.v, *]
    · skip
      have h := Hh.out
      obtain ⟨g0, g1, g2, g3, g4, g5, g6⟩ := h; simp [spSys, g0, g1, g2, g3, g4, g5, g6]
    · with_reducible exact sb.kp
  · have R0 : Rm w.heap.size 11 ((w.alloc (.cells #[.int .i64 0, .int .i64 0, .int .i64 0, .int .i64 0, .int .i64 0, .int .i64 0, .int .i64 0, .bool false, .bool false, .int .i64 0, .int .u32 0] 24)).alloc (.cells #[.int .i64 18, .int .i64 0, .int .i64 0, .int .i64 ((fl x 32768 32)), .int .i64 ((fl x 1048576 32)), .int .i64 0, .int .i64 0, .bool false, .bool false, .int .i64 4, .int .u32 x] 24)) := Rm.alloc (Rm.new' w [.int .i64 0, .int .i64 0, .int .i64 0, .int .i64 0, .int .i64 0, .int .i64 0, .int .i64 0, .bool false, .bool false, .int .i64 0, .int .u32 0] 24 11 (by simp) (by simp)) _ _
    have t0 : (x == 115) = false := by simp; omega
    have t1 : (x == 1048691) = false := by simp; omega
    have t2 : (x == 807403635) = false := by simp; omega
    have t3 : (x == 270532723) = false := by simp; omega
    have t4 : (x == 273678451) = false := by simp; omega
    have t5 : (fl x 4096 8 == 0) = true := by simp; omega
    have t6 : (fl x 33554432 128 == 9) = false := by simp; omega
    have Hh := Lib.hid h
    clear h
    go_enter Tryz.func39, Tryz.ntmps39
    go_wp2_with (first | (go_at_call 34; with_reducible refine (rf_14_12 x x0 x1 _).mono ?_; rintro e' w1 ⟨rfl, rfl⟩) | (go_at_call 34; with_reducible refine (rf_11_7 x x0 x1 _).mono ?_; rintro e' w1 ⟨rfl, rfl⟩) | (go_at_call 34; with_reducible refine (rf_19_15 x x0 x1 _).mono ?_; rintro e' w1 ⟨rfl, rfl⟩) | (go_at_call 34; with_reducible refine (rf_24_20 x x0 x1 _).mono ?_; rintro e' w1 ⟨rfl, rfl⟩) | (go_at_call 34; with_reducible refine (rf_31_20 x x0 x1 _).mono ?_; rintro e' w1 ⟨rfl, rfl⟩) | (go_at_call 34; with_reducible refine (rf_31_25 x x0 x1 _).mono ?_; rintro e' w1 ⟨rfl, rfl⟩))
    have A1 : At (w.heap.size + 1) [.int .i64 18, .int .i64 0, .int .i64 0, .int .i64 ((fl x 32768 32)), .int .i64 ((fl x 1048576 32)), .int .i64 0, .int .i64 0, .bool false, .bool false, .int .i64 4, .int .u32 x] ((w.alloc (.cells #[.int .i64 0, .int .i64 0, .int .i64 0, .int .i64 0, .int .i64 0, .int .i64 0, .int .i64 0, .bool false, .bool false, .int .i64 0, .int .u32 0] 24)).alloc (.cells #[.int .i64 18, .int .i64 0, .int .i64 0, .int .i64 ((fl x 32768 32)), .int .i64 ((fl x 1048576 32)), .int .i64 0, .int .i64 0, .bool false, .bool false, .int .i64 4, .int .u32 x] 24)) := At.new' _ _ _ (by simp)
    have R2 := R0
    have kb : Bh w (w.heap.size + 1 + 1) ((w.alloc (.cells #[.int .i64 0, .int .i64 0, .int .i64 0, .int .i64 0, .int .i64 0, .int .i64 0, .int .i64 0, .bool false, .bool false, .int .i64 0, .int .u32 0] 24)).alloc (.cells #[.int .i64 18, .int .i64 0, .int .i64 0, .int .i64 ((fl x 32768 32)), .int .i64 ((fl x 1048576 32)), .int .i64 0, .int .i64 0, .bool false, .bool false, .int .i64 4, .int .u32 x] 24)) := ⟨((Kp.refl w).allocs _ _).allocs _ _, by omega, by simp⟩
    obtain ⟨W2, hW⟩ : ∃ W2, ((w.alloc (.cells #[.int .i64 0, .int .i64 0, .int .i64 0, .int .i64 0, .int .i64 0, .int .i64 0, .int .i64 0, .bool false, .bool false, .int .i64 0, .int .u32 0] 24)).alloc (.cells #[.int .i64 18, .int .i64 0, .int .i64 0, .int .i64 ((fl x 32768 32)), .int .i64 ((fl x 1048576 32)), .int .i64 0, .int .i64 0, .bool false, .bool false, .int .i64 4, .int .u32 x] 24)) = W2 := ⟨_, rfl⟩
    rw [hW] at A1 R2 kb ⊢
    clear hW
    have d0 := A1 0 _ rfl; have d1 := A1 1 _ rfl; have d2 := A1 2 _ rfl; have d3 := A1 3 _ rfl; have d4 := A1 4 _ rfl; have d5 := A1 5 _ rfl; have d6 := A1 6 _ rfl; have d7 := A1 7 _ rfl; have d8 := A1 8 _ rfl; have d9 := A1 9 _ rfl; have d10 := A1 10 _ rfl
    obtain ⟨⟨_, _⟩, _, ⟨_, _⟩, _, ⟨_, _⟩, _, ⟨_, _⟩, _, ⟨_, _⟩, _, ⟨_, _⟩, _, ⟨_, _⟩, _, ⟨_, _⟩, _, ⟨_, _⟩, _, ⟨_, _⟩, _, ⟨_, _⟩, _⟩ := R2.out11
    refine wp_region_held_drew (S := (fun w' => At (w.heap.size + 1) [.int .i64 18, .int .i64 0, .int .i64 0, .int .i64 ((fl x 32768 32)), .int .i64 ((fl x 1048576 32)), .int .i64 0, .int .i64 0, .bool false, .bool false, .int .i64 4, .int .u32 x] w' ∧ Rm (w.heap.size) 11 w' ∧ Bh w (w.heap.size + 1 + 1) w')) (by kernel_rfl) ⟨At.drew (by with_reducible assumption), Rm.drew (by with_reducible assumption), Bh.drew (by with_reducible assumption)⟩ (fun hS => ?_)
    (refine tk 0 ?_ rfl (Or.inl ⟨by rfl, ?_⟩) hS ?_; rotate_left; focus (intro w' hSw; obtain ⟨s0, s1, sb⟩ := hSw; have c0_0 := s0 0 _ rfl; have c0_1 := s0 1 _ rfl; have c0_2 := s0 2 _ rfl; have c0_3 := s0 3 _ rfl; have c0_4 := s0 4 _ rfl; have c0_5 := s0 5 _ rfl; have c0_6 := s0 6 _ rfl; have c0_7 := s0 7 _ rfl; have c0_8 := s0 8 _ rfl; have c0_9 := s0 9 _ rfl; have c0_10 := s0 10 _ rfl; go_simp <;> try with_reducible rfl))
    try simp only [Act.put, zA, zB, zC]
    (refine tk 1 ?_ rfl (Or.inl ⟨by rfl, ?_⟩) hS ?_; rotate_left; focus (intro w' hSw; obtain ⟨s0, s1, sb⟩ := hSw; go_simp <;> try with_reducible rfl))
    try simp only [Act.put, zA, zB, zC]
    refine rdy 2 rfl (fun K hK => ?_)
    (refine take_if (by rfl) ?_; obtain ⟨s0, s1, sb⟩ := hS; go_simp; (with_reducible refine (quiet_kp (rf_31_25 x x0 x1 _)).mono ?_); rintro e' w' ⟨rfl, qk⟩; have t0 := At.kp s0 qk (Nat.lt_of_lt_of_le (show w.heap.size + 1 < w.heap.size + 1 + 1 by omega) sb.le); have t1 := Rm.kp s1 qk (Nat.lt_of_lt_of_le (show w.heap.size < w.heap.size + 1 + 1 by omega) sb.le); have tb := Bh.step sb qk; clear qk; refine hK.out _ _ ⟨t0, t1, tb⟩ (fun hS => ?_))
    clear hK K
    try simp only [Act.put, zA, zB, zC]
    (refine tk 3 ?_ rfl (Or.inl ⟨by rfl, ?_⟩) hS ?_; rotate_left; focus (intro w' hSw; obtain ⟨s0, s1, sb⟩ := hSw; go_simp <;> try with_reducible rfl))
    try simp only [Act.put, zA, zB, zC]
    (refine tk 4 ?_ rfl (Or.inl ⟨by rfl, ?_⟩) hS ?_; rotate_left; focus (intro w' hSw; obtain ⟨s0, s1, sb⟩ := hSw; go_simp <;> try with_reducible rfl))
    try simp only [Act.put, zA, zB, zC]
    (refine tk 5 ?_ rfl ?_ hS ?_; rotate_left; focus (first | (refine Or.inl ⟨by rfl, ?_⟩; intro w' hSw; obtain ⟨s0, s1, sb⟩ := hSw; go_simp <;> try with_reducible rfl) | (refine Or.inr ⟨by rfl, ?_⟩; rfl)))
    try simp only [Act.put, zA, zB, zC]
    refine rdy 6 rfl (fun K hK => ?_)
    (first | (refine take_if (by rfl) ?_; obtain ⟨s0, s1, sb⟩ := hS; go_simp; (with_reducible refine (quiet_kp (rf_11_7 x x0 x1 _)).mono ?_); rintro e' w' ⟨rfl, qk⟩; have t0 := At.kp s0 qk (Nat.lt_of_lt_of_le (show w.heap.size + 1 < w.heap.size + 1 + 1 by omega) sb.le); have t1 := Rm.kp s1 qk (Nat.lt_of_lt_of_le (show w.heap.size < w.heap.size + 1 + 1 by omega) sb.le); have tb := Bh.step sb qk; clear qk; refine hK.out _ _ ⟨t0, t1, tb⟩ (fun hS => ?_)) | (refine skip_if (by rfl) ?_; refine hK.out _ _ hS (fun hS => ?_)))
    clear hK K
    try simp only [Act.put, zA, zB, zC]
    (refine tk 7 ?_ rfl ?_ hS ?_; rotate_left; focus (first | (refine Or.inl ⟨by rfl, ?_⟩; intro w' hSw; obtain ⟨s0, s1, sb⟩ := hSw; go_simp <;> try with_reducible rfl) | (refine Or.inr ⟨by rfl, ?_⟩; rfl)))
    try simp only [Act.put, zA, zB, zC]
    (refine tk 8 ?_ rfl (Or.inl ⟨by rfl, ?_⟩) hS ?_; rotate_left; focus (intro w' hSw; obtain ⟨s0, s1, sb⟩ := hSw; go_simp <;> try with_reducible rfl))
    try simp only [Act.put, zA, zB, zC]
    refine rdy 9 rfl (fun K hK => ?_)
    obtain ⟨s0, s1, sb⟩ := hS
    have c0_0 := s0 0 _ rfl; have c0_1 := s0 1 _ rfl; have c0_2 := s0 2 _ rfl; have c0_3 := s0 3 _ rfl; have c0_4 := s0 4 _ rfl; have c0_5 := s0 5 _ rfl; have c0_6 := s0 6 _ rfl; have c0_7 := s0 7 _ rfl; have c0_8 := s0 8 _ rfl; have c0_9 := s0 9 _ rfl; have c0_10 := s0 10 _ rfl
    obtain ⟨⟨_, _⟩, _, ⟨_, _⟩, _, ⟨_, _⟩, _, ⟨_, _⟩, _, ⟨_, _⟩, _, ⟨_, _⟩, _, ⟨_, _⟩, _, ⟨_, _⟩, _, ⟨_, _⟩, _, ⟨_, _⟩, _, ⟨_, _⟩, _⟩ := s1.out11; 
    go_simp
    refine hK.out _ _ ⟨?_, ?_, ?_⟩ (fun hS => ?_)
    · repeat' (first | with_reducible assumption | (with_reducible refine At.set ?_ ?_ _) | with_reducible refine At.drew ?_)
      all_goals first | with_reducible assumption | (dsimp only; omega)
    · repeat' (first | with_reducible assumption | (with_reducible refine Rm.set ?_ _) | with_reducible refine Rm.drew ?_)
      all_goals first | with_reducible assumption | (dsimp only; omega)
    · repeat' (first | with_reducible assumption | with_reducible refine Bh.set2 ?_ ?_ | with_reducible refine Bh.drew ?_)
      all_goals first | with_reducible assumption | (dsimp only; omega)
    clear hK K
    try simp only [Act.put, zA, zB, zC]
    (refine tk 10 ?_ rfl (Or.inl ⟨by rfl, ?_⟩) hS ?_; rotate_left; focus (intro w' hSw; obtain ⟨s0, s1, sb⟩ := hSw; go_simp <;> try with_reducible rfl))
    try simp only [Act.put, zA, zB, zC]
    refine wpAnyH_done (by kernel_rfl) ?_ _
    obtain ⟨s0, s1, sb⟩ := hS
    have c0_0 := s0 0 _ rfl; have c0_1 := s0 1 _ rfl; have c0_2 := s0 2 _ rfl; have c0_3 := s0 3 _ rfl; have c0_4 := s0 4 _ rfl; have c0_5 := s0 5 _ rfl; have c0_6 := s0 6 _ rfl; have c0_7 := s0 7 _ rfl; have c0_8 := s0 8 _ rfl; have c0_9 := s0 9 _ rfl; have c0_10 := s0 10 _ rfl
    go_wp2
    refine bodyPost_ret (v := .tuple #[Ins.v ⟨18, 0, 0, (fl x 32768 32), (fl x 1048576 32), 0, 0, false, false⟩ 4 x, .bool (false)]) ?_ rfl ⟨RdQ.mk ⟨18, 0, 0, (fl x 32768 32), (fl x 1048576 32), 0, 0, false, false⟩ 4 x (false) rfl ?_ (fun _ => ⟨rfl, rfl⟩), ?_⟩
    · simp [results, Tryz.results39, go_sem, Ins.v, *]
    · skip
      have h := Hh.out
      obtain ⟨g0, g1, g2, g3, g4, g5, g6⟩ := h; simp [spSys, g0, g1, g2, g3, g4, g5, g6]
    · with_reducible exact sb.kp
  · have t0 : (x == 115) = false := by simp; omega
    have t1 : (x == 1048691) = false := by simp; omega
    have t2 : (x == 807403635) = false := by simp; omega
    have t3 : (x == 270532723) = false := by simp; omega
    have t4 : (x == 273678451) = false := by simp; omega
    have t5 : (fl x 4096 8 == 0) = false := by simp; omega
    have Hh := Lib.hid h
    clear h
    go_enter Tryz.func39, Tryz.ntmps39
    go_wp2_with (first | (go_at_call 34; with_reducible refine (rf_14_12 x x0 x1 _).mono ?_; rintro e' w1 ⟨rfl, rfl⟩) | (go_at_call 34; with_reducible refine (rf_11_7 x x0 x1 _).mono ?_; rintro e' w1 ⟨rfl, rfl⟩) | (go_at_call 34; with_reducible refine (rf_19_15 x x0 x1 _).mono ?_; rintro e' w1 ⟨rfl, rfl⟩) | (go_at_call 34; with_reducible refine (rf_24_20 x x0 x1 _).mono ?_; rintro e' w1 ⟨rfl, rfl⟩) | (go_at_call 34; with_reducible refine (rf_31_20 x x0 x1 _).mono ?_; rintro e' w1 ⟨rfl, rfl⟩) | (go_at_call 34; with_reducible refine (rf_31_25 x x0 x1 _).mono ?_; rintro e' w1 ⟨rfl, rfl⟩))
    refine bodyPost_ret (v := .tuple #[Ins.v ⟨19, (fl x 4096 8) % 4, (fl x 128 32), (fl x 32768 32), 0, fl x 1048576 4096, 0, false, decide (4 < (fl x 4096 8))⟩ 4 x, .bool ((fl x 4096 8) != 4)]) (by simp [results, Tryz.results39, go_sem, Ins.v, *]) rfl ⟨RdQ.mk ⟨19, (fl x 4096 8) % 4, (fl x 128 32), (fl x 32768 32), 0, fl x 1048576 4096, 0, false, decide (4 < (fl x 4096 8))⟩ 4 x ((fl x 4096 8) != 4) rfl (by have h := Hh.out; obtain ⟨g0, g1, g2, g3, g4, g5⟩ := h; by_cases g6 : fl x 4096 8 = 4 <;> simp [spSys, g0, g1, g2, g3, g4, g5, g6]) (fun _ => ⟨rfl, rfl⟩), by (repeat' (first | with_reducible refine Kp.setCell ?_ ?_ _ | with_reducible refine Kp.allocs ?_ _ _ | with_reducible refine Kp.drew ?_ | with_reducible refine Kp.drewN ?_ _)); all_goals first | exact Kp.refl w | (dsimp only; omega)⟩
end Go.Proofs.YtlfeandnpflaaaaGreatDoor
