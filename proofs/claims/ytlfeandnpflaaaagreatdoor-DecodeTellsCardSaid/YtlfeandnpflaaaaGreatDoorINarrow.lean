/-
  Contracts of the closures that base.narrow makes. No condition.
-/
import Derived.Test.YtlfeandnpflaaaaGreatDoorIReadB
import Derived.Test.YtlfeandnpflaaaaGreatDoorINar
namespace Go.Proofs.YtlfeandnpflaaaaGreatDoor
open Go.ChangeShapes Go.WideShapes Go.ChangeAt Go.RowKit
set_option linter.unusedVariables false
set_option linter.unusedSimpArgs false

set_option maxRecDepth 4000 in
set_option maxHeartbeats 8000000 in
theorem narrowImm_w (x : Int) (x0 : 0 ≤ x) (x1 : x < 4294967296) (w : World) (B : Nat) (hB : B < w.heap.size) (hc : w.cell? ⟨B, 0, none⟩ = some (.func (.func 74) #[] #[])) :
    Calls Tryz.prog 125 #[.int .u32 x, .pointer (some ⟨B, 0, none⟩)] w fun e w' => RdP e (nar (spImm x)) ∧ Kp w w' := by
  have R0 : Rm w.heap.size 11 (w.alloc (.cells #[.int .i64 0, .int .i64 0, .int .i64 0, .int .i64 0, .int .i64 0, .int .i64 0, .int .i64 0, .bool false, .bool false, .int .i64 0, .int .u32 0] 24)) := Rm.new' w [.int .i64 0, .int .i64 0, .int .i64 0, .int .i64 0, .int .i64 0, .int .i64 0, .int .i64 0, .bool false, .bool false, .int .i64 0, .int .u32 0] 24 11 (by simp) (by simp)
  have hc0 : (w.alloc (.cells #[.int .i64 0, .int .i64 0, .int .i64 0, .int .i64 0, .int .i64 0, .int .i64 0, .int .i64 0, .bool false, .bool false, .int .i64 0, .int .u32 0] 24)).cell? ⟨B, 0, none⟩ = some (.func (.func 74) #[] #[]) := by rw [World.cell?_alloc_some w _ _ (by rw [hc]; rfl)]; exact hc
  go_enter Tryz.func125, Tryz.ntmps125
  go_wp2_with (first | (go_at_call 74; (with_reducible refine (aluImm_w x x0 x1 _).mono ?_); rintro e' w1 ⟨⟨⟨op, fn, rd, r1, r2, imm, wid, wo, us⟩, ok, rfl, hs⟩, qk⟩; have HSw1 := Lib.hid hs; clear hs; dsimp only [Ins.v]; have HKw1 := Lib.hid qk; obtain ⟨qw10, qw11, qw12, qw13, qw14, qw15, qw16, qw17, qw18, qw19, qw110⟩ := qk.c11 (b := w.heap.size) (.int .i64 0) (.int .i64 0) (.int .i64 0) (.int .i64 0) (.int .i64 0) (.int .i64 0) (.int .i64 0) (.bool false) (.bool false) (.int .i64 0) (.int .u32 0); obtain ⟨zw10, zw11, zw12, zw13, zw14, zw15, zw16, zw17, zw18, zw19, zw110⟩ := qk.z11 (b := w.heap.size); have sz := HKw1.out.size; (try simp at sz); have ql0 : w.heap.size < w1.heap.size := (by omega); have ql1 : ¬ w.heap.size = w1.heap.size := (by omega); have ql2 : ¬ w1.heap.size = w.heap.size := (by omega); clear qk))
  obtain ⟨nb, hnb⟩ : ∃ nb, narB ⟨op, fn, rd, r1, r2, imm, wid, true, us⟩ = nb := ⟨_, rfl⟩
  have HN := Lib.hid hnb
  clear hnb
  have R1 := R0.kp HKw1.out (by simp)
  have A1 : At w1.heap.size [.int .i64 op, .int .i64 fn, .int .i64 rd, .int .i64 r1, .int .i64 r2, .int .i64 imm, .int .i64 wid, .bool true, .bool us, .int .i64 0, .int .u32 0] (w1.alloc (.cells #[.int .i64 op, .int .i64 fn, .int .i64 rd, .int .i64 r1, .int .i64 r2, .int .i64 imm, .int .i64 wid, .bool true, .bool us, .int .i64 0, .int .u32 0] 24)) := At.new' w1 _ _ rfl
  have R2 : Rm w.heap.size 11 (w1.alloc (.cells #[.int .i64 op, .int .i64 fn, .int .i64 rd, .int .i64 r1, .int .i64 r2, .int .i64 imm, .int .i64 wid, .bool true, .bool us, .int .i64 0, .int .u32 0] 24)) := R1.alloc _ _
  have kb : Bh w (w1.heap.size + 1) (w1.alloc (.cells #[.int .i64 op, .int .i64 fn, .int .i64 rd, .int .i64 r1, .int .i64 r2, .int .i64 imm, .int .i64 wid, .bool true, .bool us, .int .i64 0, .int .u32 0] 24)) := ⟨(((Kp.refl w).allocs _ _).trans HKw1.out).allocs _ _, by omega, by simp⟩
  obtain ⟨W2, hW⟩ : ∃ W2, (w1.alloc (.cells #[.int .i64 op, .int .i64 fn, .int .i64 rd, .int .i64 r1, .int .i64 r2, .int .i64 imm, .int .i64 wid, .bool true, .bool us, .int .i64 0, .int .u32 0] 24)) = W2 := ⟨_, rfl⟩
  rw [hW] at A1 R2 kb ⊢
  clear hW
  have d0 := A1 0 _ rfl; have d1 := A1 1 _ rfl; have d2 := A1 2 _ rfl; have d3 := A1 3 _ rfl; have d4 := A1 4 _ rfl; have d5 := A1 5 _ rfl; have d6 := A1 6 _ rfl; have d7 := A1 7 _ rfl; have d8 := A1 8 _ rfl; have d9 := A1 9 _ rfl; have d10 := A1 10 _ rfl
  obtain ⟨⟨_, _⟩, _, ⟨_, _⟩, _, ⟨_, _⟩, _, ⟨_, _⟩, _, ⟨_, _⟩, _, ⟨_, _⟩, _, ⟨_, _⟩, _, ⟨_, _⟩, _, ⟨_, _⟩, _, ⟨_, _⟩, _, ⟨_, _⟩, _⟩ := R2.out11
  cases ok
  · refine wp_region_held_drew (S := (fun w' => At (w1.heap.size) [.int .i64 op, .int .i64 fn, .int .i64 rd, .int .i64 r1, .int .i64 r2, .int .i64 imm, .int .i64 wid, .bool true, .bool us, .int .i64 0, .int .u32 0] w' ∧ Rm (w.heap.size) 11 w' ∧ Bh w (w1.heap.size + 1) w')) (by kernel_rfl) ⟨At.drew (by with_reducible assumption), Rm.drew (by with_reducible assumption), Bh.drew (by with_reducible assumption)⟩ (fun hS => ?_)
    (refine tk 0 ?_ rfl (Or.inl ⟨by rfl, ?_⟩) hS ?_; rotate_left; focus (intro w' hSw; obtain ⟨s0, s1, sb⟩ := hSw; have c0_0 := s0 0 _ rfl; have c0_1 := s0 1 _ rfl; have c0_2 := s0 2 _ rfl; have c0_3 := s0 3 _ rfl; have c0_4 := s0 4 _ rfl; have c0_5 := s0 5 _ rfl; have c0_6 := s0 6 _ rfl; have c0_7 := s0 7 _ rfl; have c0_8 := s0 8 _ rfl; have c0_9 := s0 9 _ rfl; have c0_10 := s0 10 _ rfl; go_simp <;> try with_reducible rfl))
    try simp only [Act.put, zA, zB, zC]
    (refine tk 1 ?_ rfl (Or.inl ⟨by rfl, ?_⟩) hS ?_; rotate_left; focus (intro w' hSw; obtain ⟨s0, s1, sb⟩ := hSw; go_simp <;> try with_reducible rfl))
    try simp only [Act.put, zA, zB, zC]
    (refine tk 2 ?_ rfl (Or.inl ⟨by rfl, ?_⟩) hS ?_; rotate_left; focus (intro w' hSw; obtain ⟨s0, s1, sb⟩ := hSw; go_simp <;> try with_reducible rfl))
    try simp only [Act.put, zA, zB, zC]
    (refine tk 3 ?_ rfl ?_ hS ?_; rotate_left; focus (first | (refine Or.inl ⟨by rfl, ?_⟩; intro w' hSw; obtain ⟨s0, s1, sb⟩ := hSw; have c0_0 := s0 0 _ rfl; have c0_1 := s0 1 _ rfl; have c0_2 := s0 2 _ rfl; have c0_3 := s0 3 _ rfl; have c0_4 := s0 4 _ rfl; have c0_5 := s0 5 _ rfl; have c0_6 := s0 6 _ rfl; have c0_7 := s0 7 _ rfl; have c0_8 := s0 8 _ rfl; have c0_9 := s0 9 _ rfl; have c0_10 := s0 10 _ rfl; go_simp <;> try with_reducible rfl) | (refine Or.inr ⟨by rfl, ?_⟩; rfl)))
    try simp only [Act.put, zA, zB, zC]
    refine rdy 4 rfl (fun K hK => ?_)
    (first | (refine take_if (by rfl) ?_; obtain ⟨s0, s1, sb⟩ := hS; go_simp; (with_reducible refine (isNarrow_w _ _ _ _ _ _ _ _ _ _ HN.out _).mono ?_); rintro e' w' ⟨rfl, qk⟩; have t0 := At.kp s0 qk (Nat.lt_of_lt_of_le (show w1.heap.size < w1.heap.size + 1 by omega) sb.le); have t1 := Rm.kp s1 qk (Nat.lt_of_lt_of_le (show w.heap.size < w1.heap.size + 1 by omega) sb.le); have tb := Bh.step sb qk; clear qk; refine hK.out _ _ ⟨t0, t1, tb⟩ (fun hS => ?_)) | (refine skip_if (by rfl) ?_; refine hK.out _ _ hS (fun hS => ?_)))
    clear hK K
    try simp only [Act.put, zA, zB, zC]
    (refine tk 5 ?_ rfl (Or.inl ⟨by rfl, ?_⟩) hS ?_; rotate_left; focus (intro w' hSw; obtain ⟨s0, s1, sb⟩ := hSw; go_simp <;> try with_reducible rfl))
    try simp only [Act.put, zA, zB, zC]
    refine rdy 6 rfl (fun K hK => ?_)
    obtain ⟨s0, s1, sb⟩ := hS
    have c0_0 := s0 0 _ rfl; have c0_1 := s0 1 _ rfl; have c0_2 := s0 2 _ rfl; have c0_3 := s0 3 _ rfl; have c0_4 := s0 4 _ rfl; have c0_5 := s0 5 _ rfl; have c0_6 := s0 6 _ rfl; have c0_7 := s0 7 _ rfl; have c0_8 := s0 8 _ rfl; have c0_9 := s0 9 _ rfl; have c0_10 := s0 10 _ rfl
    obtain ⟨⟨_, _⟩, _, ⟨_, _⟩, _, ⟨_, _⟩, _, ⟨_, _⟩, _, ⟨_, _⟩, _, ⟨_, _⟩, _, ⟨_, _⟩, _, ⟨_, _⟩, _, ⟨_, _⟩, _, ⟨_, _⟩, _, ⟨_, _⟩, _⟩ := s1.out11; 
    go_simp
    refine hK.out _ _ ⟨?_, ?_, ?_⟩ (fun hS => ?_)
    · repeat' (first | with_reducible assumption | (with_reducible refine At.set ?_ ?_ _) | with_reducible refine At.drew ?_)
      all_goals first | with_reducible assumption | (dsimp only; omega)
    · repeat' (first | with_reducible assumption | (with_reducible refine Rm.set ?_ _) | with_reducible refine Rm.drew ?_)
      all_goals first | with_reducible assumption | (dsimp only; omega)
    · repeat' (first | with_reducible assumption | with_reducible refine Bh.set2 ?_ ?_ | with_reducible refine Bh.drew ?_)
      all_goals first | with_reducible assumption | (dsimp only; omega)
    clear hK K
    try simp only [Act.put, zA, zB, zC]
    (refine tk 7 ?_ rfl (Or.inl ⟨by rfl, ?_⟩) hS ?_; rotate_left; focus (intro w' hSw; obtain ⟨s0, s1, sb⟩ := hSw; go_simp <;> try with_reducible rfl))
    try simp only [Act.put, zA, zB, zC]
    refine wpAnyH_done (by kernel_rfl) ?_ _
    obtain ⟨s0, s1, sb⟩ := hS
    have c0_0 := s0 0 _ rfl; have c0_1 := s0 1 _ rfl; have c0_2 := s0 2 _ rfl; have c0_3 := s0 3 _ rfl; have c0_4 := s0 4 _ rfl; have c0_5 := s0 5 _ rfl; have c0_6 := s0 6 _ rfl; have c0_7 := s0 7 _ rfl; have c0_8 := s0 8 _ rfl; have c0_9 := s0 9 _ rfl; have c0_10 := s0 10 _ rfl
    go_wp2
    refine bodyPost_ret (v := .tuple #[Ins.v ⟨op, fn, rd, r1, r2, imm, wid, true, us⟩ 0 0, .bool false]) ?_ rfl ⟨RdP.mk ⟨op, fn, rd, r1, r2, imm, wid, true, us⟩ false rfl ?_, ?_⟩
    · simp [results, Tryz.results125, go_sem, Ins.v, *]
    · have hn := HN.out
      have hs := HSw1.out
      rw [hs]
      rfl
    · with_reducible exact sb.kp
  · refine wp_region_held_drew (S := (fun w' => At (w1.heap.size) [.int .i64 op, .int .i64 fn, .int .i64 rd, .int .i64 r1, .int .i64 r2, .int .i64 imm, .int .i64 wid, .bool true, .bool us, .int .i64 0, .int .u32 0] w' ∧ Rm (w.heap.size) 11 w' ∧ Bh w (w1.heap.size + 1) w')) (by kernel_rfl) ⟨At.drew (by with_reducible assumption), Rm.drew (by with_reducible assumption), Bh.drew (by with_reducible assumption)⟩ (fun hS => ?_)
    (refine tk 0 ?_ rfl (Or.inl ⟨by rfl, ?_⟩) hS ?_; rotate_left; focus (intro w' hSw; obtain ⟨s0, s1, sb⟩ := hSw; have c0_0 := s0 0 _ rfl; have c0_1 := s0 1 _ rfl; have c0_2 := s0 2 _ rfl; have c0_3 := s0 3 _ rfl; have c0_4 := s0 4 _ rfl; have c0_5 := s0 5 _ rfl; have c0_6 := s0 6 _ rfl; have c0_7 := s0 7 _ rfl; have c0_8 := s0 8 _ rfl; have c0_9 := s0 9 _ rfl; have c0_10 := s0 10 _ rfl; go_simp <;> try with_reducible rfl))
    try simp only [Act.put, zA, zB, zC]
    (refine tk 1 ?_ rfl (Or.inl ⟨by rfl, ?_⟩) hS ?_; rotate_left; focus (intro w' hSw; obtain ⟨s0, s1, sb⟩ := hSw; go_simp <;> try with_reducible rfl))
    try simp only [Act.put, zA, zB, zC]
    (refine tk 2 ?_ rfl (Or.inl ⟨by rfl, ?_⟩) hS ?_; rotate_left; focus (intro w' hSw; obtain ⟨s0, s1, sb⟩ := hSw; go_simp <;> try with_reducible rfl))
    try simp only [Act.put, zA, zB, zC]
    (refine tk 3 ?_ rfl ?_ hS ?_; rotate_left; focus (first | (refine Or.inl ⟨by rfl, ?_⟩; intro w' hSw; obtain ⟨s0, s1, sb⟩ := hSw; have c0_0 := s0 0 _ rfl; have c0_1 := s0 1 _ rfl; have c0_2 := s0 2 _ rfl; have c0_3 := s0 3 _ rfl; have c0_4 := s0 4 _ rfl; have c0_5 := s0 5 _ rfl; have c0_6 := s0 6 _ rfl; have c0_7 := s0 7 _ rfl; have c0_8 := s0 8 _ rfl; have c0_9 := s0 9 _ rfl; have c0_10 := s0 10 _ rfl; go_simp <;> try with_reducible rfl) | (refine Or.inr ⟨by rfl, ?_⟩; rfl)))
    try simp only [Act.put, zA, zB, zC]
    refine rdy 4 rfl (fun K hK => ?_)
    (first | (refine take_if (by rfl) ?_; obtain ⟨s0, s1, sb⟩ := hS; go_simp; (with_reducible refine (isNarrow_w _ _ _ _ _ _ _ _ _ _ HN.out _).mono ?_); rintro e' w' ⟨rfl, qk⟩; have t0 := At.kp s0 qk (Nat.lt_of_lt_of_le (show w1.heap.size < w1.heap.size + 1 by omega) sb.le); have t1 := Rm.kp s1 qk (Nat.lt_of_lt_of_le (show w.heap.size < w1.heap.size + 1 by omega) sb.le); have tb := Bh.step sb qk; clear qk; refine hK.out _ _ ⟨t0, t1, tb⟩ (fun hS => ?_)) | (refine skip_if (by rfl) ?_; refine hK.out _ _ hS (fun hS => ?_)))
    clear hK K
    try simp only [Act.put, zA, zB, zC]
    (refine tk 5 ?_ rfl (Or.inl ⟨by rfl, ?_⟩) hS ?_; rotate_left; focus (intro w' hSw; obtain ⟨s0, s1, sb⟩ := hSw; go_simp <;> try with_reducible rfl))
    try simp only [Act.put, zA, zB, zC]
    refine rdy 6 rfl (fun K hK => ?_)
    obtain ⟨s0, s1, sb⟩ := hS
    have c0_0 := s0 0 _ rfl; have c0_1 := s0 1 _ rfl; have c0_2 := s0 2 _ rfl; have c0_3 := s0 3 _ rfl; have c0_4 := s0 4 _ rfl; have c0_5 := s0 5 _ rfl; have c0_6 := s0 6 _ rfl; have c0_7 := s0 7 _ rfl; have c0_8 := s0 8 _ rfl; have c0_9 := s0 9 _ rfl; have c0_10 := s0 10 _ rfl
    obtain ⟨⟨_, _⟩, _, ⟨_, _⟩, _, ⟨_, _⟩, _, ⟨_, _⟩, _, ⟨_, _⟩, _, ⟨_, _⟩, _, ⟨_, _⟩, _, ⟨_, _⟩, _, ⟨_, _⟩, _, ⟨_, _⟩, _, ⟨_, _⟩, _⟩ := s1.out11; 
    go_simp
    refine hK.out _ _ ⟨?_, ?_, ?_⟩ (fun hS => ?_)
    · repeat' (first | with_reducible assumption | (with_reducible refine At.set ?_ ?_ _) | with_reducible refine At.drew ?_)
      all_goals first | with_reducible assumption | (dsimp only; omega)
    · repeat' (first | with_reducible assumption | (with_reducible refine Rm.set ?_ _) | with_reducible refine Rm.drew ?_)
      all_goals first | with_reducible assumption | (dsimp only; omega)
    · repeat' (first | with_reducible assumption | with_reducible refine Bh.set2 ?_ ?_ | with_reducible refine Bh.drew ?_)
      all_goals first | with_reducible assumption | (dsimp only; omega)
    clear hK K
    try simp only [Act.put, zA, zB, zC]
    (refine tk 7 ?_ rfl (Or.inl ⟨by rfl, ?_⟩) hS ?_; rotate_left; focus (intro w' hSw; obtain ⟨s0, s1, sb⟩ := hSw; go_simp <;> try with_reducible rfl))
    try simp only [Act.put, zA, zB, zC]
    refine wpAnyH_done (by kernel_rfl) ?_ _
    obtain ⟨s0, s1, sb⟩ := hS
    have c0_0 := s0 0 _ rfl; have c0_1 := s0 1 _ rfl; have c0_2 := s0 2 _ rfl; have c0_3 := s0 3 _ rfl; have c0_4 := s0 4 _ rfl; have c0_5 := s0 5 _ rfl; have c0_6 := s0 6 _ rfl; have c0_7 := s0 7 _ rfl; have c0_8 := s0 8 _ rfl; have c0_9 := s0 9 _ rfl; have c0_10 := s0 10 _ rfl
    go_wp2
    refine bodyPost_ret (v := .tuple #[Ins.v ⟨op, fn, rd, r1, r2, imm, wid, true, us⟩ 0 0, .bool nb]) ?_ rfl ⟨RdP.mk ⟨op, fn, rd, r1, r2, imm, wid, true, us⟩ nb rfl ?_, ?_⟩
    · simp [results, Tryz.results125, go_sem, Ins.v, *]
    · have hn := HN.out
      have hs := HSw1.out
      rw [hs]
      cases nb <;> simp [nar, hn]
    · with_reducible exact sb.kp
set_option maxRecDepth 4000 in
set_option maxHeartbeats 8000000 in
theorem narrowAlu_w (x : Int) (x0 : 0 ≤ x) (x1 : x < 4294967296) (w : World) (B : Nat) (hB : B < w.heap.size) (hc : w.cell? ⟨B, 0, none⟩ = some (.func (.func 79) #[] #[])) :
    Calls Tryz.prog 125 #[.int .u32 x, .pointer (some ⟨B, 0, none⟩)] w fun e w' => RdP e (nar (spAlu x)) ∧ Kp w w' := by
  have R0 : Rm w.heap.size 11 (w.alloc (.cells #[.int .i64 0, .int .i64 0, .int .i64 0, .int .i64 0, .int .i64 0, .int .i64 0, .int .i64 0, .bool false, .bool false, .int .i64 0, .int .u32 0] 24)) := Rm.new' w [.int .i64 0, .int .i64 0, .int .i64 0, .int .i64 0, .int .i64 0, .int .i64 0, .int .i64 0, .bool false, .bool false, .int .i64 0, .int .u32 0] 24 11 (by simp) (by simp)
  have hc0 : (w.alloc (.cells #[.int .i64 0, .int .i64 0, .int .i64 0, .int .i64 0, .int .i64 0, .int .i64 0, .int .i64 0, .bool false, .bool false, .int .i64 0, .int .u32 0] 24)).cell? ⟨B, 0, none⟩ = some (.func (.func 79) #[] #[]) := by rw [World.cell?_alloc_some w _ _ (by rw [hc]; rfl)]; exact hc
  go_enter Tryz.func125, Tryz.ntmps125
  go_wp2_with (first | (go_at_call 79; (with_reducible refine (alu_w x x0 x1 _).mono ?_); rintro e' w1 ⟨⟨⟨op, fn, rd, r1, r2, imm, wid, wo, us⟩, ok, rfl, hs⟩, qk⟩; have HSw1 := Lib.hid hs; clear hs; dsimp only [Ins.v]; have HKw1 := Lib.hid qk; obtain ⟨qw10, qw11, qw12, qw13, qw14, qw15, qw16, qw17, qw18, qw19, qw110⟩ := qk.c11 (b := w.heap.size) (.int .i64 0) (.int .i64 0) (.int .i64 0) (.int .i64 0) (.int .i64 0) (.int .i64 0) (.int .i64 0) (.bool false) (.bool false) (.int .i64 0) (.int .u32 0); obtain ⟨zw10, zw11, zw12, zw13, zw14, zw15, zw16, zw17, zw18, zw19, zw110⟩ := qk.z11 (b := w.heap.size); have sz := HKw1.out.size; (try simp at sz); have ql0 : w.heap.size < w1.heap.size := (by omega); have ql1 : ¬ w.heap.size = w1.heap.size := (by omega); have ql2 : ¬ w1.heap.size = w.heap.size := (by omega); clear qk))
  obtain ⟨nb, hnb⟩ : ∃ nb, narB ⟨op, fn, rd, r1, r2, imm, wid, true, us⟩ = nb := ⟨_, rfl⟩
  have HN := Lib.hid hnb
  clear hnb
  have R1 := R0.kp HKw1.out (by simp)
  have A1 : At w1.heap.size [.int .i64 op, .int .i64 fn, .int .i64 rd, .int .i64 r1, .int .i64 r2, .int .i64 imm, .int .i64 wid, .bool true, .bool us, .int .i64 0, .int .u32 0] (w1.alloc (.cells #[.int .i64 op, .int .i64 fn, .int .i64 rd, .int .i64 r1, .int .i64 r2, .int .i64 imm, .int .i64 wid, .bool true, .bool us, .int .i64 0, .int .u32 0] 24)) := At.new' w1 _ _ rfl
  have R2 : Rm w.heap.size 11 (w1.alloc (.cells #[.int .i64 op, .int .i64 fn, .int .i64 rd, .int .i64 r1, .int .i64 r2, .int .i64 imm, .int .i64 wid, .bool true, .bool us, .int .i64 0, .int .u32 0] 24)) := R1.alloc _ _
  have kb : Bh w (w1.heap.size + 1) (w1.alloc (.cells #[.int .i64 op, .int .i64 fn, .int .i64 rd, .int .i64 r1, .int .i64 r2, .int .i64 imm, .int .i64 wid, .bool true, .bool us, .int .i64 0, .int .u32 0] 24)) := ⟨(((Kp.refl w).allocs _ _).trans HKw1.out).allocs _ _, by omega, by simp⟩
  obtain ⟨W2, hW⟩ : ∃ W2, (w1.alloc (.cells #[.int .i64 op, .int .i64 fn, .int .i64 rd, .int .i64 r1, .int .i64 r2, .int .i64 imm, .int .i64 wid, .bool true, .bool us, .int .i64 0, .int .u32 0] 24)) = W2 := ⟨_, rfl⟩
  rw [hW] at A1 R2 kb ⊢
  clear hW
  have d0 := A1 0 _ rfl; have d1 := A1 1 _ rfl; have d2 := A1 2 _ rfl; have d3 := A1 3 _ rfl; have d4 := A1 4 _ rfl; have d5 := A1 5 _ rfl; have d6 := A1 6 _ rfl; have d7 := A1 7 _ rfl; have d8 := A1 8 _ rfl; have d9 := A1 9 _ rfl; have d10 := A1 10 _ rfl
  obtain ⟨⟨_, _⟩, _, ⟨_, _⟩, _, ⟨_, _⟩, _, ⟨_, _⟩, _, ⟨_, _⟩, _, ⟨_, _⟩, _, ⟨_, _⟩, _, ⟨_, _⟩, _, ⟨_, _⟩, _, ⟨_, _⟩, _, ⟨_, _⟩, _⟩ := R2.out11
  cases ok
  · refine wp_region_held_drew (S := (fun w' => At (w1.heap.size) [.int .i64 op, .int .i64 fn, .int .i64 rd, .int .i64 r1, .int .i64 r2, .int .i64 imm, .int .i64 wid, .bool true, .bool us, .int .i64 0, .int .u32 0] w' ∧ Rm (w.heap.size) 11 w' ∧ Bh w (w1.heap.size + 1) w')) (by kernel_rfl) ⟨At.drew (by with_reducible assumption), Rm.drew (by with_reducible assumption), Bh.drew (by with_reducible assumption)⟩ (fun hS => ?_)
    (refine tk 0 ?_ rfl (Or.inl ⟨by rfl, ?_⟩) hS ?_; rotate_left; focus (intro w' hSw; obtain ⟨s0, s1, sb⟩ := hSw; have c0_0 := s0 0 _ rfl; have c0_1 := s0 1 _ rfl; have c0_2 := s0 2 _ rfl; have c0_3 := s0 3 _ rfl; have c0_4 := s0 4 _ rfl; have c0_5 := s0 5 _ rfl; have c0_6 := s0 6 _ rfl; have c0_7 := s0 7 _ rfl; have c0_8 := s0 8 _ rfl; have c0_9 := s0 9 _ rfl; have c0_10 := s0 10 _ rfl; go_simp <;> try with_reducible rfl))
    try simp only [Act.put, zA, zB, zC]
    (refine tk 1 ?_ rfl (Or.inl ⟨by rfl, ?_⟩) hS ?_; rotate_left; focus (intro w' hSw; obtain ⟨s0, s1, sb⟩ := hSw; go_simp <;> try with_reducible rfl))
    try simp only [Act.put, zA, zB, zC]
    (refine tk 2 ?_ rfl (Or.inl ⟨by rfl, ?_⟩) hS ?_; rotate_left; focus (intro w' hSw; obtain ⟨s0, s1, sb⟩ := hSw; go_simp <;> try with_reducible rfl))
    try simp only [Act.put, zA, zB, zC]
    (refine tk 3 ?_ rfl ?_ hS ?_; rotate_left; focus (first | (refine Or.inl ⟨by rfl, ?_⟩; intro w' hSw; obtain ⟨s0, s1, sb⟩ := hSw; have c0_0 := s0 0 _ rfl; have c0_1 := s0 1 _ rfl; have c0_2 := s0 2 _ rfl; have c0_3 := s0 3 _ rfl; have c0_4 := s0 4 _ rfl; have c0_5 := s0 5 _ rfl; have c0_6 := s0 6 _ rfl; have c0_7 := s0 7 _ rfl; have c0_8 := s0 8 _ rfl; have c0_9 := s0 9 _ rfl; have c0_10 := s0 10 _ rfl; go_simp <;> try with_reducible rfl) | (refine Or.inr ⟨by rfl, ?_⟩; rfl)))
    try simp only [Act.put, zA, zB, zC]
    refine rdy 4 rfl (fun K hK => ?_)
    (first | (refine take_if (by rfl) ?_; obtain ⟨s0, s1, sb⟩ := hS; go_simp; (with_reducible refine (isNarrow_w _ _ _ _ _ _ _ _ _ _ HN.out _).mono ?_); rintro e' w' ⟨rfl, qk⟩; have t0 := At.kp s0 qk (Nat.lt_of_lt_of_le (show w1.heap.size < w1.heap.size + 1 by omega) sb.le); have t1 := Rm.kp s1 qk (Nat.lt_of_lt_of_le (show w.heap.size < w1.heap.size + 1 by omega) sb.le); have tb := Bh.step sb qk; clear qk; refine hK.out _ _ ⟨t0, t1, tb⟩ (fun hS => ?_)) | (refine skip_if (by rfl) ?_; refine hK.out _ _ hS (fun hS => ?_)))
    clear hK K
    try simp only [Act.put, zA, zB, zC]
    (refine tk 5 ?_ rfl (Or.inl ⟨by rfl, ?_⟩) hS ?_; rotate_left; focus (intro w' hSw; obtain ⟨s0, s1, sb⟩ := hSw; go_simp <;> try with_reducible rfl))
    try simp only [Act.put, zA, zB, zC]
    refine rdy 6 rfl (fun K hK => ?_)
    obtain ⟨s0, s1, sb⟩ := hS
    have c0_0 := s0 0 _ rfl; have c0_1 := s0 1 _ rfl; have c0_2 := s0 2 _ rfl; have c0_3 := s0 3 _ rfl; have c0_4 := s0 4 _ rfl; have c0_5 := s0 5 _ rfl; have c0_6 := s0 6 _ rfl; have c0_7 := s0 7 _ rfl; have c0_8 := s0 8 _ rfl; have c0_9 := s0 9 _ rfl; have c0_10 := s0 10 _ rfl
    obtain ⟨⟨_, _⟩, _, ⟨_, _⟩, _, ⟨_, _⟩, _, ⟨_, _⟩, _, ⟨_, _⟩, _, ⟨_, _⟩, _, ⟨_, _⟩, _, ⟨_, _⟩, _, ⟨_, _⟩, _, ⟨_, _⟩, _, ⟨_, _⟩, _⟩ := s1.out11; 
    go_simp
    refine hK.out _ _ ⟨?_, ?_, ?_⟩ (fun hS => ?_)
    · repeat' (first | with_reducible assumption | (with_reducible refine At.set ?_ ?_ _) | with_reducible refine At.drew ?_)
      all_goals first | with_reducible assumption | (dsimp only; omega)
    · repeat' (first | with_reducible assumption | (with_reducible refine Rm.set ?_ _) | with_reducible refine Rm.drew ?_)
      all_goals first | with_reducible assumption | (dsimp only; omega)
    · repeat' (first | with_reducible assumption | with_reducible refine Bh.set2 ?_ ?_ | with_reducible refine Bh.drew ?_)
      all_goals first | with_reducible assumption | (dsimp only; omega)
    clear hK K
    try simp only [Act.put, zA, zB, zC]
    (refine tk 7 ?_ rfl (Or.inl ⟨by rfl, ?_⟩) hS ?_; rotate_left; focus (intro w' hSw; obtain ⟨s0, s1, sb⟩ := hSw; go_simp <;> try with_reducible rfl))
    try simp only [Act.put, zA, zB, zC]
    refine wpAnyH_done (by kernel_rfl) ?_ _
    obtain ⟨s0, s1, sb⟩ := hS
    have c0_0 := s0 0 _ rfl; have c0_1 := s0 1 _ rfl; have c0_2 := s0 2 _ rfl; have c0_3 := s0 3 _ rfl; have c0_4 := s0 4 _ rfl; have c0_5 := s0 5 _ rfl; have c0_6 := s0 6 _ rfl; have c0_7 := s0 7 _ rfl; have c0_8 := s0 8 _ rfl; have c0_9 := s0 9 _ rfl; have c0_10 := s0 10 _ rfl
    go_wp2
    refine bodyPost_ret (v := .tuple #[Ins.v ⟨op, fn, rd, r1, r2, imm, wid, true, us⟩ 0 0, .bool false]) ?_ rfl ⟨RdP.mk ⟨op, fn, rd, r1, r2, imm, wid, true, us⟩ false rfl ?_, ?_⟩
    · simp [results, Tryz.results125, go_sem, Ins.v, *]
    · have hn := HN.out
      have hs := HSw1.out
      rw [hs]
      rfl
    · with_reducible exact sb.kp
  · refine wp_region_held_drew (S := (fun w' => At (w1.heap.size) [.int .i64 op, .int .i64 fn, .int .i64 rd, .int .i64 r1, .int .i64 r2, .int .i64 imm, .int .i64 wid, .bool true, .bool us, .int .i64 0, .int .u32 0] w' ∧ Rm (w.heap.size) 11 w' ∧ Bh w (w1.heap.size + 1) w')) (by kernel_rfl) ⟨At.drew (by with_reducible assumption), Rm.drew (by with_reducible assumption), Bh.drew (by with_reducible assumption)⟩ (fun hS => ?_)
    (refine tk 0 ?_ rfl (Or.inl ⟨by rfl, ?_⟩) hS ?_; rotate_left; focus (intro w' hSw; obtain ⟨s0, s1, sb⟩ := hSw; have c0_0 := s0 0 _ rfl; have c0_1 := s0 1 _ rfl; have c0_2 := s0 2 _ rfl; have c0_3 := s0 3 _ rfl; have c0_4 := s0 4 _ rfl; have c0_5 := s0 5 _ rfl; have c0_6 := s0 6 _ rfl; have c0_7 := s0 7 _ rfl; have c0_8 := s0 8 _ rfl; have c0_9 := s0 9 _ rfl; have c0_10 := s0 10 _ rfl; go_simp <;> try with_reducible rfl))
    try simp only [Act.put, zA, zB, zC]
    (refine tk 1 ?_ rfl (Or.inl ⟨by rfl, ?_⟩) hS ?_; rotate_left; focus (intro w' hSw; obtain ⟨s0, s1, sb⟩ := hSw; go_simp <;> try with_reducible rfl))
    try simp only [Act.put, zA, zB, zC]
    (refine tk 2 ?_ rfl (Or.inl ⟨by rfl, ?_⟩) hS ?_; rotate_left; focus (intro w' hSw; obtain ⟨s0, s1, sb⟩ := hSw; go_simp <;> try with_reducible rfl))
    try simp only [Act.put, zA, zB, zC]
    (refine tk 3 ?_ rfl ?_ hS ?_; rotate_left; focus (first | (refine Or.inl ⟨by rfl, ?_⟩; intro w' hSw; obtain ⟨s0, s1, sb⟩ := hSw; have c0_0 := s0 0 _ rfl; have c0_1 := s0 1 _ rfl; have c0_2 := s0 2 _ rfl; have c0_3 := s0 3 _ rfl; have c0_4 := s0 4 _ rfl; have c0_5 := s0 5 _ rfl; have c0_6 := s0 6 _ rfl; have c0_7 := s0 7 _ rfl; have c0_8 := s0 8 _ rfl; have c0_9 := s0 9 _ rfl; have c0_10 := s0 10 _ rfl; go_simp <;> try with_reducible rfl) | (refine Or.inr ⟨by rfl, ?_⟩; rfl)))
    try simp only [Act.put, zA, zB, zC]
    refine rdy 4 rfl (fun K hK => ?_)
    (first | (refine take_if (by rfl) ?_; obtain ⟨s0, s1, sb⟩ := hS; go_simp; (with_reducible refine (isNarrow_w _ _ _ _ _ _ _ _ _ _ HN.out _).mono ?_); rintro e' w' ⟨rfl, qk⟩; have t0 := At.kp s0 qk (Nat.lt_of_lt_of_le (show w1.heap.size < w1.heap.size + 1 by omega) sb.le); have t1 := Rm.kp s1 qk (Nat.lt_of_lt_of_le (show w.heap.size < w1.heap.size + 1 by omega) sb.le); have tb := Bh.step sb qk; clear qk; refine hK.out _ _ ⟨t0, t1, tb⟩ (fun hS => ?_)) | (refine skip_if (by rfl) ?_; refine hK.out _ _ hS (fun hS => ?_)))
    clear hK K
    try simp only [Act.put, zA, zB, zC]
    (refine tk 5 ?_ rfl (Or.inl ⟨by rfl, ?_⟩) hS ?_; rotate_left; focus (intro w' hSw; obtain ⟨s0, s1, sb⟩ := hSw; go_simp <;> try with_reducible rfl))
    try simp only [Act.put, zA, zB, zC]
    refine rdy 6 rfl (fun K hK => ?_)
    obtain ⟨s0, s1, sb⟩ := hS
    have c0_0 := s0 0 _ rfl; have c0_1 := s0 1 _ rfl; have c0_2 := s0 2 _ rfl; have c0_3 := s0 3 _ rfl; have c0_4 := s0 4 _ rfl; have c0_5 := s0 5 _ rfl; have c0_6 := s0 6 _ rfl; have c0_7 := s0 7 _ rfl; have c0_8 := s0 8 _ rfl; have c0_9 := s0 9 _ rfl; have c0_10 := s0 10 _ rfl
    obtain ⟨⟨_, _⟩, _, ⟨_, _⟩, _, ⟨_, _⟩, _, ⟨_, _⟩, _, ⟨_, _⟩, _, ⟨_, _⟩, _, ⟨_, _⟩, _, ⟨_, _⟩, _, ⟨_, _⟩, _, ⟨_, _⟩, _, ⟨_, _⟩, _⟩ := s1.out11; 
    go_simp
    refine hK.out _ _ ⟨?_, ?_, ?_⟩ (fun hS => ?_)
    · repeat' (first | with_reducible assumption | (with_reducible refine At.set ?_ ?_ _) | with_reducible refine At.drew ?_)
      all_goals first | with_reducible assumption | (dsimp only; omega)
    · repeat' (first | with_reducible assumption | (with_reducible refine Rm.set ?_ _) | with_reducible refine Rm.drew ?_)
      all_goals first | with_reducible assumption | (dsimp only; omega)
    · repeat' (first | with_reducible assumption | with_reducible refine Bh.set2 ?_ ?_ | with_reducible refine Bh.drew ?_)
      all_goals first | with_reducible assumption | (dsimp only; omega)
    clear hK K
    try simp only [Act.put, zA, zB, zC]
    (refine tk 7 ?_ rfl (Or.inl ⟨by rfl, ?_⟩) hS ?_; rotate_left; focus (intro w' hSw; obtain ⟨s0, s1, sb⟩ := hSw; go_simp <;> try with_reducible rfl))
    try simp only [Act.put, zA, zB, zC]
    refine wpAnyH_done (by kernel_rfl) ?_ _
    obtain ⟨s0, s1, sb⟩ := hS
    have c0_0 := s0 0 _ rfl; have c0_1 := s0 1 _ rfl; have c0_2 := s0 2 _ rfl; have c0_3 := s0 3 _ rfl; have c0_4 := s0 4 _ rfl; have c0_5 := s0 5 _ rfl; have c0_6 := s0 6 _ rfl; have c0_7 := s0 7 _ rfl; have c0_8 := s0 8 _ rfl; have c0_9 := s0 9 _ rfl; have c0_10 := s0 10 _ rfl
    go_wp2
    refine bodyPost_ret (v := .tuple #[Ins.v ⟨op, fn, rd, r1, r2, imm, wid, true, us⟩ 0 0, .bool nb]) ?_ rfl ⟨RdP.mk ⟨op, fn, rd, r1, r2, imm, wid, true, us⟩ nb rfl ?_, ?_⟩
    · simp [results, Tryz.results125, go_sem, Ins.v, *]
    · have hn := HN.out
      have hs := HSw1.out
      rw [hs]
      cases nb <;> simp [nar, hn]
    · with_reducible exact sb.kp
end Go.Proofs.YtlfeandnpflaaaaGreatDoor
