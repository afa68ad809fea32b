/-
  Contracts of capops.Less and Mode: fewer permissions; another mode. No condition.
-/
import Derived.Test.YtkddgjaflcjhiaaCBase
import Derived.Test.YtkddgjaflcjhiaaCAt
namespace Go.Proofs.Ytkddgjaflcjhiaa
open Go.ChangeShapes Go.WideShapes Go.ChangeAt Go.RowKit
set_option linter.unusedVariables false
set_option linter.unusedSimpArgs false

set_option maxHeartbeats 4000000 in
set_option maxRecDepth 100000 in
theorem less_w (tg : Bool) (pe ty mo e b t : Int) (g : Bool) (a : Int) (k : Int) (v : Bool) (hv : openB tg ty = v) (w : World) :
    Calls Try.prog 42 #[.agg #[tg, pe, ty, mo, e, b, t, g, .int .u64 a], k] w fun e' w' => e' = .returned (.agg #[v, .int .i64 (bits .and .i64 pe k), ty, mo, e, b, t, g, .int .u64 a]) ∧ Kp w w' := by
  have hT : (tg && v) = v := by rw [← hv]; unfold openB; cases tg <;> simp
  have HT := Lib.hid hT
  have HO := Lib.hid hv
  clear hT hv
  have A0 : At (w.heap.size) [tg, pe, ty, mo, e, b, t, g, .int .u64 a] (((w.alloc (.cells #[tg, pe, ty, mo, e, b, t, g, .int .u64 a] 25)).alloc (.cells #[false, (), (), (), (), (), (), false, .int .u64 0] 25)).alloc (.cells #[tg, .int .i64 (bits .and .i64 pe k), ty, mo, e, b, t, g, .int .u64 a] 25)) := (((At.new' w [tg, pe, ty, mo, e, b, t, g, .int .u64 a] 25 (by simp)).alloc _).alloc _)
  have A1 : At (w.heap.size + 1) [false, (), (), (), (), (), (), false, .int .u64 0] (((w.alloc (.cells #[tg, pe, ty, mo, e, b, t, g, .int .u64 a] 25)).alloc (.cells #[false, (), (), (), (), (), (), false, .int .u64 0] 25)).alloc (.cells #[tg, .int .i64 (bits .and .i64 pe k), ty, mo, e, b, t, g, .int .u64 a] 25)) := ((At.new' (w.alloc (.cells #[tg, pe, ty, mo, e, b, t, g, .int .u64 a] 25)) [false, (), (), (), (), (), (), false, .int .u64 0] 25 (by simp)).alloc _)
  have R1 : Rm (w.heap.size + 1) 9 (((w.alloc (.cells #[tg, pe, ty, mo, e, b, t, g, .int .u64 a] 25)).alloc (.cells #[false, (), (), (), (), (), (), false, .int .u64 0] 25)).alloc (.cells #[tg, .int .i64 (bits .and .i64 pe k), ty, mo, e, b, t, g, .int .u64 a] 25)) := ((Rm.new' (w.alloc (.cells #[tg, pe, ty, mo, e, b, t, g, .int .u64 a] 25)) [false, (), (), (), (), (), (), false, .int .u64 0] 25 9 (by simp) (by simp)).alloc _ _)
  have A2 : At (w.heap.size + 1 + 1) [tg, .int .i64 (bits .and .i64 pe k), ty, mo, e, b, t, g, .int .u64 a] (((w.alloc (.cells #[tg, pe, ty, mo, e, b, t, g, .int .u64 a] 25)).alloc (.cells #[false, (), (), (), (), (), (), false, .int .u64 0] 25)).alloc (.cells #[tg, .int .i64 (bits .and .i64 pe k), ty, mo, e, b, t, g, .int .u64 a] 25)) := (At.new' ((w.alloc (.cells #[tg, pe, ty, mo, e, b, t, g, .int .u64 a] 25)).alloc (.cells #[false, (), (), (), (), (), (), false, .int .u64 0] 25)) [tg, .int .i64 (bits .and .i64 pe k), ty, mo, e, b, t, g, .int .u64 a] 25 (by simp))
  have kb : Bh w (w.heap.size + 3) (((w.alloc (.cells #[tg, pe, ty, mo, e, b, t, g, .int .u64 a] 25)).alloc (.cells #[false, (), (), (), (), (), (), false, .int .u64 0] 25)).alloc (.cells #[tg, .int .i64 (bits .and .i64 pe k), ty, mo, e, b, t, g, .int .u64 a] 25)) := ⟨((((Kp.refl w).allocs _ _).allocs _ _).allocs _ _), by simp, by simp⟩
  go_enter Try.func42, Try.ntmps42
  go_upto_region 3 with fail
  refine wp_region_held_drew (S := (fun w' => At (w.heap.size) [tg, pe, ty, mo, e, b, t, g, .int .u64 a] w' ∧ At (w.heap.size + 1 + 1) [tg, .int .i64 (bits .and .i64 pe k), ty, mo, e, b, t, g, .int .u64 a] w' ∧ Rm (w.heap.size + 1) 9 w' ∧ Bh w (w.heap.size + 3) w')) (by kernel_rfl) ⟨At.drew (by with_reducible assumption), At.drew (by with_reducible assumption), Rm.drew (by with_reducible assumption), Bh.drew (by with_reducible assumption)⟩ (fun hS => ?_)
  (refine tk 0 ?_ rfl (Or.inl ⟨by rfl, ?_⟩) hS ?_; rotate_left; focus (intro w' hSw; obtain ⟨s0, s1, s2, sb⟩ := hSw; obtain ⟨_, _, _, _, _, _, _, _, _⟩ := s0.out9; obtain ⟨_, _, _, _, _, _, _, _, _⟩ := s1.out9; go_simp <;> try with_reducible rfl))
  try simp only [Act.put, zA, zB, zC]
  (refine tk 1 ?_ rfl (Or.inl ⟨by rfl, ?_⟩) hS ?_; rotate_left; focus (intro w' hSw; obtain ⟨s0, s1, s2, sb⟩ := hSw; obtain ⟨_, _, _, _, _, _, _, _, _⟩ := s0.out9; obtain ⟨_, _, _, _, _, _, _, _, _⟩ := s1.out9; go_simp <;> try with_reducible rfl))
  try simp only [Act.put, zA, zB, zC]
  refine rdy 2 rfl (fun K hK => ?_)
  (refine take_if (by rfl) ?_; obtain ⟨s0, s1, s2, sb⟩ := hS; go_simp; (with_reducible refine (open_w _ _ _ _ _ _ _ _ _ _ HO.out _).mono ?_); rintro e' w' ⟨rfl, qk⟩; have t0 := At.kp s0 qk (Nat.lt_of_lt_of_le (show w.heap.size < w.heap.size + 3 by omega) sb.le); have t1 := At.kp s1 qk (Nat.lt_of_lt_of_le (show w.heap.size + 1 + 1 < w.heap.size + 3 by omega) sb.le); have t2 := Rm.kp s2 qk (Nat.lt_of_lt_of_le (show w.heap.size + 1 < w.heap.size + 3 by omega) sb.le); have tb := Bh.step sb qk; clear qk; refine hK.out _ _ ⟨t0, t1, t2, tb⟩ (fun hS => ?_))
  clear hK K
  try simp only [Act.put, zA, zB, zC]
  refine rdy 3 rfl (fun K hK => ?_)
  (refine take_if (by rfl) ?_; obtain ⟨s0, s1, s2, sb⟩ := hS; go_simp; (with_reducible refine (tagged_w _ _ _ _ _ _ _ _ _ _ _ HT.out _).mono ?_); rintro e' w' ⟨rfl, qk⟩; have t0 := At.kp s0 qk (Nat.lt_of_lt_of_le (show w.heap.size < w.heap.size + 3 by omega) sb.le); have t1 := At.kp s1 qk (Nat.lt_of_lt_of_le (show w.heap.size + 1 + 1 < w.heap.size + 3 by omega) sb.le); have t2 := Rm.kp s2 qk (Nat.lt_of_lt_of_le (show w.heap.size + 1 < w.heap.size + 3 by omega) sb.le); have tb := Bh.step sb qk; clear qk; refine hK.out _ _ ⟨t0, t1, t2, tb⟩ (fun hS => ?_))
  clear hK K
  try simp only [Act.put, zA, zB, zC]
  refine rdy 4 rfl (fun K hK => ?_)
  obtain ⟨s0, s1, s2, sb⟩ := hS
  obtain ⟨_, _, _, _, _, _, _, _, _⟩ := s0.out9; obtain ⟨_, _, _, _, _, _, _, _, _⟩ := s1.out9
  obtain ⟨⟨_, _⟩, _, ⟨_, _⟩, _, ⟨_, _⟩, _, ⟨_, _⟩, _, ⟨_, _⟩, _, ⟨_, _⟩, _, ⟨_, _⟩, _, ⟨_, _⟩, _, ⟨_, _⟩, _⟩ := s2.out9; 
  go_simp
  refine hK.out _ _ ⟨?_, ?_, ?_, ?_⟩ (fun hS => ?_)
  · repeat' (first | with_reducible assumption | (with_reducible refine At.set ?_ ?_ _))
    all_goals first | with_reducible assumption | (dsimp only; omega)
  · repeat' (first | with_reducible assumption | (with_reducible refine At.set ?_ ?_ _))
    all_goals first | with_reducible assumption | (dsimp only; omega)
  · repeat' (first | with_reducible assumption | (with_reducible refine Rm.set ?_ _))
    all_goals first | with_reducible assumption | (dsimp only; omega)
  · repeat' (first | with_reducible assumption | with_reducible refine Bh.set2 ?_ ?_)
    all_goals first | with_reducible assumption | (dsimp only; omega)
  clear hK K hS
  try simp only [Act.put, zA, zB, zC]
  refine wpAnyH_done (by kernel_rfl) ?_ _
  go_wp2
  refine bodyPost_ret (v := .agg #[v, .int .i64 (bits .and .i64 pe k), ty, mo, e, b, t, g, .int .u64 a]) ?_ rfl ⟨rfl, ?_⟩
  · simp [results, Try.results42, go_sem, *]
  · repeat' (first | with_reducible refine Kp.setCell ?_ ?_ _ | with_reducible refine Kp.allocs ?_ _ _)
    all_goals first | exact sb.kp | (dsimp only; omega)
set_option maxHeartbeats 4000000 in
set_option maxRecDepth 100000 in
theorem mode_w (tg : Bool) (pe ty mo e b t : Int) (g : Bool) (a : Int) (k : Int) (v : Bool) (hv : openB tg ty = v) (w : World) :
    Calls Try.prog 67 #[.agg #[tg, pe, ty, mo, e, b, t, g, .int .u64 a], k] w fun e' w' => e' = .returned (.agg #[v, pe, ty, .int .i64 (bits .and .i64 k 1), e, b, t, g, .int .u64 a]) ∧ Kp w w' := by
  have hT : (tg && v) = v := by rw [← hv]; unfold openB; cases tg <;> simp
  have HT := Lib.hid hT
  have HO := Lib.hid hv
  clear hT hv
  have A0 : At (w.heap.size) [tg, pe, ty, mo, e, b, t, g, .int .u64 a] (((w.alloc (.cells #[tg, pe, ty, mo, e, b, t, g, .int .u64 a] 25)).alloc (.cells #[false, (), (), (), (), (), (), false, .int .u64 0] 25)).alloc (.cells #[tg, pe, ty, .int .i64 (bits .and .i64 k 1), e, b, t, g, .int .u64 a] 25)) := (((At.new' w [tg, pe, ty, mo, e, b, t, g, .int .u64 a] 25 (by simp)).alloc _).alloc _)
  have A1 : At (w.heap.size + 1) [false, (), (), (), (), (), (), false, .int .u64 0] (((w.alloc (.cells #[tg, pe, ty, mo, e, b, t, g, .int .u64 a] 25)).alloc (.cells #[false, (), (), (), (), (), (), false, .int .u64 0] 25)).alloc (.cells #[tg, pe, ty, .int .i64 (bits .and .i64 k 1), e, b, t, g, .int .u64 a] 25)) := ((At.new' (w.alloc (.cells #[tg, pe, ty, mo, e, b, t, g, .int .u64 a] 25)) [false, (), (), (), (), (), (), false, .int .u64 0] 25 (by simp)).alloc _)
  have R1 : Rm (w.heap.size + 1) 9 (((w.alloc (.cells #[tg, pe, ty, mo, e, b, t, g, .int .u64 a] 25)).alloc (.cells #[false, (), (), (), (), (), (), false, .int .u64 0] 25)).alloc (.cells #[tg, pe, ty, .int .i64 (bits .and .i64 k 1), e, b, t, g, .int .u64 a] 25)) := ((Rm.new' (w.alloc (.cells #[tg, pe, ty, mo, e, b, t, g, .int .u64 a] 25)) [false, (), (), (), (), (), (), false, .int .u64 0] 25 9 (by simp) (by simp)).alloc _ _)
  have A2 : At (w.heap.size + 1 + 1) [tg, pe, ty, .int .i64 (bits .and .i64 k 1), e, b, t, g, .int .u64 a] (((w.alloc (.cells #[tg, pe, ty, mo, e, b, t, g, .int .u64 a] 25)).alloc (.cells #[false, (), (), (), (), (), (), false, .int .u64 0] 25)).alloc (.cells #[tg, pe, ty, .int .i64 (bits .and .i64 k 1), e, b, t, g, .int .u64 a] 25)) := (At.new' ((w.alloc (.cells #[tg, pe, ty, mo, e, b, t, g, .int .u64 a] 25)).alloc (.cells #[false, (), (), (), (), (), (), false, .int .u64 0] 25)) [tg, pe, ty, .int .i64 (bits .and .i64 k 1), e, b, t, g, .int .u64 a] 25 (by simp))
  have kb : Bh w (w.heap.size + 3) (((w.alloc (.cells #[tg, pe, ty, mo, e, b, t, g, .int .u64 a] 25)).alloc (.cells #[false, (), (), (), (), (), (), false, .int .u64 0] 25)).alloc (.cells #[tg, pe, ty, .int .i64 (bits .and .i64 k 1), e, b, t, g, .int .u64 a] 25)) := ⟨((((Kp.refl w).allocs _ _).allocs _ _).allocs _ _), by simp, by simp⟩
  go_enter Try.func67, Try.ntmps67
  go_upto_region 3 with fail
  refine wp_region_held_drew (S := (fun w' => At (w.heap.size) [tg, pe, ty, mo, e, b, t, g, .int .u64 a] w' ∧ At (w.heap.size + 1 + 1) [tg, pe, ty, .int .i64 (bits .and .i64 k 1), e, b, t, g, .int .u64 a] w' ∧ Rm (w.heap.size + 1) 9 w' ∧ Bh w (w.heap.size + 3) w')) (by kernel_rfl) ⟨At.drew (by with_reducible assumption), At.drew (by with_reducible assumption), Rm.drew (by with_reducible assumption), Bh.drew (by with_reducible assumption)⟩ (fun hS => ?_)
  (refine tk 0 ?_ rfl (Or.inl ⟨by rfl, ?_⟩) hS ?_; rotate_left; focus (intro w' hSw; obtain ⟨s0, s1, s2, sb⟩ := hSw; obtain ⟨_, _, _, _, _, _, _, _, _⟩ := s0.out9; obtain ⟨_, _, _, _, _, _, _, _, _⟩ := s1.out9; go_simp <;> try with_reducible rfl))
  try simp only [Act.put, zA, zB, zC]
  (refine tk 1 ?_ rfl (Or.inl ⟨by rfl, ?_⟩) hS ?_; rotate_left; focus (intro w' hSw; obtain ⟨s0, s1, s2, sb⟩ := hSw; obtain ⟨_, _, _, _, _, _, _, _, _⟩ := s0.out9; obtain ⟨_, _, _, _, _, _, _, _, _⟩ := s1.out9; go_simp <;> try with_reducible rfl))
  try simp only [Act.put, zA, zB, zC]
  refine rdy 2 rfl (fun K hK => ?_)
  (refine take_if (by rfl) ?_; obtain ⟨s0, s1, s2, sb⟩ := hS; go_simp; (with_reducible refine (open_w _ _ _ _ _ _ _ _ _ _ HO.out _).mono ?_); rintro e' w' ⟨rfl, qk⟩; have t0 := At.kp s0 qk (Nat.lt_of_lt_of_le (show w.heap.size < w.heap.size + 3 by omega) sb.le); have t1 := At.kp s1 qk (Nat.lt_of_lt_of_le (show w.heap.size + 1 + 1 < w.heap.size + 3 by omega) sb.le); have t2 := Rm.kp s2 qk (Nat.lt_of_lt_of_le (show w.heap.size + 1 < w.heap.size + 3 by omega) sb.le); have tb := Bh.step sb qk; clear qk; refine hK.out _ _ ⟨t0, t1, t2, tb⟩ (fun hS => ?_))
  clear hK K
  try simp only [Act.put, zA, zB, zC]
  refine rdy 3 rfl (fun K hK => ?_)
  (refine take_if (by rfl) ?_; obtain ⟨s0, s1, s2, sb⟩ := hS; go_simp; (with_reducible refine (tagged_w _ _ _ _ _ _ _ _ _ _ _ HT.out _).mono ?_); rintro e' w' ⟨rfl, qk⟩; have t0 := At.kp s0 qk (Nat.lt_of_lt_of_le (show w.heap.size < w.heap.size + 3 by omega) sb.le); have t1 := At.kp s1 qk (Nat.lt_of_lt_of_le (show w.heap.size + 1 + 1 < w.heap.size + 3 by omega) sb.le); have t2 := Rm.kp s2 qk (Nat.lt_of_lt_of_le (show w.heap.size + 1 < w.heap.size + 3 by omega) sb.le); have tb := Bh.step sb qk; clear qk; refine hK.out _ _ ⟨t0, t1, t2, tb⟩ (fun hS => ?_))
  clear hK K
  try simp only [Act.put, zA, zB, zC]
  refine rdy 4 rfl (fun K hK => ?_)
  obtain ⟨s0, s1, s2, sb⟩ := hS
  obtain ⟨_, _, _, _, _, _, _, _, _⟩ := s0.out9; obtain ⟨_, _, _, _, _, _, _, _, _⟩ := s1.out9
  obtain ⟨⟨_, _⟩, _, ⟨_, _⟩, _, ⟨_, _⟩, _, ⟨_, _⟩, _, ⟨_, _⟩, _, ⟨_, _⟩, _, ⟨_, _⟩, _, ⟨_, _⟩, _, ⟨_, _⟩, _⟩ := s2.out9; 
  go_simp
  refine hK.out _ _ ⟨?_, ?_, ?_, ?_⟩ (fun hS => ?_)
  · repeat' (first | with_reducible assumption | (with_reducible refine At.set ?_ ?_ _))
    all_goals first | with_reducible assumption | (dsimp only; omega)
  · repeat' (first | with_reducible assumption | (with_reducible refine At.set ?_ ?_ _))
    all_goals first | with_reducible assumption | (dsimp only; omega)
  · repeat' (first | with_reducible assumption | (with_reducible refine Rm.set ?_ _))
    all_goals first | with_reducible assumption | (dsimp only; omega)
  · repeat' (first | with_reducible assumption | with_reducible refine Bh.set2 ?_ ?_)
    all_goals first | with_reducible assumption | (dsimp only; omega)
  clear hK K hS
  try simp only [Act.put, zA, zB, zC]
  refine wpAnyH_done (by kernel_rfl) ?_ _
  go_wp2
  refine bodyPost_ret (v := .agg #[v, pe, ty, .int .i64 (bits .and .i64 k 1), e, b, t, g, .int .u64 a]) ?_ rfl ⟨rfl, ?_⟩
  · simp [results, Try.results67, go_sem, *]
  · repeat' (first | with_reducible refine Kp.setCell ?_ ?_ _ | with_reducible refine Kp.allocs ?_ _ _)
    all_goals first | exact sb.kp | (dsimp only; omega)
end Go.Proofs.Ytkddgjaflcjhiaa
