/-
  Contracts of capops.Move, Less, Mode and canSeal: what each makes of a capability whose bounds' fields are in their places.
-/
import Derived.Test.YtkddgjaflcjhiaaCBase
import Derived.Test.YtkddgjaflcjhiaaCAt
namespace Go.Proofs.Ytkddgjaflcjhiaa
open Go.ChangeShapes Go.WideShapes Go.ChangeAt Go.RowKit
set_option linter.unusedVariables false
set_option linter.unusedSimpArgs false

def moveT (tg : Bool) (ty e b t : Int) (g : Bool) (a x : Int) : Bool := openB tg ty && fitsV e b t g a x
set_option maxHeartbeats 4000000 in
set_option maxRecDepth 100000 in
theorem move_w (tg : Bool) (pe ty mo e b t : Int) (g : Bool) (a : Int) (x : Int) (h : Fld e b t a) (x0 : 0 ≤ x) (x1 : x < 18446744073709551616) (v : Bool) (hv : moveT tg ty e b t g a x = v) (w : World) :
    Calls Try.prog 35 #[.agg #[tg, pe, ty, mo, e, b, t, g, .int .u64 a], .int .u64 x] w fun e' w' => e' = .returned (.agg #[v, pe, ty, mo, e, b, t, g, .int .u64 x]) ∧ Kp w w' := by
  obtain ⟨so, hso⟩ : ∃ so, fitsV e b t g a x = so := ⟨_, rfl⟩
  cases ho : openB tg ty
  all_goals
    have hT : (tg && (openB tg ty && so)) = v := by rw [← hv, hso.symm]; unfold moveT openB; cases tg <;> simp
    rw [ho] at hT
    simp only [Bool.false_and, Bool.true_and] at hT
    have HT := Lib.hid hT
    have HO := Lib.hid ho
    have HS := Lib.hid hso
    have HF := Lib.hid h
    clear ho hT hso hv h
    have A0 : At (w.heap.size) [tg, pe, ty, mo, e, b, t, g, .int .u64 a] (((w.alloc (.cells #[tg, pe, ty, mo, e, b, t, g, .int .u64 a] 25)).alloc (.cells #[false, (), (), (), (), (), (), false, .int .u64 0] 25)).alloc (.cells #[tg, pe, ty, mo, e, b, t, g, .int .u64 x] 25)) := (((At.new' w [tg, pe, ty, mo, e, b, t, g, .int .u64 a] 25 (by simp)).alloc _).alloc _)
    have A1 : At (w.heap.size + 1) [false, (), (), (), (), (), (), false, .int .u64 0] (((w.alloc (.cells #[tg, pe, ty, mo, e, b, t, g, .int .u64 a] 25)).alloc (.cells #[false, (), (), (), (), (), (), false, .int .u64 0] 25)).alloc (.cells #[tg, pe, ty, mo, e, b, t, g, .int .u64 x] 25)) := ((At.new' (w.alloc (.cells #[tg, pe, ty, mo, e, b, t, g, .int .u64 a] 25)) [false, (), (), (), (), (), (), false, .int .u64 0] 25 (by simp)).alloc _)
    have R1 : Rm (w.heap.size + 1) 9 (((w.alloc (.cells #[tg, pe, ty, mo, e, b, t, g, .int .u64 a] 25)).alloc (.cells #[false, (), (), (), (), (), (), false, .int .u64 0] 25)).alloc (.cells #[tg, pe, ty, mo, e, b, t, g, .int .u64 x] 25)) := ((Rm.new' (w.alloc (.cells #[tg, pe, ty, mo, e, b, t, g, .int .u64 a] 25)) [false, (), (), (), (), (), (), false, .int .u64 0] 25 9 (by simp) (by simp)).alloc _ _)
    have A2 : At (w.heap.size + 1 + 1) [tg, pe, ty, mo, e, b, t, g, .int .u64 x] (((w.alloc (.cells #[tg, pe, ty, mo, e, b, t, g, .int .u64 a] 25)).alloc (.cells #[false, (), (), (), (), (), (), false, .int .u64 0] 25)).alloc (.cells #[tg, pe, ty, mo, e, b, t, g, .int .u64 x] 25)) := (At.new' ((w.alloc (.cells #[tg, pe, ty, mo, e, b, t, g, .int .u64 a] 25)).alloc (.cells #[false, (), (), (), (), (), (), false, .int .u64 0] 25)) [tg, pe, ty, mo, e, b, t, g, .int .u64 x] 25 (by simp))
    have kb : Bh w (w.heap.size + 3) (((w.alloc (.cells #[tg, pe, ty, mo, e, b, t, g, .int .u64 a] 25)).alloc (.cells #[false, (), (), (), (), (), (), false, .int .u64 0] 25)).alloc (.cells #[tg, pe, ty, mo, e, b, t, g, .int .u64 x] 25)) := ⟨((((Kp.refl w).allocs _ _).allocs _ _).allocs _ _), by simp, by simp⟩
    go_enter Try.func35, Try.ntmps35
    go_upto_region 3 with fail
    refine wp_region_held_drew (S := (fun w' => At (w.heap.size) [tg, pe, ty, mo, e, b, t, g, .int .u64 a] w' ∧ At (w.heap.size + 1 + 1) [tg, pe, ty, mo, e, b, t, g, .int .u64 x] w' ∧ Rm (w.heap.size + 1) 9 w' ∧ Bh w (w.heap.size + 3) w')) (by kernel_rfl) ⟨At.drew (by with_reducible assumption), At.drew (by with_reducible assumption), Rm.drew (by with_reducible assumption), Bh.drew (by with_reducible assumption)⟩ (fun hS => ?_)
    (refine tk 0 ?_ rfl (Or.inl ⟨by rfl, ?_⟩) hS ?_; rotate_left; focus (intro w' hSw; obtain ⟨s0, s1, s2, sb⟩ := hSw; obtain ⟨_, _, _, _, _, _, _, _, _⟩ := s0.out9; obtain ⟨_, _, _, _, _, _, _, _, _⟩ := s1.out9; go_simp <;> try with_reducible rfl))
    try simp only [Act.put, zA, zB, zC]
    (refine tk 1 ?_ rfl (Or.inl ⟨by rfl, ?_⟩) hS ?_; rotate_left; focus (intro w' hSw; obtain ⟨s0, s1, s2, sb⟩ := hSw; obtain ⟨_, _, _, _, _, _, _, _, _⟩ := s0.out9; obtain ⟨_, _, _, _, _, _, _, _, _⟩ := s1.out9; go_simp <;> try with_reducible rfl))
    try simp only [Act.put, zA, zB, zC]
    refine rdy 2 rfl (fun K hK => ?_)
    (refine take_if (by rfl) ?_; obtain ⟨s0, s1, s2, sb⟩ := hS; go_simp; (with_reducible refine (open_w _ _ _ _ _ _ _ _ _ _ HO.out _).mono ?_); rintro e' w' ⟨rfl, qk⟩; have t0 := At.kp s0 qk (Nat.lt_of_lt_of_le (show w.heap.size < w.heap.size + 3 by omega) sb.le); have t1 := At.kp s1 qk (Nat.lt_of_lt_of_le (show w.heap.size + 1 + 1 < w.heap.size + 3 by omega) sb.le); have t2 := Rm.kp s2 qk (Nat.lt_of_lt_of_le (show w.heap.size + 1 < w.heap.size + 3 by omega) sb.le); have tb := Bh.step sb qk; clear qk; refine hK.out _ _ ⟨t0, t1, t2, tb⟩ (fun hS => ?_))
    clear hK K
    try simp only [Act.put, zA, zB, zC]
    (refine tk 3 ?_ rfl (Or.inl ⟨by rfl, ?_⟩) hS ?_; rotate_left; focus (intro w' hSw; obtain ⟨s0, s1, s2, sb⟩ := hSw; go_simp <;> try with_reducible rfl))
    try simp only [Act.put, zA, zB, zC]
    (refine tk 4 ?_ rfl ?_ hS ?_; rotate_left; focus (first | (refine Or.inl ⟨by rfl, ?_⟩; intro w' hSw; obtain ⟨s0, s1, s2, sb⟩ := hSw; obtain ⟨_, _, _, _, _, _, _, _, _⟩ := s0.out9; obtain ⟨_, _, _, _, _, _, _, _, _⟩ := s1.out9; go_simp <;> try with_reducible rfl) | (refine Or.inr ⟨by rfl, ?_⟩; rfl)))
    try simp only [Act.put, zA, zB, zC]
    (refine tk 5 ?_ rfl ?_ hS ?_; rotate_left; focus (first | (refine Or.inl ⟨by rfl, ?_⟩; intro w' hSw; obtain ⟨s0, s1, s2, sb⟩ := hSw; go_simp <;> try with_reducible rfl) | (refine Or.inr ⟨by rfl, ?_⟩; rfl)))
    try simp only [Act.put, zA, zB, zC]
    refine rdy 6 rfl (fun K hK => ?_)
    (first | (refine take_if (by rfl) ?_; obtain ⟨s0, s1, s2, sb⟩ := hS; go_simp; (with_reducible refine (fits_c _ _ _ _ _ _ _ _ _ _ HF.out x0 x1 _ HS.out _).mono ?_); rintro e' w' ⟨rfl, qk⟩; have t0 := At.kp s0 qk (Nat.lt_of_lt_of_le (show w.heap.size < w.heap.size + 3 by omega) sb.le); have t1 := At.kp s1 qk (Nat.lt_of_lt_of_le (show w.heap.size + 1 + 1 < w.heap.size + 3 by omega) sb.le); have t2 := Rm.kp s2 qk (Nat.lt_of_lt_of_le (show w.heap.size + 1 < w.heap.size + 3 by omega) sb.le); have tb := Bh.step sb qk; clear qk; refine hK.out _ _ ⟨t0, t1, t2, tb⟩ (fun hS => ?_)) | (refine skip_if (by rfl) ?_; refine hK.out _ _ hS (fun hS => ?_)))
    clear hK K
    try simp only [Act.put, zA, zB, zC]
    (refine tk 7 ?_ rfl (Or.inl ⟨by rfl, ?_⟩) hS ?_; rotate_left; focus (intro w' hSw; obtain ⟨s0, s1, s2, sb⟩ := hSw; go_simp <;> try with_reducible rfl))
    try simp only [Act.put, zA, zB, zC]
    refine rdy 8 rfl (fun K hK => ?_)
    (refine take_if (by rfl) ?_; obtain ⟨s0, s1, s2, sb⟩ := hS; go_simp; (with_reducible refine (tagged_w _ _ _ _ _ _ _ _ _ _ _ HT.out _).mono ?_); rintro e' w' ⟨rfl, qk⟩; have t0 := At.kp s0 qk (Nat.lt_of_lt_of_le (show w.heap.size < w.heap.size + 3 by omega) sb.le); have t1 := At.kp s1 qk (Nat.lt_of_lt_of_le (show w.heap.size + 1 + 1 < w.heap.size + 3 by omega) sb.le); have t2 := Rm.kp s2 qk (Nat.lt_of_lt_of_le (show w.heap.size + 1 < w.heap.size + 3 by omega) sb.le); have tb := Bh.step sb qk; clear qk; refine hK.out _ _ ⟨t0, t1, t2, tb⟩ (fun hS => ?_))
    clear hK K
    try simp only [Act.put, zA, zB, zC]
    refine rdy 9 rfl (fun K hK => ?_)
    obtain ⟨s0, s1, s2, sb⟩ := hS
    obtain ⟨_, _, _, _, _, _, _, _, _⟩ := s0.out9; obtain ⟨_, _, _, _, _, _, _, _, _⟩ := s1.out9
    obtain ⟨⟨_, _⟩, _, ⟨_, _⟩, _, ⟨_, _⟩, _, ⟨_, _⟩, _, ⟨_, _⟩, _, ⟨_, _⟩, _, ⟨_, _⟩, _, ⟨_, _⟩, _, ⟨_, _⟩, _⟩ := s2.out9; 
    go_simp
    refine hK.out _ _ ⟨?_, ?_, ?_, ?_⟩ (fun hS => ?_)
    · repeat' (first | with_reducible assumption | (with_reducible refine At.set ?_ ?_ _))
      all_goals first | with_reducible assumption | (dsimp only; omega)
    · repeat' (first | with_reducible assumption | (with_reducible refine At.set ?_ ?_ _))
      all_goals first | with_reducible assumption | (dsimp only; omega)
    · repeat' (first | with_reducible assumption | (with_reducible refine Rm.set ?_ _))
      all_goals first | with_reducible assumption | (dsimp only; omega)
    · repeat' (first | with_reducible assumption | with_reducible refine Bh.set2 ?_ ?_)
      all_goals first | with_reducible assumption | (dsimp only; omega)
    clear hK K hS
    try simp only [Act.put, zA, zB, zC]
    refine wpAnyH_done (by kernel_rfl) ?_ _
    go_wp2
    refine bodyPost_ret (v := .agg #[v, pe, ty, mo, e, b, t, g, .int .u64 x]) ?_ rfl ⟨rfl, ?_⟩
    · simp [results, Try.results35, go_sem, *]
    · repeat' (first | with_reducible refine Kp.setCell ?_ ?_ _ | with_reducible refine Kp.allocs ?_ _ _)
      all_goals first | exact sb.kp | (dsimp only; omega)
end Go.Proofs.Ytkddgjaflcjhiaa
