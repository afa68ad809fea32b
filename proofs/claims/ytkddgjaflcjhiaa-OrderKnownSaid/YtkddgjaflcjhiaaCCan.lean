/-
  The contract of capops.canSeal: may a capability stand for the type that is its address? Bounds' fields are in their places.
-/
import Derived.Test.YtkddgjaflcjhiaaCBase
import Derived.Test.YtkddgjaflcjhiaaCAt
namespace Go.Proofs.Ytkddgjaflcjhiaa
open Go.ChangeShapes Go.WideShapes Go.ChangeAt Go.RowKit
set_option linter.unusedVariables false
set_option linter.unusedSimpArgs false

def canB (tg : Bool) (ty e b t : Int) (g : Bool) (a : Int) : Bool := openB tg ty && inB (ofB e b a) (ofT e b t g a) (ofO e b t g a) a 1
set_option maxHeartbeats 4000000 in
set_option maxRecDepth 100000 in
theorem canSeal_w (tg : Bool) (pe ty mo e b t : Int) (g : Bool) (a : Int) (h : Fld e b t a) (v : Bool) (hv : canB tg ty e b t g a = v) (w : World) :
    Calls Try.prog 75 #[.agg #[tg, pe, ty, mo, e, b, t, g, .int .u64 a]] w fun e' w' => e' = .returned (.bool v) ∧ Kp w w' := by
  obtain ⟨so, hso⟩ : ∃ so, inB (ofB e b a) (ofT e b t g a) (ofO e b t g a) a 1 = so := ⟨_, rfl⟩
  cases ho : openB tg ty
  all_goals
    have hT : (openB tg ty && so) = v := by rw [← hv, hso.symm]; rfl
    rw [ho] at hT
    simp only [Bool.false_and, Bool.true_and] at hT
    have HT := Lib.hid hT
    have HO := Lib.hid ho
    have HS := Lib.hid hso
    have HF := Lib.hid h
    have a0 := h.a0
    have a1 := h.a1
    have bt := ofT_bd e b t g a
    clear ho hT hso hv h
    have A0 : At (w.heap.size) [tg, pe, ty, mo, e, b, t, g, .int .u64 a] (w.alloc (.cells #[tg, pe, ty, mo, e, b, t, g, .int .u64 a] 25)) := (At.new' w [tg, pe, ty, mo, e, b, t, g, .int .u64 a] 25 (by simp))
    have kb : Bh w (w.heap.size + 1) (w.alloc (.cells #[tg, pe, ty, mo, e, b, t, g, .int .u64 a] 25)) := ⟨((Kp.refl w).allocs _ _), by simp, by simp⟩
    go_enter Try.func75, Try.ntmps75
    go_upto_region 1 with fail
    refine wp_region_held_drew (S := (fun w' => At (w.heap.size) [tg, pe, ty, mo, e, b, t, g, .int .u64 a] w' ∧ Bh w (w.heap.size + 1) w')) (by kernel_rfl) ⟨At.drew (by with_reducible assumption), Bh.drew (by with_reducible assumption)⟩ (fun hS => ?_)
    (refine tk 0 ?_ rfl (Or.inl ⟨by rfl, ?_⟩) hS ?_; rotate_left; focus (intro w' hSw; obtain ⟨s0, sb⟩ := hSw; obtain ⟨_, _, _, _, _, _, _, _, _⟩ := s0.out9; go_simp <;> try with_reducible rfl))
    try simp only [Act.put, zA, zB, zC]
    refine rdy 1 rfl (fun K hK => ?_)
    (refine take_if (by rfl) ?_; obtain ⟨s0, sb⟩ := hS; go_simp; (with_reducible refine (open_w _ _ _ _ _ _ _ _ _ _ HO.out _).mono ?_); rintro e' w' ⟨rfl, qk⟩; have t0 := At.kp s0 qk (Nat.lt_of_lt_of_le (show w.heap.size < w.heap.size + 1 by omega) sb.le); have tb := Bh.step sb qk; clear qk; refine hK.out _ _ ⟨t0, tb⟩ (fun hS => ?_))
    clear hK K
    try simp only [Act.put, zA, zB, zC]
    (refine tk 2 ?_ rfl (Or.inl ⟨by rfl, ?_⟩) hS ?_; rotate_left; focus (intro w' hSw; obtain ⟨s0, sb⟩ := hSw; go_simp <;> try with_reducible rfl))
    try simp only [Act.put, zA, zB, zC]
    (refine tk 3 ?_ rfl ?_ hS ?_; rotate_left; focus (first | (refine Or.inl ⟨by rfl, ?_⟩; intro w' hSw; obtain ⟨s0, sb⟩ := hSw; obtain ⟨_, _, _, _, _, _, _, _, _⟩ := s0.out9; go_simp <;> try with_reducible rfl) | (refine Or.inr ⟨by rfl, ?_⟩; rfl)))
    try simp only [Act.put, zA, zB, zC]
    (refine tk 5 ?_ rfl ?_ hS ?_; rotate_left; focus (first | (refine Or.inl ⟨by rfl, ?_⟩; intro w' hSw; obtain ⟨s0, sb⟩ := hSw; go_simp <;> try with_reducible rfl) | (refine Or.inr ⟨by rfl, ?_⟩; rfl)))
    try simp only [Act.put, zA, zB, zC]
    (refine tk 6 ?_ rfl ?_ hS ?_; rotate_left; focus (first | (refine Or.inl ⟨by rfl, ?_⟩; intro w' hSw; obtain ⟨s0, sb⟩ := hSw; obtain ⟨_, _, _, _, _, _, _, _, _⟩ := s0.out9; go_simp <;> try with_reducible rfl) | (refine Or.inr ⟨by rfl, ?_⟩; rfl)))
    try simp only [Act.put, zA, zB, zC]
    refine rdy 4 rfl (fun K hK => ?_)
    (first | (refine take_if (by rfl) ?_; obtain ⟨s0, sb⟩ := hS; go_simp; (with_reducible refine (of_c _ _ _ _ _ _ _ _ _ HF.out _).mono ?_); rintro e' w' ⟨rfl, qk⟩; have t0 := At.kp s0 qk (Nat.lt_of_lt_of_le (show w.heap.size < w.heap.size + 1 by omega) sb.le); have tb := Bh.step sb qk; clear qk; refine hK.out _ _ ⟨t0, tb⟩ (fun hS => ?_)) | (refine skip_if (by rfl) ?_; refine hK.out _ _ hS (fun hS => ?_)))
    clear hK K
    try simp only [Act.put, zA, zB, zC]
    refine rdy 7 rfl (fun K hK => ?_)
    (first | (refine take_if (by rfl) ?_; obtain ⟨s0, sb⟩ := hS; go_simp; (with_reducible refine (in_c _ _ _ _ _ bt.1 bt.2 a0 a1 (by omega) (by omega) _ HS.out _).mono ?_); rintro e' w' ⟨rfl, qk⟩; have t0 := At.kp s0 qk (Nat.lt_of_lt_of_le (show w.heap.size < w.heap.size + 1 by omega) sb.le); have tb := Bh.step sb qk; clear qk; refine hK.out _ _ ⟨t0, tb⟩ (fun hS => ?_)) | (refine skip_if (by rfl) ?_; refine hK.out _ _ hS (fun hS => ?_)))
    clear hK K
    try simp only [Act.put, zA, zB, zC]
    (refine tk 8 ?_ rfl (Or.inl ⟨by rfl, ?_⟩) hS ?_; rotate_left; focus (intro w' hSw; obtain ⟨s0, sb⟩ := hSw; go_simp <;> try with_reducible rfl))
    try simp only [Act.put, zA, zB, zC]
    (refine tk 9 ?_ rfl (Or.inl ⟨by rfl, ?_⟩) hS ?_; rotate_left; focus (intro w' hSw; obtain ⟨s0, sb⟩ := hSw; go_simp <;> try with_reducible rfl))
    try simp only [Act.put, zA, zB, zC]
    refine wpAnyH_done (by kernel_rfl) ?_ _
    obtain ⟨s0, sb⟩ := hS
    obtain ⟨_, _, _, _, _, _, _, _, _⟩ := s0.out9
    go_wp2
    go_ret
    exact ⟨ret_bool HT.out, sb.kp⟩
end Go.Proofs.Ytkddgjaflcjhiaa
