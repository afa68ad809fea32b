/-
  The contract of capops.Subset: is a capability no more than another one? Bounds' fields are in their places.
-/
import Derived.Test.YtkddgjaflcjhiaaCBase
import Derived.Test.YtkddgjaflcjhiaaCAt
namespace Go.Proofs.Ytkddgjaflcjhiaa
open Go.ChangeShapes Go.WideShapes Go.ChangeAt Go.RowKit
set_option linter.unusedVariables false
set_option linter.unusedSimpArgs false

/-- Are the second one's bounds within the first one's? -/
def wiB (e b t : Int) (g : Bool) (a de db dt : Int) (dg : Bool) (da : Int) : Bool := withinB (ofB de db da) (ofT de db dt dg da) (ofO de db dt dg da) (ofB e b a) (ofT e b t g a) (ofO e b t g a)
theorem wi_c (e b t : Int) (g : Bool) (a de db dt : Int) (dg : Bool) (da : Int) (x : Bool) (h : wiB e b t g a de db dt dg da = x) (w : World) :
    Calls Try.prog 17 #[.agg #[.int .u64 (ofB de db da), .int .u64 (ofT de db dt dg da), .bool (ofO de db dt dg da)], .agg #[.int .u64 (ofB e b a), .int .u64 (ofT e b t g a), .bool (ofO e b t g a)]] w fun e' w' => e' = .returned (.bool x) ∧ Kp w w' :=
  within_c _ _ _ _ _ _ (ofT_bd de db dt dg da).1 (ofT_bd de db dt dg da).2 (ofT_bd e b t g a).1 (ofT_bd e b t g a).2 _ h w
def subB (ctg : Bool) (cpe ce cb ct : Int) (cg : Bool) (ca : Int) (dtg : Bool) (dpe de db dt : Int) (dg : Bool) (da : Int) : Bool := (ctg == dtg) && wiB ce cb ct cg ca de db dt dg da && perB cpe dpe
set_option maxHeartbeats 4000000 in
set_option maxRecDepth 100000 in
theorem subset_w (ctg : Bool) (cpe cty cmo ce cb ct : Int) (cg : Bool) (ca : Int) (dtg : Bool) (dpe dty dmo de db dt : Int) (dg : Bool) (da : Int) (h : Fld ce cb ct ca) (k : Fld de db dt da) (v : Bool) (hv : subB ctg cpe ce cb ct cg ca dtg dpe de db dt dg da = v) (w : World) :
    Calls Try.prog 57 #[.agg #[ctg, cpe, cty, cmo, ce, cb, ct, cg, .int .u64 ca], .agg #[dtg, dpe, dty, dmo, de, db, dt, dg, .int .u64 da]] w fun e' w' => e' = .returned (.bool v) ∧ Kp w w' := by
  obtain ⟨pb, hpb⟩ : ∃ pb, perB cpe dpe = pb := ⟨_, rfl⟩
  cases ht : (ctg == dtg) <;> cases hw : wiB ce cb ct cg ca de db dt dg da
  all_goals
    have hT : ((ctg == dtg) && wiB ce cb ct cg ca de db dt dg da && pb) = v := by rw [← hv, hpb.symm]; rfl
    rw [ht, hw] at hT
    simp only [Bool.false_and, Bool.true_and, Bool.and_false] at hT
    have HT := Lib.hid hT
    have HW := Lib.hid hw
    have HP := Lib.hid hpb
    have HF := Lib.hid h
    have HK := Lib.hid k
    clear hT hpb hv h k hw
    have A0 : At (w.heap.size) [ctg, cpe, cty, cmo, ce, cb, ct, cg, .int .u64 ca] ((w.alloc (.cells #[ctg, cpe, cty, cmo, ce, cb, ct, cg, .int .u64 ca] 25)).alloc (.cells #[dtg, dpe, dty, dmo, de, db, dt, dg, .int .u64 da] 25)) := ((At.new' w [ctg, cpe, cty, cmo, ce, cb, ct, cg, .int .u64 ca] 25 (by simp)).alloc _)
    have A1 : At (w.heap.size + 1) [dtg, dpe, dty, dmo, de, db, dt, dg, .int .u64 da] ((w.alloc (.cells #[ctg, cpe, cty, cmo, ce, cb, ct, cg, .int .u64 ca] 25)).alloc (.cells #[dtg, dpe, dty, dmo, de, db, dt, dg, .int .u64 da] 25)) := (At.new' (w.alloc (.cells #[ctg, cpe, cty, cmo, ce, cb, ct, cg, .int .u64 ca] 25)) [dtg, dpe, dty, dmo, de, db, dt, dg, .int .u64 da] 25 (by simp))
    have kb : Bh w (w.heap.size + 2) ((w.alloc (.cells #[ctg, cpe, cty, cmo, ce, cb, ct, cg, .int .u64 ca] 25)).alloc (.cells #[dtg, dpe, dty, dmo, de, db, dt, dg, .int .u64 da] 25)) := ⟨(((Kp.refl w).allocs _ _).allocs _ _), by simp, by simp⟩
    go_enter Try.func57, Try.ntmps57
    go_upto_region 1 with fail
    refine wp_region_held_drew (S := (fun w' => At (w.heap.size) [ctg, cpe, cty, cmo, ce, cb, ct, cg, .int .u64 ca] w' ∧ At (w.heap.size + 1) [dtg, dpe, dty, dmo, de, db, dt, dg, .int .u64 da] w' ∧ Bh w (w.heap.size + 2) w')) (by kernel_rfl) ⟨At.drew (by with_reducible assumption), At.drew (by with_reducible assumption), Bh.drew (by with_reducible assumption)⟩ (fun hS => ?_)
    (refine tk 0 ?_ rfl (Or.inl ⟨by rfl, ?_⟩) hS ?_; rotate_left; focus (intro w' hSw; obtain ⟨s0, s1, sb⟩ := hSw; go_simp <;> try with_reducible rfl))
    try simp only [Act.put, zA, zB, zC]
    (refine tk 1 ?_ rfl (Or.inl ⟨by rfl, ?_⟩) hS ?_; rotate_left; focus (intro w' hSw; obtain ⟨s0, s1, sb⟩ := hSw; obtain ⟨_, _, _, _, _, _, _, _, _⟩ := s0.out9; obtain ⟨_, _, _, _, _, _, _, _, _⟩ := s1.out9; go_simp <;> try with_reducible rfl))
    try simp only [Act.put, zA, zB, zC]
    (refine tk 2 ?_ rfl (Or.inl ⟨by rfl, ?_⟩) hS ?_; rotate_left; focus (intro w' hSw; obtain ⟨s0, s1, sb⟩ := hSw; go_simp <;> try with_reducible rfl))
    try simp only [Act.put, zA, zB, zC]
    (refine tk 3 ?_ rfl (Or.inl ⟨by rfl, ?_⟩) hS ?_; rotate_left; focus (intro w' hSw; obtain ⟨s0, s1, sb⟩ := hSw; obtain ⟨_, _, _, _, _, _, _, _, _⟩ := s0.out9; obtain ⟨_, _, _, _, _, _, _, _, _⟩ := s1.out9; go_simp <;> try with_reducible rfl))
    try simp only [Act.put, zA, zB, zC]
    (refine tk 4 ?_ rfl (Or.inl ⟨by rfl, ?_⟩) hS ?_; rotate_left; focus (intro w' hSw; obtain ⟨s0, s1, sb⟩ := hSw; go_simp <;> try with_reducible rfl))
    try simp only [Act.put, zA, zB, zC]
    (refine tk 5 ?_ rfl (Or.inl ⟨by rfl, ?_⟩) hS ?_; rotate_left; focus (intro w' hSw; obtain ⟨s0, s1, sb⟩ := hSw; go_simp <;> try with_reducible rfl))
    try simp only [Act.put, zA, zB, zC]
    (refine tk 6 ?_ rfl ?_ hS ?_; rotate_left; focus (first | (refine Or.inl ⟨by rfl, ?_⟩; intro w' hSw; obtain ⟨s0, s1, sb⟩ := hSw; obtain ⟨_, _, _, _, _, _, _, _, _⟩ := s0.out9; obtain ⟨_, _, _, _, _, _, _, _, _⟩ := s1.out9; go_simp <;> try with_reducible rfl) | (refine Or.inr ⟨by rfl, ?_⟩; rfl)))
    try simp only [Act.put, zA, zB, zC]
    (refine tk 8 ?_ rfl ?_ hS ?_; rotate_left; focus (first | (refine Or.inl ⟨by rfl, ?_⟩; intro w' hSw; obtain ⟨s0, s1, sb⟩ := hSw; obtain ⟨_, _, _, _, _, _, _, _, _⟩ := s0.out9; obtain ⟨_, _, _, _, _, _, _, _, _⟩ := s1.out9; go_simp <;> try with_reducible rfl) | (refine Or.inr ⟨by rfl, ?_⟩; rfl)))
    try simp only [Act.put, zA, zB, zC]
    refine rdy 7 rfl (fun K hK => ?_)
    (first | (refine take_if (by rfl) ?_; obtain ⟨s0, s1, sb⟩ := hS; go_simp; (with_reducible refine (of_c _ _ _ _ _ _ _ _ _ HK.out _).mono ?_); rintro e' w' ⟨rfl, qk⟩; have t0 := At.kp s0 qk (Nat.lt_of_lt_of_le (show w.heap.size < w.heap.size + 2 by omega) sb.le); have t1 := At.kp s1 qk (Nat.lt_of_lt_of_le (show w.heap.size + 1 < w.heap.size + 2 by omega) sb.le); have tb := Bh.step sb qk; clear qk; refine hK.out _ _ ⟨t0, t1, tb⟩ (fun hS => ?_)) | (refine take_if (by rfl) ?_; obtain ⟨s0, s1, sb⟩ := hS; go_simp; (with_reducible refine (of_c _ _ _ _ _ _ _ _ _ HF.out _).mono ?_); rintro e' w' ⟨rfl, qk⟩; have t0 := At.kp s0 qk (Nat.lt_of_lt_of_le (show w.heap.size < w.heap.size + 2 by omega) sb.le); have t1 := At.kp s1 qk (Nat.lt_of_lt_of_le (show w.heap.size + 1 < w.heap.size + 2 by omega) sb.le); have tb := Bh.step sb qk; clear qk; refine hK.out _ _ ⟨t0, t1, tb⟩ (fun hS => ?_)) | (refine skip_if (by rfl) ?_; refine hK.out _ _ hS (fun hS => ?_)))
    clear hK K
    try simp only [Act.put, zA, zB, zC]
    refine rdy 9 rfl (fun K hK => ?_)
    (first | (refine take_if (by rfl) ?_; obtain ⟨s0, s1, sb⟩ := hS; go_simp; (with_reducible refine (of_c _ _ _ _ _ _ _ _ _ HK.out _).mono ?_); rintro e' w' ⟨rfl, qk⟩; have t0 := At.kp s0 qk (Nat.lt_of_lt_of_le (show w.heap.size < w.heap.size + 2 by omega) sb.le); have t1 := At.kp s1 qk (Nat.lt_of_lt_of_le (show w.heap.size + 1 < w.heap.size + 2 by omega) sb.le); have tb := Bh.step sb qk; clear qk; refine hK.out _ _ ⟨t0, t1, tb⟩ (fun hS => ?_)) | (refine take_if (by rfl) ?_; obtain ⟨s0, s1, sb⟩ := hS; go_simp; (with_reducible refine (of_c _ _ _ _ _ _ _ _ _ HF.out _).mono ?_); rintro e' w' ⟨rfl, qk⟩; have t0 := At.kp s0 qk (Nat.lt_of_lt_of_le (show w.heap.size < w.heap.size + 2 by omega) sb.le); have t1 := At.kp s1 qk (Nat.lt_of_lt_of_le (show w.heap.size + 1 < w.heap.size + 2 by omega) sb.le); have tb := Bh.step sb qk; clear qk; refine hK.out _ _ ⟨t0, t1, tb⟩ (fun hS => ?_)) | (refine skip_if (by rfl) ?_; refine hK.out _ _ hS (fun hS => ?_)))
    clear hK K
    try simp only [Act.put, zA, zB, zC]
    refine rdy 10 rfl (fun K hK => ?_)
    (first | (refine take_if (by rfl) ?_; obtain ⟨s0, s1, sb⟩ := hS; go_simp; (with_reducible refine (wi_c _ _ _ _ _ _ _ _ _ _ _ HW.out _).mono ?_); rintro e' w' ⟨rfl, qk⟩; have t0 := At.kp s0 qk (Nat.lt_of_lt_of_le (show w.heap.size < w.heap.size + 2 by omega) sb.le); have t1 := At.kp s1 qk (Nat.lt_of_lt_of_le (show w.heap.size + 1 < w.heap.size + 2 by omega) sb.le); have tb := Bh.step sb qk; clear qk; refine hK.out _ _ ⟨t0, t1, tb⟩ (fun hS => ?_)) | (refine skip_if (by rfl) ?_; refine hK.out _ _ hS (fun hS => ?_)))
    clear hK K
    try simp only [Act.put, zA, zB, zC]
    (refine tk 11 ?_ rfl (Or.inl ⟨by rfl, ?_⟩) hS ?_; rotate_left; focus (intro w' hSw; obtain ⟨s0, s1, sb⟩ := hSw; go_simp <;> try with_reducible rfl))
    try simp only [Act.put, zA, zB, zC]
    (refine tk 12 ?_ rfl (Or.inl ⟨by rfl, ?_⟩) hS ?_; rotate_left; focus (intro w' hSw; obtain ⟨s0, s1, sb⟩ := hSw; go_simp <;> try with_reducible rfl))
    try simp only [Act.put, zA, zB, zC]
    (refine tk 13 ?_ rfl ?_ hS ?_; rotate_left; focus (first | (refine Or.inl ⟨by rfl, ?_⟩; intro w' hSw; obtain ⟨s0, s1, sb⟩ := hSw; obtain ⟨_, _, _, _, _, _, _, _, _⟩ := s0.out9; obtain ⟨_, _, _, _, _, _, _, _, _⟩ := s1.out9; go_simp <;> try with_reducible rfl) | (refine Or.inr ⟨by rfl, ?_⟩; rfl)))
    try simp only [Act.put, zA, zB, zC]
    (refine tk 14 ?_ rfl ?_ hS ?_; rotate_left; focus (first | (refine Or.inl ⟨by rfl, ?_⟩; intro w' hSw; obtain ⟨s0, s1, sb⟩ := hSw; go_simp <;> try with_reducible rfl) | (refine Or.inr ⟨by rfl, ?_⟩; rfl)))
    try simp only [Act.put, zA, zB, zC]
    (refine tk 15 ?_ rfl ?_ hS ?_; rotate_left; focus (first | (refine Or.inl ⟨by rfl, ?_⟩; intro w' hSw; obtain ⟨s0, s1, sb⟩ := hSw; obtain ⟨_, _, _, _, _, _, _, _, _⟩ := s0.out9; obtain ⟨_, _, _, _, _, _, _, _, _⟩ := s1.out9; go_simp <;> try with_reducible rfl) | (refine Or.inr ⟨by rfl, ?_⟩; rfl)))
    try simp only [Act.put, zA, zB, zC]
    refine rdy 16 rfl (fun K hK => ?_)
    (first | (refine take_if (by rfl) ?_; obtain ⟨s0, s1, sb⟩ := hS; go_simp; (with_reducible refine (permits_w _ _ _ _ _ _ _ _ _ _ _ HP.out _).mono ?_); rintro e' w' ⟨rfl, qk⟩; have t0 := At.kp s0 qk (Nat.lt_of_lt_of_le (show w.heap.size < w.heap.size + 2 by omega) sb.le); have t1 := At.kp s1 qk (Nat.lt_of_lt_of_le (show w.heap.size + 1 < w.heap.size + 2 by omega) sb.le); have tb := Bh.step sb qk; clear qk; refine hK.out _ _ ⟨t0, t1, tb⟩ (fun hS => ?_)) | (refine skip_if (by rfl) ?_; refine hK.out _ _ hS (fun hS => ?_)))
    clear hK K
    try simp only [Act.put, zA, zB, zC]
    (refine tk 17 ?_ rfl (Or.inl ⟨by rfl, ?_⟩) hS ?_; rotate_left; focus (intro w' hSw; obtain ⟨s0, s1, sb⟩ := hSw; go_simp <;> try with_reducible rfl))
    try simp only [Act.put, zA, zB, zC]
    (refine tk 18 ?_ rfl (Or.inl ⟨by rfl, ?_⟩) hS ?_; rotate_left; focus (intro w' hSw; obtain ⟨s0, s1, sb⟩ := hSw; go_simp <;> try with_reducible rfl))
    try simp only [Act.put, zA, zB, zC]
    refine wpAnyH_done (by kernel_rfl) ?_ _
    obtain ⟨s0, s1, sb⟩ := hS
    obtain ⟨_, _, _, _, _, _, _, _, _⟩ := s0.out9; obtain ⟨_, _, _, _, _, _, _, _, _⟩ := s1.out9
    go_wp2
    go_ret
    exact ⟨ret_bool HT.out, sb.kp⟩
end Go.Proofs.Ytkddgjaflcjhiaa
