/-
  The contract of capops.Build. Bounds' fields of both are in their places.
-/
import Derived.Test.YtkddgjaflcjhiaaCSub
namespace Go.Proofs.Ytkddgjaflcjhiaa
open Go.ChangeShapes Go.WideShapes Go.ChangeAt Go.RowKit
set_option linter.unusedVariables false
set_option linter.unusedSimpArgs false

/-- Are a capability's bounds in order? -/
def orderB (e b t : Int) (g : Bool) (a : Int) : Bool := ordB (ofB e b a) (ofT e b t g a) (ofO e b t g a)
def buildB (ctg : Bool) (cpe cty ce cb ct : Int) (cg : Bool) (ca dpe de db dt : Int) (dg : Bool) (da : Int) : Bool := openB ctg cty && orderB de db dt dg da && wiB ce cb ct cg ca de db dt dg da && perB cpe dpe
/-- The type of what is built. -/
def btV (v : Bool) (pe ty : Int) : Int := if v then (if (ty == 262142) && perB pe 2 then 262142 else 262143) else ty
set_option maxHeartbeats 4000000 in
set_option maxRecDepth 100000 in
theorem build_0 (ctg : Bool) (cpe cty cmo ce cb ct : Int) (cg : Bool) (ca : Int) (dtg : Bool) (dpe dty dmo de db dt : Int) (dg : Bool) (da : Int) (h : Fld ce cb ct ca) (k : Fld de db dt da) (ho : openB ctg cty = false) (w : World) :
    Calls Try.prog 70 #[.agg #[ctg, cpe, cty, cmo, ce, cb, ct, cg, .int .u64 ca], .agg #[dtg, dpe, dty, dmo, de, db, dt, dg, .int .u64 da]] w fun e' w' => e' = .returned (.agg #[false, dpe, dty, dmo, de, db, dt, dg, .int .u64 da]) ∧ Kp w w' := by
  have A0 : At (w.heap.size) [ctg, cpe, cty, cmo, ce, cb, ct, cg, .int .u64 ca] (((w.alloc (.cells #[ctg, cpe, cty, cmo, ce, cb, ct, cg, .int .u64 ca] 25)).alloc (.cells #[dtg, dpe, dty, dmo, de, db, dt, dg, .int .u64 da] 25)).alloc (.cells #[false, (), (), (), (), (), (), false, .int .u64 0] 25)) := (((At.new' w [ctg, cpe, cty, cmo, ce, cb, ct, cg, .int .u64 ca] 25 (by simp)).alloc _).alloc _)
  have A1 : At (w.heap.size + 1) [dtg, dpe, dty, dmo, de, db, dt, dg, .int .u64 da] (((w.alloc (.cells #[ctg, cpe, cty, cmo, ce, cb, ct, cg, .int .u64 ca] 25)).alloc (.cells #[dtg, dpe, dty, dmo, de, db, dt, dg, .int .u64 da] 25)).alloc (.cells #[false, (), (), (), (), (), (), false, .int .u64 0] 25)) := ((At.new' (w.alloc (.cells #[ctg, cpe, cty, cmo, ce, cb, ct, cg, .int .u64 ca] 25)) [dtg, dpe, dty, dmo, de, db, dt, dg, .int .u64 da] 25 (by simp)).alloc _)
  have R1 : Rm (w.heap.size + 1) 9 (((w.alloc (.cells #[ctg, cpe, cty, cmo, ce, cb, ct, cg, .int .u64 ca] 25)).alloc (.cells #[dtg, dpe, dty, dmo, de, db, dt, dg, .int .u64 da] 25)).alloc (.cells #[false, (), (), (), (), (), (), false, .int .u64 0] 25)) := ((Rm.new' (w.alloc (.cells #[ctg, cpe, cty, cmo, ce, cb, ct, cg, .int .u64 ca] 25)) [dtg, dpe, dty, dmo, de, db, dt, dg, .int .u64 da] 25 9 (by simp) (by simp)).alloc _ _)
  have A2 : At (w.heap.size + 1 + 1) [false, (), (), (), (), (), (), false, .int .u64 0] (((w.alloc (.cells #[ctg, cpe, cty, cmo, ce, cb, ct, cg, .int .u64 ca] 25)).alloc (.cells #[dtg, dpe, dty, dmo, de, db, dt, dg, .int .u64 da] 25)).alloc (.cells #[false, (), (), (), (), (), (), false, .int .u64 0] 25)) := (At.new' ((w.alloc (.cells #[ctg, cpe, cty, cmo, ce, cb, ct, cg, .int .u64 ca] 25)).alloc (.cells #[dtg, dpe, dty, dmo, de, db, dt, dg, .int .u64 da] 25)) [false, (), (), (), (), (), (), false, .int .u64 0] 25 (by simp))
  have R2 : Rm (w.heap.size + 1 + 1) 9 (((w.alloc (.cells #[ctg, cpe, cty, cmo, ce, cb, ct, cg, .int .u64 ca] 25)).alloc (.cells #[dtg, dpe, dty, dmo, de, db, dt, dg, .int .u64 da] 25)).alloc (.cells #[false, (), (), (), (), (), (), false, .int .u64 0] 25)) := (Rm.new' ((w.alloc (.cells #[ctg, cpe, cty, cmo, ce, cb, ct, cg, .int .u64 ca] 25)).alloc (.cells #[dtg, dpe, dty, dmo, de, db, dt, dg, .int .u64 da] 25)) [false, (), (), (), (), (), (), false, .int .u64 0] 25 9 (by simp) (by simp))
  have kb : Bh w (w.heap.size + 3) (((w.alloc (.cells #[ctg, cpe, cty, cmo, ce, cb, ct, cg, .int .u64 ca] 25)).alloc (.cells #[dtg, dpe, dty, dmo, de, db, dt, dg, .int .u64 da] 25)).alloc (.cells #[false, (), (), (), (), (), (), false, .int .u64 0] 25)) := ⟨((((Kp.refl w).allocs _ _).allocs _ _).allocs _ _), by simp, by simp⟩
  go_enter Try.func70, Try.ntmps70
  go_upto_region 2 with (first
    | (go_at_call 16; (with_reducible refine (of_c _ _ _ _ _ _ _ _ _ k _).mono ?_); rintro e' w1 ⟨rfl, qk⟩; have kbw1 : Bh w (w.heap.size + 3) w1 := Bh.step (by with_reducible assumption) qk; have Aw10 : At (w.heap.size) [ctg, cpe, cty, cmo, ce, cb, ct, cg, .int .u64 ca] w1 := At.kp (by with_reducible assumption) qk (Nat.lt_of_lt_of_le (show w.heap.size < w.heap.size + 3 by omega) (Bh.le (W := w) (by with_reducible assumption))); obtain ⟨_, _, _, _, _, _, _, _, _⟩ := Aw10.out9; have Aw11 : At (w.heap.size + 1) [dtg, dpe, dty, dmo, de, db, dt, dg, .int .u64 da] w1 := At.kp (by with_reducible assumption) qk (Nat.lt_of_lt_of_le (show w.heap.size + 1 < w.heap.size + 3 by omega) (Bh.le (W := w) (by with_reducible assumption))); obtain ⟨_, _, _, _, _, _, _, _, _⟩ := Aw11.out9; have Rw12 : Rm (w.heap.size + 1) 9 w1 := Rm.kp (by with_reducible assumption) qk (Nat.lt_of_lt_of_le (show w.heap.size + 1 < w.heap.size + 3 by omega) (Bh.le (W := w) (by with_reducible assumption))); obtain ⟨⟨_, _⟩, _, ⟨_, _⟩, _, ⟨_, _⟩, _, ⟨_, _⟩, _, ⟨_, _⟩, _, ⟨_, _⟩, _, ⟨_, _⟩, _, ⟨_, _⟩, _, ⟨_, _⟩, _⟩ := Rw12.out9; have Rw13 : Rm (w.heap.size + 1 + 1) 9 w1 := Rm.kp (by with_reducible assumption) qk (Nat.lt_of_lt_of_le (show w.heap.size + 1 + 1 < w.heap.size + 3 by omega) (Bh.le (W := w) (by with_reducible assumption))); obtain ⟨⟨_, _⟩, _, ⟨_, _⟩, _, ⟨_, _⟩, _, ⟨_, _⟩, _, ⟨_, _⟩, _, ⟨_, _⟩, _, ⟨_, _⟩, _, ⟨_, _⟩, _, ⟨_, _⟩, _⟩ := Rw13.out9; clear qk))
  have Az0 : At (w.heap.size) [ctg, cpe, cty, cmo, ce, cb, ct, cg, .int .u64 ca] (w1.alloc (.cells #[.int .u64 (ofB de db da), .int .u64 (ofT de db dt dg da), .bool (ofO de db dt dg da)] 39)) := Aw10.alloc _
  have Az1 : At (w.heap.size + 1) [dtg, dpe, dty, dmo, de, db, dt, dg, .int .u64 da] (w1.alloc (.cells #[.int .u64 (ofB de db da), .int .u64 (ofT de db dt dg da), .bool (ofO de db dt dg da)] 39)) := Aw11.alloc _
  have Rz2 : Rm (w.heap.size + 1) 9 (w1.alloc (.cells #[.int .u64 (ofB de db da), .int .u64 (ofT de db dt dg da), .bool (ofO de db dt dg da)] 39)) := Rw12.alloc _ _
  have Rz3 : Rm (w.heap.size + 1 + 1) 9 (w1.alloc (.cells #[.int .u64 (ofB de db da), .int .u64 (ofT de db dt dg da), .bool (ofO de db dt dg da)] 39)) := Rw13.alloc _ _
  have Az4 : At (w1.heap.size) [.int .u64 (ofB de db da), .int .u64 (ofT de db dt dg da), .bool (ofO de db dt dg da)] (w1.alloc (.cells #[.int .u64 (ofB de db da), .int .u64 (ofT de db dt dg da), .bool (ofO de db dt dg da)] 39)) := At.new' w1 [.int .u64 (ofB de db da), .int .u64 (ofT de db dt dg da), .bool (ofO de db dt dg da)] 39 rfl
  have hz := kbw1.le
  have kz : Bh w (w1.heap.size + 1) (w1.alloc (.cells #[.int .u64 (ofB de db da), .int .u64 (ofT de db dt dg da), .bool (ofO de db dt dg da)] 39)) := ⟨kbw1.kp.allocs _ _, by omega, by simp⟩
  refine wp_region_held_drew (S := (fun w' => At (w.heap.size) [ctg, cpe, cty, cmo, ce, cb, ct, cg, .int .u64 ca] w' ∧ At (w.heap.size + 1) [dtg, dpe, dty, dmo, de, db, dt, dg, .int .u64 da] w' ∧ Rm (w.heap.size + 1) 9 w' ∧ Rm (w.heap.size + 1 + 1) 9 w' ∧ At (w1.heap.size) [.int .u64 (ofB de db da), .int .u64 (ofT de db dt dg da), .bool (ofO de db dt dg da)] w' ∧ Bh w (w1.heap.size + 1) w')) (by kernel_rfl) ⟨At.drew (by with_reducible assumption), At.drew (by with_reducible assumption), Rm.drew (by with_reducible assumption), Rm.drew (by with_reducible assumption), At.drew (by with_reducible assumption), Bh.drew (by with_reducible assumption)⟩ (fun hS => ?_)
  (refine tk 0 ?_ rfl (Or.inl ⟨by rfl, ?_⟩) hS ?_; rotate_left; focus (intro w' hSw; obtain ⟨s0, s1, s2, s3, s4, sb⟩ := hSw; obtain ⟨_, _, _, _, _, _, _, _, _⟩ := s0.out9; obtain ⟨_, _, _, _, _, _, _, _, _⟩ := s1.out9; obtain ⟨_, _, _⟩ := s4.out3; go_simp <;> try with_reducible rfl))
  try simp only [Act.put, zA, zB, zC]
  refine rdy 1 rfl (fun K hK => ?_)
  (refine take_if (by rfl) ?_; obtain ⟨s0, s1, s2, s3, s4, sb⟩ := hS; go_simp; (with_reducible refine (open_w _ _ _ _ _ _ _ _ _ _ ho _).mono ?_); rintro e' w' ⟨rfl, qk⟩; have t0 := At.kp s0 qk (Nat.lt_of_lt_of_le (show w.heap.size < w1.heap.size + 1 by omega) sb.le); have t1 := At.kp s1 qk (Nat.lt_of_lt_of_le (show w.heap.size + 1 < w1.heap.size + 1 by omega) sb.le); have t2 := Rm.kp s2 qk (Nat.lt_of_lt_of_le (show w.heap.size + 1 < w1.heap.size + 1 by omega) sb.le); have t3 := Rm.kp s3 qk (Nat.lt_of_lt_of_le (show w.heap.size + 1 + 1 < w1.heap.size + 1 by omega) sb.le); have t4 := At.kp s4 qk (Nat.lt_of_lt_of_le (show w1.heap.size < w1.heap.size + 1 by omega) sb.le); have tb := Bh.step sb qk; clear qk; refine hK.out _ _ ⟨t0, t1, t2, t3, t4, tb⟩ (fun hS => ?_))
  clear hK K
  try simp only [Act.put, zA, zB, zC]
  (refine tk 2 ?_ rfl (Or.inl ⟨by rfl, ?_⟩) hS ?_; rotate_left; focus (intro w' hSw; obtain ⟨s0, s1, s2, s3, s4, sb⟩ := hSw; go_simp <;> try with_reducible rfl))
  try simp only [Act.put, zA, zB, zC]
  (refine tk 3 ?_ rfl (Or.inl ⟨by rfl, ?_⟩) hS ?_; rotate_left; focus (intro w' hSw; obtain ⟨s0, s1, s2, s3, s4, sb⟩ := hSw; go_simp <;> try with_reducible rfl))
  try simp only [Act.put, zA, zB, zC]
  (refine tk 4 ?_ rfl ?_ hS ?_; rotate_left; focus (first | (refine Or.inl ⟨by rfl, ?_⟩; intro w' hSw; obtain ⟨s0, s1, s2, s3, s4, sb⟩ := hSw; obtain ⟨_, _, _, _, _, _, _, _, _⟩ := s0.out9; obtain ⟨_, _, _, _, _, _, _, _, _⟩ := s1.out9; obtain ⟨_, _, _⟩ := s4.out3; go_simp <;> try with_reducible rfl) | (refine Or.inr ⟨by rfl, ?_⟩; rfl)))
  try simp only [Act.put, zA, zB, zC]
  refine rdy 5 rfl (fun K hK => ?_)
  (first | (refine take_if (by rfl) ?_; obtain ⟨s0, s1, s2, s3, s4, sb⟩ := hS; go_simp; (with_reducible refine (inOrder_w _ _ _ _ hi _).mono ?_); rintro e' w' ⟨rfl, qk⟩; have t0 := At.kp s0 qk (Nat.lt_of_lt_of_le (show w.heap.size < w1.heap.size + 1 by omega) sb.le); have t1 := At.kp s1 qk (Nat.lt_of_lt_of_le (show w.heap.size + 1 < w1.heap.size + 1 by omega) sb.le); have t2 := Rm.kp s2 qk (Nat.lt_of_lt_of_le (show w.heap.size + 1 < w1.heap.size + 1 by omega) sb.le); have t3 := Rm.kp s3 qk (Nat.lt_of_lt_of_le (show w.heap.size + 1 + 1 < w1.heap.size + 1 by omega) sb.le); have t4 := At.kp s4 qk (Nat.lt_of_lt_of_le (show w1.heap.size < w1.heap.size + 1 by omega) sb.le); have tb := Bh.step sb qk; clear qk; refine hK.out _ _ ⟨t0, t1, t2, t3, t4, tb⟩ (fun hS => ?_)) | (refine skip_if (by rfl) ?_; refine hK.out _ _ hS (fun hS => ?_)))
  clear hK K
  try simp only [Act.put, zA, zB, zC]
  (refine tk 6 ?_ rfl ?_ hS ?_; rotate_left; focus (first | (refine Or.inl ⟨by rfl, ?_⟩; intro w' hSw; obtain ⟨s0, s1, s2, s3, s4, sb⟩ := hSw; go_simp <;> try with_reducible rfl) | (refine Or.inr ⟨by rfl, ?_⟩; rfl)))
  try simp only [Act.put, zA, zB, zC]
  (refine tk 7 ?_ rfl (Or.inl ⟨by rfl, ?_⟩) hS ?_; rotate_left; focus (intro w' hSw; obtain ⟨s0, s1, s2, s3, s4, sb⟩ := hSw; go_simp <;> try with_reducible rfl))
  try simp only [Act.put, zA, zB, zC]
  (refine tk 8 ?_ rfl (Or.inl ⟨by rfl, ?_⟩) hS ?_; rotate_left; focus (intro w' hSw; obtain ⟨s0, s1, s2, s3, s4, sb⟩ := hSw; go_simp <;> try with_reducible rfl))
  try simp only [Act.put, zA, zB, zC]
  (refine tk 9 ?_ rfl ?_ hS ?_; rotate_left; focus (first | (refine Or.inl ⟨by rfl, ?_⟩; intro w' hSw; obtain ⟨s0, s1, s2, s3, s4, sb⟩ := hSw; obtain ⟨_, _, _, _, _, _, _, _, _⟩ := s0.out9; obtain ⟨_, _, _, _, _, _, _, _, _⟩ := s1.out9; obtain ⟨_, _, _⟩ := s4.out3; go_simp <;> try with_reducible rfl) | (refine Or.inr ⟨by rfl, ?_⟩; rfl)))
  try simp only [Act.put, zA, zB, zC]
  (refine tk 10 ?_ rfl ?_ hS ?_; rotate_left; focus (first | (refine Or.inl ⟨by rfl, ?_⟩; intro w' hSw; obtain ⟨s0, s1, s2, s3, s4, sb⟩ := hSw; obtain ⟨_, _, _, _, _, _, _, _, _⟩ := s0.out9; obtain ⟨_, _, _, _, _, _, _, _, _⟩ := s1.out9; obtain ⟨_, _, _⟩ := s4.out3; go_simp <;> try with_reducible rfl) | (refine Or.inr ⟨by rfl, ?_⟩; rfl)))
  try simp only [Act.put, zA, zB, zC]
  refine rdy 11 rfl (fun K hK => ?_)
  (first | (refine take_if (by rfl) ?_; obtain ⟨s0, s1, s2, s3, s4, sb⟩ := hS; go_simp; (with_reducible refine (of_c _ _ _ _ _ _ _ _ _ h _).mono ?_); rintro e' w' ⟨rfl, qk⟩; have t0 := At.kp s0 qk (Nat.lt_of_lt_of_le (show w.heap.size < w1.heap.size + 1 by omega) sb.le); have t1 := At.kp s1 qk (Nat.lt_of_lt_of_le (show w.heap.size + 1 < w1.heap.size + 1 by omega) sb.le); have t2 := Rm.kp s2 qk (Nat.lt_of_lt_of_le (show w.heap.size + 1 < w1.heap.size + 1 by omega) sb.le); have t3 := Rm.kp s3 qk (Nat.lt_of_lt_of_le (show w.heap.size + 1 + 1 < w1.heap.size + 1 by omega) sb.le); have t4 := At.kp s4 qk (Nat.lt_of_lt_of_le (show w1.heap.size < w1.heap.size + 1 by omega) sb.le); have tb := Bh.step sb qk; clear qk; refine hK.out _ _ ⟨t0, t1, t2, t3, t4, tb⟩ (fun hS => ?_)) | (refine skip_if (by rfl) ?_; refine hK.out _ _ hS (fun hS => ?_)))
  clear hK K
  try simp only [Act.put, zA, zB, zC]
  refine rdy 12 rfl (fun K hK => ?_)
  (first | (refine take_if (by rfl) ?_; obtain ⟨s0, s1, s2, s3, s4, sb⟩ := hS; go_simp; (with_reducible refine (wi_c _ _ _ _ _ _ _ _ _ _ _ hw _).mono ?_); rintro e' w' ⟨rfl, qk⟩; have t0 := At.kp s0 qk (Nat.lt_of_lt_of_le (show w.heap.size < w1.heap.size + 1 by omega) sb.le); have t1 := At.kp s1 qk (Nat.lt_of_lt_of_le (show w.heap.size + 1 < w1.heap.size + 1 by omega) sb.le); have t2 := Rm.kp s2 qk (Nat.lt_of_lt_of_le (show w.heap.size + 1 < w1.heap.size + 1 by omega) sb.le); have t3 := Rm.kp s3 qk (Nat.lt_of_lt_of_le (show w.heap.size + 1 + 1 < w1.heap.size + 1 by omega) sb.le); have t4 := At.kp s4 qk (Nat.lt_of_lt_of_le (show w1.heap.size < w1.heap.size + 1 by omega) sb.le); have tb := Bh.step sb qk; clear qk; refine hK.out _ _ ⟨t0, t1, t2, t3, t4, tb⟩ (fun hS => ?_)) | (refine skip_if (by rfl) ?_; refine hK.out _ _ hS (fun hS => ?_)))
  clear hK K
  try simp only [Act.put, zA, zB, zC]
  (refine tk 13 ?_ rfl ?_ hS ?_; rotate_left; focus (first | (refine Or.inl ⟨by rfl, ?_⟩; intro w' hSw; obtain ⟨s0, s1, s2, s3, s4, sb⟩ := hSw; go_simp <;> try with_reducible rfl) | (refine Or.inr ⟨by rfl, ?_⟩; rfl)))
  try simp only [Act.put, zA, zB, zC]
  (refine tk 14 ?_ rfl (Or.inl ⟨by rfl, ?_⟩) hS ?_; rotate_left; focus (intro w' hSw; obtain ⟨s0, s1, s2, s3, s4, sb⟩ := hSw; go_simp <;> try with_reducible rfl))
  try simp only [Act.put, zA, zB, zC]
  (refine tk 15 ?_ rfl (Or.inl ⟨by rfl, ?_⟩) hS ?_; rotate_left; focus (intro w' hSw; obtain ⟨s0, s1, s2, s3, s4, sb⟩ := hSw; go_simp <;> try with_reducible rfl))
  try simp only [Act.put, zA, zB, zC]
  (refine tk 16 ?_ rfl ?_ hS ?_; rotate_left; focus (first | (refine Or.inl ⟨by rfl, ?_⟩; intro w' hSw; obtain ⟨s0, s1, s2, s3, s4, sb⟩ := hSw; obtain ⟨_, _, _, _, _, _, _, _, _⟩ := s0.out9; obtain ⟨_, _, _, _, _, _, _, _, _⟩ := s1.out9; obtain ⟨_, _, _⟩ := s4.out3; go_simp <;> try with_reducible rfl) | (refine Or.inr ⟨by rfl, ?_⟩; rfl)))
  try simp only [Act.put, zA, zB, zC]
  (refine tk 17 ?_ rfl ?_ hS ?_; rotate_left; focus (first | (refine Or.inl ⟨by rfl, ?_⟩; intro w' hSw; obtain ⟨s0, s1, s2, s3, s4, sb⟩ := hSw; go_simp <;> try with_reducible rfl) | (refine Or.inr ⟨by rfl, ?_⟩; rfl)))
  try simp only [Act.put, zA, zB, zC]
  (refine tk 18 ?_ rfl ?_ hS ?_; rotate_left; focus (first | (refine Or.inl ⟨by rfl, ?_⟩; intro w' hSw; obtain ⟨s0, s1, s2, s3, s4, sb⟩ := hSw; obtain ⟨_, _, _, _, _, _, _, _, _⟩ := s0.out9; obtain ⟨_, _, _, _, _, _, _, _, _⟩ := s1.out9; obtain ⟨_, _, _⟩ := s4.out3; go_simp <;> try with_reducible rfl) | (refine Or.inr ⟨by rfl, ?_⟩; rfl)))
  try simp only [Act.put, zA, zB, zC]
  refine rdy 19 rfl (fun K hK => ?_)
  (first | (refine take_if (by rfl) ?_; obtain ⟨s0, s1, s2, s3, s4, sb⟩ := hS; go_simp; (with_reducible refine (permits_w _ _ _ _ _ _ _ _ _ _ _ hp _).mono ?_); rintro e' w' ⟨rfl, qk⟩; have t0 := At.kp s0 qk (Nat.lt_of_lt_of_le (show w.heap.size < w1.heap.size + 1 by omega) sb.le); have t1 := At.kp s1 qk (Nat.lt_of_lt_of_le (show w.heap.size + 1 < w1.heap.size + 1 by omega) sb.le); have t2 := Rm.kp s2 qk (Nat.lt_of_lt_of_le (show w.heap.size + 1 < w1.heap.size + 1 by omega) sb.le); have t3 := Rm.kp s3 qk (Nat.lt_of_lt_of_le (show w.heap.size + 1 + 1 < w1.heap.size + 1 by omega) sb.le); have t4 := At.kp s4 qk (Nat.lt_of_lt_of_le (show w1.heap.size < w1.heap.size + 1 by omega) sb.le); have tb := Bh.step sb qk; clear qk; refine hK.out _ _ ⟨t0, t1, t2, t3, t4, tb⟩ (fun hS => ?_)) | (refine skip_if (by rfl) ?_; refine hK.out _ _ hS (fun hS => ?_)))
  clear hK K
  try simp only [Act.put, zA, zB, zC]
  (refine tk 20 ?_ rfl ?_ hS ?_; rotate_left; focus (first | (refine Or.inl ⟨by rfl, ?_⟩; intro w' hSw; obtain ⟨s0, s1, s2, s3, s4, sb⟩ := hSw; go_simp <;> try with_reducible rfl) | (refine Or.inr ⟨by rfl, ?_⟩; rfl)))
  try simp only [Act.put, zA, zB, zC]
  (refine tk 21 ?_ rfl (Or.inl ⟨by rfl, ?_⟩) hS ?_; rotate_left; focus (intro w' hSw; obtain ⟨s0, s1, s2, s3, s4, sb⟩ := hSw; go_simp <;> try with_reducible rfl))
  try simp only [Act.put, zA, zB, zC]
  refine wpAnyH_done (by kernel_rfl) ?_ _
  obtain ⟨s0, s1, s2, s3, s4, sb⟩ := hS
  obtain ⟨_, _, _, _, _, _, _, _, _⟩ := s0.out9; obtain ⟨_, _, _, _, _, _, _, _, _⟩ := s1.out9; obtain ⟨_, _, _⟩ := s4.out3
  obtain ⟨⟨_, _⟩, _, ⟨_, _⟩, _, ⟨_, _⟩, _, ⟨_, _⟩, _, ⟨_, _⟩, _, ⟨_, _⟩, _, ⟨_, _⟩, _, ⟨_, _⟩, _, ⟨_, _⟩, _⟩ := s2.out9
  obtain ⟨⟨_, _⟩, _, ⟨_, _⟩, _, ⟨_, _⟩, _, ⟨_, _⟩, _, ⟨_, _⟩, _, ⟨_, _⟩, _, ⟨_, _⟩, _, ⟨_, _⟩, _, ⟨_, _⟩, _⟩ := s3.out9
  go_wp2_with (first
    | (go_at_call 18; (with_reducible refine (tagged_w _ _ _ _ _ _ _ _ _ false false (by simp) _).mono ?_); rintro e' w5 ⟨rfl, qk⟩; have kbw5 : Bh w (w1.heap.size + 1) w5 := Bh.step sb qk; have Aw50 := At.kp s0 qk (Nat.lt_of_lt_of_le (show w.heap.size < w1.heap.size + 1 by omega) (Bh.le (W := w) sb)); obtain ⟨_, _, _, _, _, _, _, _, _⟩ := Aw50.out9; have Aw51 := At.kp s1 qk (Nat.lt_of_lt_of_le (show w.heap.size + 1 < w1.heap.size + 1 by omega) (Bh.le (W := w) sb)); obtain ⟨_, _, _, _, _, _, _, _, _⟩ := Aw51.out9; have Rw52 := Rm.kp s2 qk (Nat.lt_of_lt_of_le (show w.heap.size + 1 < w1.heap.size + 1 by omega) (Bh.le (W := w) sb)); obtain ⟨⟨_, _⟩, _, ⟨_, _⟩, _, ⟨_, _⟩, _, ⟨_, _⟩, _, ⟨_, _⟩, _, ⟨_, _⟩, _, ⟨_, _⟩, _, ⟨_, _⟩, _, ⟨_, _⟩, _⟩ := Rw52.out9; have Rw53 := Rm.kp s3 qk (Nat.lt_of_lt_of_le (show w.heap.size + 1 + 1 < w1.heap.size + 1 by omega) (Bh.le (W := w) sb)); obtain ⟨⟨_, _⟩, _, ⟨_, _⟩, _, ⟨_, _⟩, _, ⟨_, _⟩, _, ⟨_, _⟩, _, ⟨_, _⟩, _, ⟨_, _⟩, _, ⟨_, _⟩, _, ⟨_, _⟩, _⟩ := Rw53.out9; clear qk))
  refine bodyPost_ret (v := .agg #[false, dpe, dty, dmo, de, db, dt, dg, .int .u64 da]) ?_ rfl ⟨rfl, ?_⟩
  · simp [results, Try.results70, go_sem, *]
  · repeat' (first | with_reducible refine Kp.setCell ?_ ?_ _ | with_reducible refine Kp.allocs ?_ _ _)
    all_goals first | exact kbw5.kp | (dsimp only; omega)
set_option maxHeartbeats 4000000 in
set_option maxRecDepth 100000 in
theorem build_1 (ctg : Bool) (cpe cty cmo ce cb ct : Int) (cg : Bool) (ca : Int) (dtg : Bool) (dpe dty dmo de db dt : Int) (dg : Bool) (da : Int) (h : Fld ce cb ct ca) (k : Fld de db dt da) (ho : openB ctg cty = true) (hi : ordB (ofB de db da) (ofT de db dt dg da) (ofO de db dt dg da) = false) (w : World) :
    Calls Try.prog 70 #[.agg #[ctg, cpe, cty, cmo, ce, cb, ct, cg, .int .u64 ca], .agg #[dtg, dpe, dty, dmo, de, db, dt, dg, .int .u64 da]] w fun e' w' => e' = .returned (.agg #[false, dpe, dty, dmo, de, db, dt, dg, .int .u64 da]) ∧ Kp w w' := by
  have A0 : At (w.heap.size) [ctg, cpe, cty, cmo, ce, cb, ct, cg, .int .u64 ca] (((w.alloc (.cells #[ctg, cpe, cty, cmo, ce, cb, ct, cg, .int .u64 ca] 25)).alloc (.cells #[dtg, dpe, dty, dmo, de, db, dt, dg, .int .u64 da] 25)).alloc (.cells #[false, (), (), (), (), (), (), false, .int .u64 0] 25)) := (((At.new' w [ctg, cpe, cty, cmo, ce, cb, ct, cg, .int .u64 ca] 25 (by simp)).alloc _).alloc _)
  have A1 : At (w.heap.size + 1) [dtg, dpe, dty, dmo, de, db, dt, dg, .int .u64 da] (((w.alloc (.cells #[ctg, cpe, cty, cmo, ce, cb, ct, cg, .int .u64 ca] 25)).alloc (.cells #[dtg, dpe, dty, dmo, de, db, dt, dg, .int .u64 da] 25)).alloc (.cells #[false, (), (), (), (), (), (), false, .int .u64 0] 25)) := ((At.new' (w.alloc (.cells #[ctg, cpe, cty, cmo, ce, cb, ct, cg, .int .u64 ca] 25)) [dtg, dpe, dty, dmo, de, db, dt, dg, .int .u64 da] 25 (by simp)).alloc _)
  have R1 : Rm (w.heap.size + 1) 9 (((w.alloc (.cells #[ctg, cpe, cty, cmo, ce, cb, ct, cg, .int .u64 ca] 25)).alloc (.cells #[dtg, dpe, dty, dmo, de, db, dt, dg, .int .u64 da] 25)).alloc (.cells #[false, (), (), (), (), (), (), false, .int .u64 0] 25)) := ((Rm.new' (w.alloc (.cells #[ctg, cpe, cty, cmo, ce, cb, ct, cg, .int .u64 ca] 25)) [dtg, dpe, dty, dmo, de, db, dt, dg, .int .u64 da] 25 9 (by simp) (by simp)).alloc _ _)
  have A2 : At (w.heap.size + 1 + 1) [false, (), (), (), (), (), (), false, .int .u64 0] (((w.alloc (.cells #[ctg, cpe, cty, cmo, ce, cb, ct, cg, .int .u64 ca] 25)).alloc (.cells #[dtg, dpe, dty, dmo, de, db, dt, dg, .int .u64 da] 25)).alloc (.cells #[false, (), (), (), (), (), (), false, .int .u64 0] 25)) := (At.new' ((w.alloc (.cells #[ctg, cpe, cty, cmo, ce, cb, ct, cg, .int .u64 ca] 25)).alloc (.cells #[dtg, dpe, dty, dmo, de, db, dt, dg, .int .u64 da] 25)) [false, (), (), (), (), (), (), false, .int .u64 0] 25 (by simp))
  have R2 : Rm (w.heap.size + 1 + 1) 9 (((w.alloc (.cells #[ctg, cpe, cty, cmo, ce, cb, ct, cg, .int .u64 ca] 25)).alloc (.cells #[dtg, dpe, dty, dmo, de, db, dt, dg, .int .u64 da] 25)).alloc (.cells #[false, (), (), (), (), (), (), false, .int .u64 0] 25)) := (Rm.new' ((w.alloc (.cells #[ctg, cpe, cty, cmo, ce, cb, ct, cg, .int .u64 ca] 25)).alloc (.cells #[dtg, dpe, dty, dmo, de, db, dt, dg, .int .u64 da] 25)) [false, (), (), (), (), (), (), false, .int .u64 0] 25 9 (by simp) (by simp))
  have kb : Bh w (w.heap.size + 3) (((w.alloc (.cells #[ctg, cpe, cty, cmo, ce, cb, ct, cg, .int .u64 ca] 25)).alloc (.cells #[dtg, dpe, dty, dmo, de, db, dt, dg, .int .u64 da] 25)).alloc (.cells #[false, (), (), (), (), (), (), false, .int .u64 0] 25)) := ⟨((((Kp.refl w).allocs _ _).allocs _ _).allocs _ _), by simp, by simp⟩
  go_enter Try.func70, Try.ntmps70
  go_upto_region 2 with (first
    | (go_at_call 16; (with_reducible refine (of_c _ _ _ _ _ _ _ _ _ k _).mono ?_); rintro e' w1 ⟨rfl, qk⟩; have kbw1 : Bh w (w.heap.size + 3) w1 := Bh.step (by with_reducible assumption) qk; have Aw10 : At (w.heap.size) [ctg, cpe, cty, cmo, ce, cb, ct, cg, .int .u64 ca] w1 := At.kp (by with_reducible assumption) qk (Nat.lt_of_lt_of_le (show w.heap.size < w.heap.size + 3 by omega) (Bh.le (W := w) (by with_reducible assumption))); obtain ⟨_, _, _, _, _, _, _, _, _⟩ := Aw10.out9; have Aw11 : At (w.heap.size + 1) [dtg, dpe, dty, dmo, de, db, dt, dg, .int .u64 da] w1 := At.kp (by with_reducible assumption) qk (Nat.lt_of_lt_of_le (show w.heap.size + 1 < w.heap.size + 3 by omega) (Bh.le (W := w) (by with_reducible assumption))); obtain ⟨_, _, _, _, _, _, _, _, _⟩ := Aw11.out9; have Rw12 : Rm (w.heap.size + 1) 9 w1 := Rm.kp (by with_reducible assumption) qk (Nat.lt_of_lt_of_le (show w.heap.size + 1 < w.heap.size + 3 by omega) (Bh.le (W := w) (by with_reducible assumption))); obtain ⟨⟨_, _⟩, _, ⟨_, _⟩, _, ⟨_, _⟩, _, ⟨_, _⟩, _, ⟨_, _⟩, _, ⟨_, _⟩, _, ⟨_, _⟩, _, ⟨_, _⟩, _, ⟨_, _⟩, _⟩ := Rw12.out9; have Rw13 : Rm (w.heap.size + 1 + 1) 9 w1 := Rm.kp (by with_reducible assumption) qk (Nat.lt_of_lt_of_le (show w.heap.size + 1 + 1 < w.heap.size + 3 by omega) (Bh.le (W := w) (by with_reducible assumption))); obtain ⟨⟨_, _⟩, _, ⟨_, _⟩, _, ⟨_, _⟩, _, ⟨_, _⟩, _, ⟨_, _⟩, _, ⟨_, _⟩, _, ⟨_, _⟩, _, ⟨_, _⟩, _, ⟨_, _⟩, _⟩ := Rw13.out9; clear qk))
  have Az0 : At (w.heap.size) [ctg, cpe, cty, cmo, ce, cb, ct, cg, .int .u64 ca] (w1.alloc (.cells #[.int .u64 (ofB de db da), .int .u64 (ofT de db dt dg da), .bool (ofO de db dt dg da)] 39)) := Aw10.alloc _
  have Az1 : At (w.heap.size + 1) [dtg, dpe, dty, dmo, de, db, dt, dg, .int .u64 da] (w1.alloc (.cells #[.int .u64 (ofB de db da), .int .u64 (ofT de db dt dg da), .bool (ofO de db dt dg da)] 39)) := Aw11.alloc _
  have Rz2 : Rm (w.heap.size + 1) 9 (w1.alloc (.cells #[.int .u64 (ofB de db da), .int .u64 (ofT de db dt dg da), .bool (ofO de db dt dg da)] 39)) := Rw12.alloc _ _
  have Rz3 : Rm (w.heap.size + 1 + 1) 9 (w1.alloc (.cells #[.int .u64 (ofB de db da), .int .u64 (ofT de db dt dg da), .bool (ofO de db dt dg da)] 39)) := Rw13.alloc _ _
  have Az4 : At (w1.heap.size) [.int .u64 (ofB de db da), .int .u64 (ofT de db dt dg da), .bool (ofO de db dt dg da)] (w1.alloc (.cells #[.int .u64 (ofB de db da), .int .u64 (ofT de db dt dg da), .bool (ofO de db dt dg da)] 39)) := At.new' w1 [.int .u64 (ofB de db da), .int .u64 (ofT de db dt dg da), .bool (ofO de db dt dg da)] 39 rfl
  have hz := kbw1.le
  have kz : Bh w (w1.heap.size + 1) (w1.alloc (.cells #[.int .u64 (ofB de db da), .int .u64 (ofT de db dt dg da), .bool (ofO de db dt dg da)] 39)) := ⟨kbw1.kp.allocs _ _, by omega, by simp⟩
  refine wp_region_held_drew (S := (fun w' => At (w.heap.size) [ctg, cpe, cty, cmo, ce, cb, ct, cg, .int .u64 ca] w' ∧ At (w.heap.size + 1) [dtg, dpe, dty, dmo, de, db, dt, dg, .int .u64 da] w' ∧ Rm (w.heap.size + 1) 9 w' ∧ Rm (w.heap.size + 1 + 1) 9 w' ∧ At (w1.heap.size) [.int .u64 (ofB de db da), .int .u64 (ofT de db dt dg da), .bool (ofO de db dt dg da)] w' ∧ Bh w (w1.heap.size + 1) w')) (by kernel_rfl) ⟨At.drew (by with_reducible assumption), At.drew (by with_reducible assumption), Rm.drew (by with_reducible assumption), Rm.drew (by with_reducible assumption), At.drew (by with_reducible assumption), Bh.drew (by with_reducible assumption)⟩ (fun hS => ?_)
  (refine tk 0 ?_ rfl (Or.inl ⟨by rfl, ?_⟩) hS ?_; rotate_left; focus (intro w' hSw; obtain ⟨s0, s1, s2, s3, s4, sb⟩ := hSw; obtain ⟨_, _, _, _, _, _, _, _, _⟩ := s0.out9; obtain ⟨_, _, _, _, _, _, _, _, _⟩ := s1.out9; obtain ⟨_, _, _⟩ := s4.out3; go_simp <;> try with_reducible rfl))
  try simp only [Act.put, zA, zB, zC]
  refine rdy 1 rfl (fun K hK => ?_)
  (refine take_if (by rfl) ?_; obtain ⟨s0, s1, s2, s3, s4, sb⟩ := hS; go_simp; (with_reducible refine (open_w _ _ _ _ _ _ _ _ _ _ ho _).mono ?_); rintro e' w' ⟨rfl, qk⟩; have t0 := At.kp s0 qk (Nat.lt_of_lt_of_le (show w.heap.size < w1.heap.size + 1 by omega) sb.le); have t1 := At.kp s1 qk (Nat.lt_of_lt_of_le (show w.heap.size + 1 < w1.heap.size + 1 by omega) sb.le); have t2 := Rm.kp s2 qk (Nat.lt_of_lt_of_le (show w.heap.size + 1 < w1.heap.size + 1 by omega) sb.le); have t3 := Rm.kp s3 qk (Nat.lt_of_lt_of_le (show w.heap.size + 1 + 1 < w1.heap.size + 1 by omega) sb.le); have t4 := At.kp s4 qk (Nat.lt_of_lt_of_le (show w1.heap.size < w1.heap.size + 1 by omega) sb.le); have tb := Bh.step sb qk; clear qk; refine hK.out _ _ ⟨t0, t1, t2, t3, t4, tb⟩ (fun hS => ?_))
  clear hK K
  try simp only [Act.put, zA, zB, zC]
  (refine tk 2 ?_ rfl (Or.inl ⟨by rfl, ?_⟩) hS ?_; rotate_left; focus (intro w' hSw; obtain ⟨s0, s1, s2, s3, s4, sb⟩ := hSw; go_simp <;> try with_reducible rfl))
  try simp only [Act.put, zA, zB, zC]
  (refine tk 3 ?_ rfl (Or.inl ⟨by rfl, ?_⟩) hS ?_; rotate_left; focus (intro w' hSw; obtain ⟨s0, s1, s2, s3, s4, sb⟩ := hSw; go_simp <;> try with_reducible rfl))
  try simp only [Act.put, zA, zB, zC]
  (refine tk 4 ?_ rfl ?_ hS ?_; rotate_left; focus (first | (refine Or.inl ⟨by rfl, ?_⟩; intro w' hSw; obtain ⟨s0, s1, s2, s3, s4, sb⟩ := hSw; obtain ⟨_, _, _, _, _, _, _, _, _⟩ := s0.out9; obtain ⟨_, _, _, _, _, _, _, _, _⟩ := s1.out9; obtain ⟨_, _, _⟩ := s4.out3; go_simp <;> try with_reducible rfl) | (refine Or.inr ⟨by rfl, ?_⟩; rfl)))
  try simp only [Act.put, zA, zB, zC]
  refine rdy 5 rfl (fun K hK => ?_)
  (first | (refine take_if (by rfl) ?_; obtain ⟨s0, s1, s2, s3, s4, sb⟩ := hS; go_simp; (with_reducible refine (inOrder_w _ _ _ _ hi _).mono ?_); rintro e' w' ⟨rfl, qk⟩; have t0 := At.kp s0 qk (Nat.lt_of_lt_of_le (show w.heap.size < w1.heap.size + 1 by omega) sb.le); have t1 := At.kp s1 qk (Nat.lt_of_lt_of_le (show w.heap.size + 1 < w1.heap.size + 1 by omega) sb.le); have t2 := Rm.kp s2 qk (Nat.lt_of_lt_of_le (show w.heap.size + 1 < w1.heap.size + 1 by omega) sb.le); have t3 := Rm.kp s3 qk (Nat.lt_of_lt_of_le (show w.heap.size + 1 + 1 < w1.heap.size + 1 by omega) sb.le); have t4 := At.kp s4 qk (Nat.lt_of_lt_of_le (show w1.heap.size < w1.heap.size + 1 by omega) sb.le); have tb := Bh.step sb qk; clear qk; refine hK.out _ _ ⟨t0, t1, t2, t3, t4, tb⟩ (fun hS => ?_)) | (refine skip_if (by rfl) ?_; refine hK.out _ _ hS (fun hS => ?_)))
  clear hK K
  try simp only [Act.put, zA, zB, zC]
  (refine tk 6 ?_ rfl ?_ hS ?_; rotate_left; focus (first | (refine Or.inl ⟨by rfl, ?_⟩; intro w' hSw; obtain ⟨s0, s1, s2, s3, s4, sb⟩ := hSw; go_simp <;> try with_reducible rfl) | (refine Or.inr ⟨by rfl, ?_⟩; rfl)))
  try simp only [Act.put, zA, zB, zC]
  (refine tk 7 ?_ rfl (Or.inl ⟨by rfl, ?_⟩) hS ?_; rotate_left; focus (intro w' hSw; obtain ⟨s0, s1, s2, s3, s4, sb⟩ := hSw; go_simp <;> try with_reducible rfl))
  try simp only [Act.put, zA, zB, zC]
  (refine tk 8 ?_ rfl (Or.inl ⟨by rfl, ?_⟩) hS ?_; rotate_left; focus (intro w' hSw; obtain ⟨s0, s1, s2, s3, s4, sb⟩ := hSw; go_simp <;> try with_reducible rfl))
  try simp only [Act.put, zA, zB, zC]
  (refine tk 9 ?_ rfl ?_ hS ?_; rotate_left; focus (first | (refine Or.inl ⟨by rfl, ?_⟩; intro w' hSw; obtain ⟨s0, s1, s2, s3, s4, sb⟩ := hSw; obtain ⟨_, _, _, _, _, _, _, _, _⟩ := s0.out9; obtain ⟨_, _, _, _, _, _, _, _, _⟩ := s1.out9; obtain ⟨_, _, _⟩ := s4.out3; go_simp <;> try with_reducible rfl) | (refine Or.inr ⟨by rfl, ?_⟩; rfl)))
  try simp only [Act.put, zA, zB, zC]
  (refine tk 10 ?_ rfl ?_ hS ?_; rotate_left; focus (first | (refine Or.inl ⟨by rfl, ?_⟩; intro w' hSw; obtain ⟨s0, s1, s2, s3, s4, sb⟩ := hSw; obtain ⟨_, _, _, _, _, _, _, _, _⟩ := s0.out9; obtain ⟨_, _, _, _, _, _, _, _, _⟩ := s1.out9; obtain ⟨_, _, _⟩ := s4.out3; go_simp <;> try with_reducible rfl) | (refine Or.inr ⟨by rfl, ?_⟩; rfl)))
  try simp only [Act.put, zA, zB, zC]
  refine rdy 11 rfl (fun K hK => ?_)
  (first | (refine take_if (by rfl) ?_; obtain ⟨s0, s1, s2, s3, s4, sb⟩ := hS; go_simp; (with_reducible refine (of_c _ _ _ _ _ _ _ _ _ h _).mono ?_); rintro e' w' ⟨rfl, qk⟩; have t0 := At.kp s0 qk (Nat.lt_of_lt_of_le (show w.heap.size < w1.heap.size + 1 by omega) sb.le); have t1 := At.kp s1 qk (Nat.lt_of_lt_of_le (show w.heap.size + 1 < w1.heap.size + 1 by omega) sb.le); have t2 := Rm.kp s2 qk (Nat.lt_of_lt_of_le (show w.heap.size + 1 < w1.heap.size + 1 by omega) sb.le); have t3 := Rm.kp s3 qk (Nat.lt_of_lt_of_le (show w.heap.size + 1 + 1 < w1.heap.size + 1 by omega) sb.le); have t4 := At.kp s4 qk (Nat.lt_of_lt_of_le (show w1.heap.size < w1.heap.size + 1 by omega) sb.le); have tb := Bh.step sb qk; clear qk; refine hK.out _ _ ⟨t0, t1, t2, t3, t4, tb⟩ (fun hS => ?_)) | (refine skip_if (by rfl) ?_; refine hK.out _ _ hS (fun hS => ?_)))
  clear hK K
  try simp only [Act.put, zA, zB, zC]
  refine rdy 12 rfl (fun K hK => ?_)
  (first | (refine take_if (by rfl) ?_; obtain ⟨s0, s1, s2, s3, s4, sb⟩ := hS; go_simp; (with_reducible refine (wi_c _ _ _ _ _ _ _ _ _ _ _ hw _).mono ?_); rintro e' w' ⟨rfl, qk⟩; have t0 := At.kp s0 qk (Nat.lt_of_lt_of_le (show w.heap.size < w1.heap.size + 1 by omega) sb.le); have t1 := At.kp s1 qk (Nat.lt_of_lt_of_le (show w.heap.size + 1 < w1.heap.size + 1 by omega) sb.le); have t2 := Rm.kp s2 qk (Nat.lt_of_lt_of_le (show w.heap.size + 1 < w1.heap.size + 1 by omega) sb.le); have t3 := Rm.kp s3 qk (Nat.lt_of_lt_of_le (show w.heap.size + 1 + 1 < w1.heap.size + 1 by omega) sb.le); have t4 := At.kp s4 qk (Nat.lt_of_lt_of_le (show w1.heap.size < w1.heap.size + 1 by omega) sb.le); have tb := Bh.step sb qk; clear qk; refine hK.out _ _ ⟨t0, t1, t2, t3, t4, tb⟩ (fun hS => ?_)) | (refine skip_if (by rfl) ?_; refine hK.out _ _ hS (fun hS => ?_)))
  clear hK K
  try simp only [Act.put, zA, zB, zC]
  (refine tk 13 ?_ rfl ?_ hS ?_; rotate_left; focus (first | (refine Or.inl ⟨by rfl, ?_⟩; intro w' hSw; obtain ⟨s0, s1, s2, s3, s4, sb⟩ := hSw; go_simp <;> try with_reducible rfl) | (refine Or.inr ⟨by rfl, ?_⟩; rfl)))
  try simp only [Act.put, zA, zB, zC]
  (refine tk 14 ?_ rfl (Or.inl ⟨by rfl, ?_⟩) hS ?_; rotate_left; focus (intro w' hSw; obtain ⟨s0, s1, s2, s3, s4, sb⟩ := hSw; go_simp <;> try with_reducible rfl))
  try simp only [Act.put, zA, zB, zC]
  (refine tk 15 ?_ rfl (Or.inl ⟨by rfl, ?_⟩) hS ?_; rotate_left; focus (intro w' hSw; obtain ⟨s0, s1, s2, s3, s4, sb⟩ := hSw; go_simp <;> try with_reducible rfl))
  try simp only [Act.put, zA, zB, zC]
  (refine tk 16 ?_ rfl ?_ hS ?_; rotate_left; focus (first | (refine Or.inl ⟨by rfl, ?_⟩; intro w' hSw; obtain ⟨s0, s1, s2, s3, s4, sb⟩ := hSw; obtain ⟨_, _, _, _, _, _, _, _, _⟩ := s0.out9; obtain ⟨_, _, _, _, _, _, _, _, _⟩ := s1.out9; obtain ⟨_, _, _⟩ := s4.out3; go_simp <;> try with_reducible rfl) | (refine Or.inr ⟨by rfl, ?_⟩; rfl)))
  try simp only [Act.put, zA, zB, zC]
  (refine tk 17 ?_ rfl ?_ hS ?_; rotate_left; focus (first | (refine Or.inl ⟨by rfl, ?_⟩; intro w' hSw; obtain ⟨s0, s1, s2, s3, s4, sb⟩ := hSw; go_simp <;> try with_reducible rfl) | (refine Or.inr ⟨by rfl, ?_⟩; rfl)))
  try simp only [Act.put, zA, zB, zC]
  (refine tk 18 ?_ rfl ?_ hS ?_; rotate_left; focus (first | (refine Or.inl ⟨by rfl, ?_⟩; intro w' hSw; obtain ⟨s0, s1, s2, s3, s4, sb⟩ := hSw; obtain ⟨_, _, _, _, _, _, _, _, _⟩ := s0.out9; obtain ⟨_, _, _, _, _, _, _, _, _⟩ := s1.out9; obtain ⟨_, _, _⟩ := s4.out3; go_simp <;> try with_reducible rfl) | (refine Or.inr ⟨by rfl, ?_⟩; rfl)))
  try simp only [Act.put, zA, zB, zC]
  refine rdy 19 rfl (fun K hK => ?_)
  (first | (refine take_if (by rfl) ?_; obtain ⟨s0, s1, s2, s3, s4, sb⟩ := hS; go_simp; (with_reducible refine (permits_w _ _ _ _ _ _ _ _ _ _ _ hp _).mono ?_); rintro e' w' ⟨rfl, qk⟩; have t0 := At.kp s0 qk (Nat.lt_of_lt_of_le (show w.heap.size < w1.heap.size + 1 by omega) sb.le); have t1 := At.kp s1 qk (Nat.lt_of_lt_of_le (show w.heap.size + 1 < w1.heap.size + 1 by omega) sb.le); have t2 := Rm.kp s2 qk (Nat.lt_of_lt_of_le (show w.heap.size + 1 < w1.heap.size + 1 by omega) sb.le); have t3 := Rm.kp s3 qk (Nat.lt_of_lt_of_le (show w.heap.size + 1 + 1 < w1.heap.size + 1 by omega) sb.le); have t4 := At.kp s4 qk (Nat.lt_of_lt_of_le (show w1.heap.size < w1.heap.size + 1 by omega) sb.le); have tb := Bh.step sb qk; clear qk; refine hK.out _ _ ⟨t0, t1, t2, t3, t4, tb⟩ (fun hS => ?_)) | (refine skip_if (by rfl) ?_; refine hK.out _ _ hS (fun hS => ?_)))
  clear hK K
  try simp only [Act.put, zA, zB, zC]
  (refine tk 20 ?_ rfl ?_ hS ?_; rotate_left; focus (first | (refine Or.inl ⟨by rfl, ?_⟩; intro w' hSw; obtain ⟨s0, s1, s2, s3, s4, sb⟩ := hSw; go_simp <;> try with_reducible rfl) | (refine Or.inr ⟨by rfl, ?_⟩; rfl)))
  try simp only [Act.put, zA, zB, zC]
  (refine tk 21 ?_ rfl (Or.inl ⟨by rfl, ?_⟩) hS ?_; rotate_left; focus (intro w' hSw; obtain ⟨s0, s1, s2, s3, s4, sb⟩ := hSw; go_simp <;> try with_reducible rfl))
  try simp only [Act.put, zA, zB, zC]
  refine wpAnyH_done (by kernel_rfl) ?_ _
  obtain ⟨s0, s1, s2, s3, s4, sb⟩ := hS
  obtain ⟨_, _, _, _, _, _, _, _, _⟩ := s0.out9; obtain ⟨_, _, _, _, _, _, _, _, _⟩ := s1.out9; obtain ⟨_, _, _⟩ := s4.out3
  obtain ⟨⟨_, _⟩, _, ⟨_, _⟩, _, ⟨_, _⟩, _, ⟨_, _⟩, _, ⟨_, _⟩, _, ⟨_, _⟩, _, ⟨_, _⟩, _, ⟨_, _⟩, _, ⟨_, _⟩, _⟩ := s2.out9
  obtain ⟨⟨_, _⟩, _, ⟨_, _⟩, _, ⟨_, _⟩, _, ⟨_, _⟩, _, ⟨_, _⟩, _, ⟨_, _⟩, _, ⟨_, _⟩, _, ⟨_, _⟩, _, ⟨_, _⟩, _⟩ := s3.out9
  go_wp2_with (first
    | (go_at_call 18; (with_reducible refine (tagged_w _ _ _ _ _ _ _ _ _ false false (by simp) _).mono ?_); rintro e' w5 ⟨rfl, qk⟩; have kbw5 : Bh w (w1.heap.size + 1) w5 := Bh.step sb qk; have Aw50 := At.kp s0 qk (Nat.lt_of_lt_of_le (show w.heap.size < w1.heap.size + 1 by omega) (Bh.le (W := w) sb)); obtain ⟨_, _, _, _, _, _, _, _, _⟩ := Aw50.out9; have Aw51 := At.kp s1 qk (Nat.lt_of_lt_of_le (show w.heap.size + 1 < w1.heap.size + 1 by omega) (Bh.le (W := w) sb)); obtain ⟨_, _, _, _, _, _, _, _, _⟩ := Aw51.out9; have Rw52 := Rm.kp s2 qk (Nat.lt_of_lt_of_le (show w.heap.size + 1 < w1.heap.size + 1 by omega) (Bh.le (W := w) sb)); obtain ⟨⟨_, _⟩, _, ⟨_, _⟩, _, ⟨_, _⟩, _, ⟨_, _⟩, _, ⟨_, _⟩, _, ⟨_, _⟩, _, ⟨_, _⟩, _, ⟨_, _⟩, _, ⟨_, _⟩, _⟩ := Rw52.out9; have Rw53 := Rm.kp s3 qk (Nat.lt_of_lt_of_le (show w.heap.size + 1 + 1 < w1.heap.size + 1 by omega) (Bh.le (W := w) sb)); obtain ⟨⟨_, _⟩, _, ⟨_, _⟩, _, ⟨_, _⟩, _, ⟨_, _⟩, _, ⟨_, _⟩, _, ⟨_, _⟩, _, ⟨_, _⟩, _, ⟨_, _⟩, _, ⟨_, _⟩, _⟩ := Rw53.out9; clear qk))
  refine bodyPost_ret (v := .agg #[false, dpe, dty, dmo, de, db, dt, dg, .int .u64 da]) ?_ rfl ⟨rfl, ?_⟩
  · simp [results, Try.results70, go_sem, *]
  · repeat' (first | with_reducible refine Kp.setCell ?_ ?_ _ | with_reducible refine Kp.allocs ?_ _ _)
    all_goals first | exact kbw5.kp | (dsimp only; omega)
set_option maxHeartbeats 4000000 in
set_option maxRecDepth 100000 in
theorem build_2 (ctg : Bool) (cpe cty cmo ce cb ct : Int) (cg : Bool) (ca : Int) (dtg : Bool) (dpe dty dmo de db dt : Int) (dg : Bool) (da : Int) (h : Fld ce cb ct ca) (k : Fld de db dt da) (ho : openB ctg cty = true) (hi : ordB (ofB de db da) (ofT de db dt dg da) (ofO de db dt dg da) = true) (hw : wiB ce cb ct cg ca de db dt dg da = false) (w : World) :
    Calls Try.prog 70 #[.agg #[ctg, cpe, cty, cmo, ce, cb, ct, cg, .int .u64 ca], .agg #[dtg, dpe, dty, dmo, de, db, dt, dg, .int .u64 da]] w fun e' w' => e' = .returned (.agg #[false, dpe, dty, dmo, de, db, dt, dg, .int .u64 da]) ∧ Kp w w' := by
  have A0 : At (w.heap.size) [ctg, cpe, cty, cmo, ce, cb, ct, cg, .int .u64 ca] (((w.alloc (.cells #[ctg, cpe, cty, cmo, ce, cb, ct, cg, .int .u64 ca] 25)).alloc (.cells #[dtg, dpe, dty, dmo, de, db, dt, dg, .int .u64 da] 25)).alloc (.cells #[false, (), (), (), (), (), (), false, .int .u64 0] 25)) := (((At.new' w [ctg, cpe, cty, cmo, ce, cb, ct, cg, .int .u64 ca] 25 (by simp)).alloc _).alloc _)
  have A1 : At (w.heap.size + 1) [dtg, dpe, dty, dmo, de, db, dt, dg, .int .u64 da] (((w.alloc (.cells #[ctg, cpe, cty, cmo, ce, cb, ct, cg, .int .u64 ca] 25)).alloc (.cells #[dtg, dpe, dty, dmo, de, db, dt, dg, .int .u64 da] 25)).alloc (.cells #[false, (), (), (), (), (), (), false, .int .u64 0] 25)) := ((At.new' (w.alloc (.cells #[ctg, cpe, cty, cmo, ce, cb, ct, cg, .int .u64 ca] 25)) [dtg, dpe, dty, dmo, de, db, dt, dg, .int .u64 da] 25 (by simp)).alloc _)
  have R1 : Rm (w.heap.size + 1) 9 (((w.alloc (.cells #[ctg, cpe, cty, cmo, ce, cb, ct, cg, .int .u64 ca] 25)).alloc (.cells #[dtg, dpe, dty, dmo, de, db, dt, dg, .int .u64 da] 25)).alloc (.cells #[false, (), (), (), (), (), (), false, .int .u64 0] 25)) := ((Rm.new' (w.alloc (.cells #[ctg, cpe, cty, cmo, ce, cb, ct, cg, .int .u64 ca] 25)) [dtg, dpe, dty, dmo, de, db, dt, dg, .int .u64 da] 25 9 (by simp) (by simp)).alloc _ _)
  have A2 : At (w.heap.size + 1 + 1) [false, (), (), (), (), (), (), false, .int .u64 0] (((w.alloc (.cells #[ctg, cpe, cty, cmo, ce, cb, ct, cg, .int .u64 ca] 25)).alloc (.cells #[dtg, dpe, dty, dmo, de, db, dt, dg, .int .u64 da] 25)).alloc (.cells #[false, (), (), (), (), (), (), false, .int .u64 0] 25)) := (At.new' ((w.alloc (.cells #[ctg, cpe, cty, cmo, ce, cb, ct, cg, .int .u64 ca] 25)).alloc (.cells #[dtg, dpe, dty, dmo, de, db, dt, dg, .int .u64 da] 25)) [false, (), (), (), (), (), (), false, .int .u64 0] 25 (by simp))
  have R2 : Rm (w.heap.size + 1 + 1) 9 (((w.alloc (.cells #[ctg, cpe, cty, cmo, ce, cb, ct, cg, .int .u64 ca] 25)).alloc (.cells #[dtg, dpe, dty, dmo, de, db, dt, dg, .int .u64 da] 25)).alloc (.cells #[false, (), (), (), (), (), (), false, .int .u64 0] 25)) := (Rm.new' ((w.alloc (.cells #[ctg, cpe, cty, cmo, ce, cb, ct, cg, .int .u64 ca] 25)).alloc (.cells #[dtg, dpe, dty, dmo, de, db, dt, dg, .int .u64 da] 25)) [false, (), (), (), (), (), (), false, .int .u64 0] 25 9 (by simp) (by simp))
  have kb : Bh w (w.heap.size + 3) (((w.alloc (.cells #[ctg, cpe, cty, cmo, ce, cb, ct, cg, .int .u64 ca] 25)).alloc (.cells #[dtg, dpe, dty, dmo, de, db, dt, dg, .int .u64 da] 25)).alloc (.cells #[false, (), (), (), (), (), (), false, .int .u64 0] 25)) := ⟨((((Kp.refl w).allocs _ _).allocs _ _).allocs _ _), by simp, by simp⟩
  go_enter Try.func70, Try.ntmps70
  go_upto_region 2 with (first
    | (go_at_call 16; (with_reducible refine (of_c _ _ _ _ _ _ _ _ _ k _).mono ?_); rintro e' w1 ⟨rfl, qk⟩; have kbw1 : Bh w (w.heap.size + 3) w1 := Bh.step (by with_reducible assumption) qk; have Aw10 : At (w.heap.size) [ctg, cpe, cty, cmo, ce, cb, ct, cg, .int .u64 ca] w1 := At.kp (by with_reducible assumption) qk (Nat.lt_of_lt_of_le (show w.heap.size < w.heap.size + 3 by omega) (Bh.le (W := w) (by with_reducible assumption))); obtain ⟨_, _, _, _, _, _, _, _, _⟩ := Aw10.out9; have Aw11 : At (w.heap.size + 1) [dtg, dpe, dty, dmo, de, db, dt, dg, .int .u64 da] w1 := At.kp (by with_reducible assumption) qk (Nat.lt_of_lt_of_le (show w.heap.size + 1 < w.heap.size + 3 by omega) (Bh.le (W := w) (by with_reducible assumption))); obtain ⟨_, _, _, _, _, _, _, _, _⟩ := Aw11.out9; have Rw12 : Rm (w.heap.size + 1) 9 w1 := Rm.kp (by with_reducible assumption) qk (Nat.lt_of_lt_of_le (show w.heap.size + 1 < w.heap.size + 3 by omega) (Bh.le (W := w) (by with_reducible assumption))); obtain ⟨⟨_, _⟩, _, ⟨_, _⟩, _, ⟨_, _⟩, _, ⟨_, _⟩, _, ⟨_, _⟩, _, ⟨_, _⟩, _, ⟨_, _⟩, _, ⟨_, _⟩, _, ⟨_, _⟩, _⟩ := Rw12.out9; have Rw13 : Rm (w.heap.size + 1 + 1) 9 w1 := Rm.kp (by with_reducible assumption) qk (Nat.lt_of_lt_of_le (show w.heap.size + 1 + 1 < w.heap.size + 3 by omega) (Bh.le (W := w) (by with_reducible assumption))); obtain ⟨⟨_, _⟩, _, ⟨_, _⟩, _, ⟨_, _⟩, _, ⟨_, _⟩, _, ⟨_, _⟩, _, ⟨_, _⟩, _, ⟨_, _⟩, _, ⟨_, _⟩, _, ⟨_, _⟩, _⟩ := Rw13.out9; clear qk))
  have Az0 : At (w.heap.size) [ctg, cpe, cty, cmo, ce, cb, ct, cg, .int .u64 ca] (w1.alloc (.cells #[.int .u64 (ofB de db da), .int .u64 (ofT de db dt dg da), .bool (ofO de db dt dg da)] 39)) := Aw10.alloc _
  have Az1 : At (w.heap.size + 1) [dtg, dpe, dty, dmo, de, db, dt, dg, .int .u64 da] (w1.alloc (.cells #[.int .u64 (ofB de db da), .int .u64 (ofT de db dt dg da), .bool (ofO de db dt dg da)] 39)) := Aw11.alloc _
  have Rz2 : Rm (w.heap.size + 1) 9 (w1.alloc (.cells #[.int .u64 (ofB de db da), .int .u64 (ofT de db dt dg da), .bool (ofO de db dt dg da)] 39)) := Rw12.alloc _ _
  have Rz3 : Rm (w.heap.size + 1 + 1) 9 (w1.alloc (.cells #[.int .u64 (ofB de db da), .int .u64 (ofT de db dt dg da), .bool (ofO de db dt dg da)] 39)) := Rw13.alloc _ _
  have Az4 : At (w1.heap.size) [.int .u64 (ofB de db da), .int .u64 (ofT de db dt dg da), .bool (ofO de db dt dg da)] (w1.alloc (.cells #[.int .u64 (ofB de db da), .int .u64 (ofT de db dt dg da), .bool (ofO de db dt dg da)] 39)) := At.new' w1 [.int .u64 (ofB de db da), .int .u64 (ofT de db dt dg da), .bool (ofO de db dt dg da)] 39 rfl
  have hz := kbw1.le
  have kz : Bh w (w1.heap.size + 1) (w1.alloc (.cells #[.int .u64 (ofB de db da), .int .u64 (ofT de db dt dg da), .bool (ofO de db dt dg da)] 39)) := ⟨kbw1.kp.allocs _ _, by omega, by simp⟩
  refine wp_region_held_drew (S := (fun w' => At (w.heap.size) [ctg, cpe, cty, cmo, ce, cb, ct, cg, .int .u64 ca] w' ∧ At (w.heap.size + 1) [dtg, dpe, dty, dmo, de, db, dt, dg, .int .u64 da] w' ∧ Rm (w.heap.size + 1) 9 w' ∧ Rm (w.heap.size + 1 + 1) 9 w' ∧ At (w1.heap.size) [.int .u64 (ofB de db da), .int .u64 (ofT de db dt dg da), .bool (ofO de db dt dg da)] w' ∧ Bh w (w1.heap.size + 1) w')) (by kernel_rfl) ⟨At.drew (by with_reducible assumption), At.drew (by with_reducible assumption), Rm.drew (by with_reducible assumption), Rm.drew (by with_reducible assumption), At.drew (by with_reducible assumption), Bh.drew (by with_reducible assumption)⟩ (fun hS => ?_)
  (refine tk 0 ?_ rfl (Or.inl ⟨by rfl, ?_⟩) hS ?_; rotate_left; focus (intro w' hSw; obtain ⟨s0, s1, s2, s3, s4, sb⟩ := hSw; obtain ⟨_, _, _, _, _, _, _, _, _⟩ := s0.out9; obtain ⟨_, _, _, _, _, _, _, _, _⟩ := s1.out9; obtain ⟨_, _, _⟩ := s4.out3; go_simp <;> try with_reducible rfl))
  try simp only [Act.put, zA, zB, zC]
  refine rdy 1 rfl (fun K hK => ?_)
  (refine take_if (by rfl) ?_; obtain ⟨s0, s1, s2, s3, s4, sb⟩ := hS; go_simp; (with_reducible refine (open_w _ _ _ _ _ _ _ _ _ _ ho _).mono ?_); rintro e' w' ⟨rfl, qk⟩; have t0 := At.kp s0 qk (Nat.lt_of_lt_of_le (show w.heap.size < w1.heap.size + 1 by omega) sb.le); have t1 := At.kp s1 qk (Nat.lt_of_lt_of_le (show w.heap.size + 1 < w1.heap.size + 1 by omega) sb.le); have t2 := Rm.kp s2 qk (Nat.lt_of_lt_of_le (show w.heap.size + 1 < w1.heap.size + 1 by omega) sb.le); have t3 := Rm.kp s3 qk (Nat.lt_of_lt_of_le (show w.heap.size + 1 + 1 < w1.heap.size + 1 by omega) sb.le); have t4 := At.kp s4 qk (Nat.lt_of_lt_of_le (show w1.heap.size < w1.heap.size + 1 by omega) sb.le); have tb := Bh.step sb qk; clear qk; refine hK.out _ _ ⟨t0, t1, t2, t3, t4, tb⟩ (fun hS => ?_))
  clear hK K
  try simp only [Act.put, zA, zB, zC]
  (refine tk 2 ?_ rfl (Or.inl ⟨by rfl, ?_⟩) hS ?_; rotate_left; focus (intro w' hSw; obtain ⟨s0, s1, s2, s3, s4, sb⟩ := hSw; go_simp <;> try with_reducible rfl))
  try simp only [Act.put, zA, zB, zC]
  (refine tk 3 ?_ rfl (Or.inl ⟨by rfl, ?_⟩) hS ?_; rotate_left; focus (intro w' hSw; obtain ⟨s0, s1, s2, s3, s4, sb⟩ := hSw; go_simp <;> try with_reducible rfl))
  try simp only [Act.put, zA, zB, zC]
  (refine tk 4 ?_ rfl ?_ hS ?_; rotate_left; focus (first | (refine Or.inl ⟨by rfl, ?_⟩; intro w' hSw; obtain ⟨s0, s1, s2, s3, s4, sb⟩ := hSw; obtain ⟨_, _, _, _, _, _, _, _, _⟩ := s0.out9; obtain ⟨_, _, _, _, _, _, _, _, _⟩ := s1.out9; obtain ⟨_, _, _⟩ := s4.out3; go_simp <;> try with_reducible rfl) | (refine Or.inr ⟨by rfl, ?_⟩; rfl)))
  try simp only [Act.put, zA, zB, zC]
  refine rdy 5 rfl (fun K hK => ?_)
  (first | (refine take_if (by rfl) ?_; obtain ⟨s0, s1, s2, s3, s4, sb⟩ := hS; go_simp; (with_reducible refine (inOrder_w _ _ _ _ hi _).mono ?_); rintro e' w' ⟨rfl, qk⟩; have t0 := At.kp s0 qk (Nat.lt_of_lt_of_le (show w.heap.size < w1.heap.size + 1 by omega) sb.le); have t1 := At.kp s1 qk (Nat.lt_of_lt_of_le (show w.heap.size + 1 < w1.heap.size + 1 by omega) sb.le); have t2 := Rm.kp s2 qk (Nat.lt_of_lt_of_le (show w.heap.size + 1 < w1.heap.size + 1 by omega) sb.le); have t3 := Rm.kp s3 qk (Nat.lt_of_lt_of_le (show w.heap.size + 1 + 1 < w1.heap.size + 1 by omega) sb.le); have t4 := At.kp s4 qk (Nat.lt_of_lt_of_le (show w1.heap.size < w1.heap.size + 1 by omega) sb.le); have tb := Bh.step sb qk; clear qk; refine hK.out _ _ ⟨t0, t1, t2, t3, t4, tb⟩ (fun hS => ?_)) | (refine skip_if (by rfl) ?_; refine hK.out _ _ hS (fun hS => ?_)))
  clear hK K
  try simp only [Act.put, zA, zB, zC]
  (refine tk 6 ?_ rfl ?_ hS ?_; rotate_left; focus (first | (refine Or.inl ⟨by rfl, ?_⟩; intro w' hSw; obtain ⟨s0, s1, s2, s3, s4, sb⟩ := hSw; go_simp <;> try with_reducible rfl) | (refine Or.inr ⟨by rfl, ?_⟩; rfl)))
  try simp only [Act.put, zA, zB, zC]
  (refine tk 7 ?_ rfl (Or.inl ⟨by rfl, ?_⟩) hS ?_; rotate_left; focus (intro w' hSw; obtain ⟨s0, s1, s2, s3, s4, sb⟩ := hSw; go_simp <;> try with_reducible rfl))
  try simp only [Act.put, zA, zB, zC]
  (refine tk 8 ?_ rfl (Or.inl ⟨by rfl, ?_⟩) hS ?_; rotate_left; focus (intro w' hSw; obtain ⟨s0, s1, s2, s3, s4, sb⟩ := hSw; go_simp <;> try with_reducible rfl))
  try simp only [Act.put, zA, zB, zC]
  (refine tk 9 ?_ rfl ?_ hS ?_; rotate_left; focus (first | (refine Or.inl ⟨by rfl, ?_⟩; intro w' hSw; obtain ⟨s0, s1, s2, s3, s4, sb⟩ := hSw; obtain ⟨_, _, _, _, _, _, _, _, _⟩ := s0.out9; obtain ⟨_, _, _, _, _, _, _, _, _⟩ := s1.out9; obtain ⟨_, _, _⟩ := s4.out3; go_simp <;> try with_reducible rfl) | (refine Or.inr ⟨by rfl, ?_⟩; rfl)))
  try simp only [Act.put, zA, zB, zC]
  (refine tk 10 ?_ rfl ?_ hS ?_; rotate_left; focus (first | (refine Or.inl ⟨by rfl, ?_⟩; intro w' hSw; obtain ⟨s0, s1, s2, s3, s4, sb⟩ := hSw; obtain ⟨_, _, _, _, _, _, _, _, _⟩ := s0.out9; obtain ⟨_, _, _, _, _, _, _, _, _⟩ := s1.out9; obtain ⟨_, _, _⟩ := s4.out3; go_simp <;> try with_reducible rfl) | (refine Or.inr ⟨by rfl, ?_⟩; rfl)))
  try simp only [Act.put, zA, zB, zC]
  refine rdy 11 rfl (fun K hK => ?_)
  (first | (refine take_if (by rfl) ?_; obtain ⟨s0, s1, s2, s3, s4, sb⟩ := hS; go_simp; (with_reducible refine (of_c _ _ _ _ _ _ _ _ _ h _).mono ?_); rintro e' w' ⟨rfl, qk⟩; have t0 := At.kp s0 qk (Nat.lt_of_lt_of_le (show w.heap.size < w1.heap.size + 1 by omega) sb.le); have t1 := At.kp s1 qk (Nat.lt_of_lt_of_le (show w.heap.size + 1 < w1.heap.size + 1 by omega) sb.le); have t2 := Rm.kp s2 qk (Nat.lt_of_lt_of_le (show w.heap.size + 1 < w1.heap.size + 1 by omega) sb.le); have t3 := Rm.kp s3 qk (Nat.lt_of_lt_of_le (show w.heap.size + 1 + 1 < w1.heap.size + 1 by omega) sb.le); have t4 := At.kp s4 qk (Nat.lt_of_lt_of_le (show w1.heap.size < w1.heap.size + 1 by omega) sb.le); have tb := Bh.step sb qk; clear qk; refine hK.out _ _ ⟨t0, t1, t2, t3, t4, tb⟩ (fun hS => ?_)) | (refine skip_if (by rfl) ?_; refine hK.out _ _ hS (fun hS => ?_)))
  clear hK K
  try simp only [Act.put, zA, zB, zC]
  refine rdy 12 rfl (fun K hK => ?_)
  (first | (refine take_if (by rfl) ?_; obtain ⟨s0, s1, s2, s3, s4, sb⟩ := hS; go_simp; (with_reducible refine (wi_c _ _ _ _ _ _ _ _ _ _ _ hw _).mono ?_); rintro e' w' ⟨rfl, qk⟩; have t0 := At.kp s0 qk (Nat.lt_of_lt_of_le (show w.heap.size < w1.heap.size + 1 by omega) sb.le); have t1 := At.kp s1 qk (Nat.lt_of_lt_of_le (show w.heap.size + 1 < w1.heap.size + 1 by omega) sb.le); have t2 := Rm.kp s2 qk (Nat.lt_of_lt_of_le (show w.heap.size + 1 < w1.heap.size + 1 by omega) sb.le); have t3 := Rm.kp s3 qk (Nat.lt_of_lt_of_le (show w.heap.size + 1 + 1 < w1.heap.size + 1 by omega) sb.le); have t4 := At.kp s4 qk (Nat.lt_of_lt_of_le (show w1.heap.size < w1.heap.size + 1 by omega) sb.le); have tb := Bh.step sb qk; clear qk; refine hK.out _ _ ⟨t0, t1, t2, t3, t4, tb⟩ (fun hS => ?_)) | (refine skip_if (by rfl) ?_; refine hK.out _ _ hS (fun hS => ?_)))
  clear hK K
  try simp only [Act.put, zA, zB, zC]
  (refine tk 13 ?_ rfl ?_ hS ?_; rotate_left; focus (first | (refine Or.inl ⟨by rfl, ?_⟩; intro w' hSw; obtain ⟨s0, s1, s2, s3, s4, sb⟩ := hSw; go_simp <;> try with_reducible rfl) | (refine Or.inr ⟨by rfl, ?_⟩; rfl)))
  try simp only [Act.put, zA, zB, zC]
  (refine tk 14 ?_ rfl (Or.inl ⟨by rfl, ?_⟩) hS ?_; rotate_left; focus (intro w' hSw; obtain ⟨s0, s1, s2, s3, s4, sb⟩ := hSw; go_simp <;> try with_reducible rfl))
  try simp only [Act.put, zA, zB, zC]
  (refine tk 15 ?_ rfl (Or.inl ⟨by rfl, ?_⟩) hS ?_; rotate_left; focus (intro w' hSw; obtain ⟨s0, s1, s2, s3, s4, sb⟩ := hSw; go_simp <;> try with_reducible rfl))
  try simp only [Act.put, zA, zB, zC]
  (refine tk 16 ?_ rfl ?_ hS ?_; rotate_left; focus (first | (refine Or.inl ⟨by rfl, ?_⟩; intro w' hSw; obtain ⟨s0, s1, s2, s3, s4, sb⟩ := hSw; obtain ⟨_, _, _, _, _, _, _, _, _⟩ := s0.out9; obtain ⟨_, _, _, _, _, _, _, _, _⟩ := s1.out9; obtain ⟨_, _, _⟩ := s4.out3; go_simp <;> try with_reducible rfl) | (refine Or.inr ⟨by rfl, ?_⟩; rfl)))
  try simp only [Act.put, zA, zB, zC]
  (refine tk 17 ?_ rfl ?_ hS ?_; rotate_left; focus (first | (refine Or.inl ⟨by rfl, ?_⟩; intro w' hSw; obtain ⟨s0, s1, s2, s3, s4, sb⟩ := hSw; go_simp <;> try with_reducible rfl) | (refine Or.inr ⟨by rfl, ?_⟩; rfl)))
  try simp only [Act.put, zA, zB, zC]
  (refine tk 18 ?_ rfl ?_ hS ?_; rotate_left; focus (first | (refine Or.inl ⟨by rfl, ?_⟩; intro w' hSw; obtain ⟨s0, s1, s2, s3, s4, sb⟩ := hSw; obtain ⟨_, _, _, _, _, _, _, _, _⟩ := s0.out9; obtain ⟨_, _, _, _, _, _, _, _, _⟩ := s1.out9; obtain ⟨_, _, _⟩ := s4.out3; go_simp <;> try with_reducible rfl) | (refine Or.inr ⟨by rfl, ?_⟩; rfl)))
  try simp only [Act.put, zA, zB, zC]
  refine rdy 19 rfl (fun K hK => ?_)
  (first | (refine take_if (by rfl) ?_; obtain ⟨s0, s1, s2, s3, s4, sb⟩ := hS; go_simp; (with_reducible refine (permits_w _ _ _ _ _ _ _ _ _ _ _ hp _).mono ?_); rintro e' w' ⟨rfl, qk⟩; have t0 := At.kp s0 qk (Nat.lt_of_lt_of_le (show w.heap.size < w1.heap.size + 1 by omega) sb.le); have t1 := At.kp s1 qk (Nat.lt_of_lt_of_le (show w.heap.size + 1 < w1.heap.size + 1 by omega) sb.le); have t2 := Rm.kp s2 qk (Nat.lt_of_lt_of_le (show w.heap.size + 1 < w1.heap.size + 1 by omega) sb.le); have t3 := Rm.kp s3 qk (Nat.lt_of_lt_of_le (show w.heap.size + 1 + 1 < w1.heap.size + 1 by omega) sb.le); have t4 := At.kp s4 qk (Nat.lt_of_lt_of_le (show w1.heap.size < w1.heap.size + 1 by omega) sb.le); have tb := Bh.step sb qk; clear qk; refine hK.out _ _ ⟨t0, t1, t2, t3, t4, tb⟩ (fun hS => ?_)) | (refine skip_if (by rfl) ?_; refine hK.out _ _ hS (fun hS => ?_)))
  clear hK K
  try simp only [Act.put, zA, zB, zC]
  (refine tk 20 ?_ rfl ?_ hS ?_; rotate_left; focus (first | (refine Or.inl ⟨by rfl, ?_⟩; intro w' hSw; obtain ⟨s0, s1, s2, s3, s4, sb⟩ := hSw; go_simp <;> try with_reducible rfl) | (refine Or.inr ⟨by rfl, ?_⟩; rfl)))
  try simp only [Act.put, zA, zB, zC]
  (refine tk 21 ?_ rfl (Or.inl ⟨by rfl, ?_⟩) hS ?_; rotate_left; focus (intro w' hSw; obtain ⟨s0, s1, s2, s3, s4, sb⟩ := hSw; go_simp <;> try with_reducible rfl))
  try simp only [Act.put, zA, zB, zC]
  refine wpAnyH_done (by kernel_rfl) ?_ _
  obtain ⟨s0, s1, s2, s3, s4, sb⟩ := hS
  obtain ⟨_, _, _, _, _, _, _, _, _⟩ := s0.out9; obtain ⟨_, _, _, _, _, _, _, _, _⟩ := s1.out9; obtain ⟨_, _, _⟩ := s4.out3
  obtain ⟨⟨_, _⟩, _, ⟨_, _⟩, _, ⟨_, _⟩, _, ⟨_, _⟩, _, ⟨_, _⟩, _, ⟨_, _⟩, _, ⟨_, _⟩, _, ⟨_, _⟩, _, ⟨_, _⟩, _⟩ := s2.out9
  obtain ⟨⟨_, _⟩, _, ⟨_, _⟩, _, ⟨_, _⟩, _, ⟨_, _⟩, _, ⟨_, _⟩, _, ⟨_, _⟩, _, ⟨_, _⟩, _, ⟨_, _⟩, _, ⟨_, _⟩, _⟩ := s3.out9
  go_wp2_with (first
    | (go_at_call 18; (with_reducible refine (tagged_w _ _ _ _ _ _ _ _ _ false false (by simp) _).mono ?_); rintro e' w5 ⟨rfl, qk⟩; have kbw5 : Bh w (w1.heap.size + 1) w5 := Bh.step sb qk; have Aw50 := At.kp s0 qk (Nat.lt_of_lt_of_le (show w.heap.size < w1.heap.size + 1 by omega) (Bh.le (W := w) sb)); obtain ⟨_, _, _, _, _, _, _, _, _⟩ := Aw50.out9; have Aw51 := At.kp s1 qk (Nat.lt_of_lt_of_le (show w.heap.size + 1 < w1.heap.size + 1 by omega) (Bh.le (W := w) sb)); obtain ⟨_, _, _, _, _, _, _, _, _⟩ := Aw51.out9; have Rw52 := Rm.kp s2 qk (Nat.lt_of_lt_of_le (show w.heap.size + 1 < w1.heap.size + 1 by omega) (Bh.le (W := w) sb)); obtain ⟨⟨_, _⟩, _, ⟨_, _⟩, _, ⟨_, _⟩, _, ⟨_, _⟩, _, ⟨_, _⟩, _, ⟨_, _⟩, _, ⟨_, _⟩, _, ⟨_, _⟩, _, ⟨_, _⟩, _⟩ := Rw52.out9; have Rw53 := Rm.kp s3 qk (Nat.lt_of_lt_of_le (show w.heap.size + 1 + 1 < w1.heap.size + 1 by omega) (Bh.le (W := w) sb)); obtain ⟨⟨_, _⟩, _, ⟨_, _⟩, _, ⟨_, _⟩, _, ⟨_, _⟩, _, ⟨_, _⟩, _, ⟨_, _⟩, _, ⟨_, _⟩, _, ⟨_, _⟩, _, ⟨_, _⟩, _⟩ := Rw53.out9; clear qk))
  refine bodyPost_ret (v := .agg #[false, dpe, dty, dmo, de, db, dt, dg, .int .u64 da]) ?_ rfl ⟨rfl, ?_⟩
  · simp [results, Try.results70, go_sem, *]
  · repeat' (first | with_reducible refine Kp.setCell ?_ ?_ _ | with_reducible refine Kp.allocs ?_ _ _)
    all_goals first | exact kbw5.kp | (dsimp only; omega)
set_option maxHeartbeats 4000000 in
set_option maxRecDepth 100000 in
theorem build_3 (ctg : Bool) (cpe cty cmo ce cb ct : Int) (cg : Bool) (ca : Int) (dtg : Bool) (dpe dty dmo de db dt : Int) (dg : Bool) (da : Int) (h : Fld ce cb ct ca) (k : Fld de db dt da) (ho : openB ctg cty = true) (hi : ordB (ofB de db da) (ofT de db dt dg da) (ofO de db dt dg da) = true) (hw : wiB ce cb ct cg ca de db dt dg da = true) (hp : perB cpe dpe = false) (w : World) :
    Calls Try.prog 70 #[.agg #[ctg, cpe, cty, cmo, ce, cb, ct, cg, .int .u64 ca], .agg #[dtg, dpe, dty, dmo, de, db, dt, dg, .int .u64 da]] w fun e' w' => e' = .returned (.agg #[false, dpe, dty, dmo, de, db, dt, dg, .int .u64 da]) ∧ Kp w w' := by
  have A0 : At (w.heap.size) [ctg, cpe, cty, cmo, ce, cb, ct, cg, .int .u64 ca] (((w.alloc (.cells #[ctg, cpe, cty, cmo, ce, cb, ct, cg, .int .u64 ca] 25)).alloc (.cells #[dtg, dpe, dty, dmo, de, db, dt, dg, .int .u64 da] 25)).alloc (.cells #[false, (), (), (), (), (), (), false, .int .u64 0] 25)) := (((At.new' w [ctg, cpe, cty, cmo, ce, cb, ct, cg, .int .u64 ca] 25 (by simp)).alloc _).alloc _)
  have A1 : At (w.heap.size + 1) [dtg, dpe, dty, dmo, de, db, dt, dg, .int .u64 da] (((w.alloc (.cells #[ctg, cpe, cty, cmo, ce, cb, ct, cg, .int .u64 ca] 25)).alloc (.cells #[dtg, dpe, dty, dmo, de, db, dt, dg, .int .u64 da] 25)).alloc (.cells #[false, (), (), (), (), (), (), false, .int .u64 0] 25)) := ((At.new' (w.alloc (.cells #[ctg, cpe, cty, cmo, ce, cb, ct, cg, .int .u64 ca] 25)) [dtg, dpe, dty, dmo, de, db, dt, dg, .int .u64 da] 25 (by simp)).alloc _)
  have R1 : Rm (w.heap.size + 1) 9 (((w.alloc (.cells #[ctg, cpe, cty, cmo, ce, cb, ct, cg, .int .u64 ca] 25)).alloc (.cells #[dtg, dpe, dty, dmo, de, db, dt, dg, .int .u64 da] 25)).alloc (.cells #[false, (), (), (), (), (), (), false, .int .u64 0] 25)) := ((Rm.new' (w.alloc (.cells #[ctg, cpe, cty, cmo, ce, cb, ct, cg, .int .u64 ca] 25)) [dtg, dpe, dty, dmo, de, db, dt, dg, .int .u64 da] 25 9 (by simp) (by simp)).alloc _ _)
  have A2 : At (w.heap.size + 1 + 1) [false, (), (), (), (), (), (), false, .int .u64 0] (((w.alloc (.cells #[ctg, cpe, cty, cmo, ce, cb, ct, cg, .int .u64 ca] 25)).alloc (.cells #[dtg, dpe, dty, dmo, de, db, dt, dg, .int .u64 da] 25)).alloc (.cells #[false, (), (), (), (), (), (), false, .int .u64 0] 25)) := (At.new' ((w.alloc (.cells #[ctg, cpe, cty, cmo, ce, cb, ct, cg, .int .u64 ca] 25)).alloc (.cells #[dtg, dpe, dty, dmo, de, db, dt, dg, .int .u64 da] 25)) [false, (), (), (), (), (), (), false, .int .u64 0] 25 (by simp))
  have R2 : Rm (w.heap.size + 1 + 1) 9 (((w.alloc (.cells #[ctg, cpe, cty, cmo, ce, cb, ct, cg, .int .u64 ca] 25)).alloc (.cells #[dtg, dpe, dty, dmo, de, db, dt, dg, .int .u64 da] 25)).alloc (.cells #[false, (), (), (), (), (), (), false, .int .u64 0] 25)) := (Rm.new' ((w.alloc (.cells #[ctg, cpe, cty, cmo, ce, cb, ct, cg, .int .u64 ca] 25)).alloc (.cells #[dtg, dpe, dty, dmo, de, db, dt, dg, .int .u64 da] 25)) [false, (), (), (), (), (), (), false, .int .u64 0] 25 9 (by simp) (by simp))
  have kb : Bh w (w.heap.size + 3) (((w.alloc (.cells #[ctg, cpe, cty, cmo, ce, cb, ct, cg, .int .u64 ca] 25)).alloc (.cells #[dtg, dpe, dty, dmo, de, db, dt, dg, .int .u64 da] 25)).alloc (.cells #[false, (), (), (), (), (), (), false, .int .u64 0] 25)) := ⟨((((Kp.refl w).allocs _ _).allocs _ _).allocs _ _), by simp, by simp⟩
  go_enter Try.func70, Try.ntmps70
  go_upto_region 2 with (first
    | (go_at_call 16; (with_reducible refine (of_c _ _ _ _ _ _ _ _ _ k _).mono ?_); rintro e' w1 ⟨rfl, qk⟩; have kbw1 : Bh w (w.heap.size + 3) w1 := Bh.step (by with_reducible assumption) qk; have Aw10 : At (w.heap.size) [ctg, cpe, cty, cmo, ce, cb, ct, cg, .int .u64 ca] w1 := At.kp (by with_reducible assumption) qk (Nat.lt_of_lt_of_le (show w.heap.size < w.heap.size + 3 by omega) (Bh.le (W := w) (by with_reducible assumption))); obtain ⟨_, _, _, _, _, _, _, _, _⟩ := Aw10.out9; have Aw11 : At (w.heap.size + 1) [dtg, dpe, dty, dmo, de, db, dt, dg, .int .u64 da] w1 := At.kp (by with_reducible assumption) qk (Nat.lt_of_lt_of_le (show w.heap.size + 1 < w.heap.size + 3 by omega) (Bh.le (W := w) (by with_reducible assumption))); obtain ⟨_, _, _, _, _, _, _, _, _⟩ := Aw11.out9; have Rw12 : Rm (w.heap.size + 1) 9 w1 := Rm.kp (by with_reducible assumption) qk (Nat.lt_of_lt_of_le (show w.heap.size + 1 < w.heap.size + 3 by omega) (Bh.le (W := w) (by with_reducible assumption))); obtain ⟨⟨_, _⟩, _, ⟨_, _⟩, _, ⟨_, _⟩, _, ⟨_, _⟩, _, ⟨_, _⟩, _, ⟨_, _⟩, _, ⟨_, _⟩, _, ⟨_, _⟩, _, ⟨_, _⟩, _⟩ := Rw12.out9; have Rw13 : Rm (w.heap.size + 1 + 1) 9 w1 := Rm.kp (by with_reducible assumption) qk (Nat.lt_of_lt_of_le (show w.heap.size + 1 + 1 < w.heap.size + 3 by omega) (Bh.le (W := w) (by with_reducible assumption))); obtain ⟨⟨_, _⟩, _, ⟨_, _⟩, _, ⟨_, _⟩, _, ⟨_, _⟩, _, ⟨_, _⟩, _, ⟨_, _⟩, _, ⟨_, _⟩, _, ⟨_, _⟩, _, ⟨_, _⟩, _⟩ := Rw13.out9; clear qk))
  have Az0 : At (w.heap.size) [ctg, cpe, cty, cmo, ce, cb, ct, cg, .int .u64 ca] (w1.alloc (.cells #[.int .u64 (ofB de db da), .int .u64 (ofT de db dt dg da), .bool (ofO de db dt dg da)] 39)) := Aw10.alloc _
  have Az1 : At (w.heap.size + 1) [dtg, dpe, dty, dmo, de, db, dt, dg, .int .u64 da] (w1.alloc (.cells #[.int .u64 (ofB de db da), .int .u64 (ofT de db dt dg da), .bool (ofO de db dt dg da)] 39)) := Aw11.alloc _
  have Rz2 : Rm (w.heap.size + 1) 9 (w1.alloc (.cells #[.int .u64 (ofB de db da), .int .u64 (ofT de db dt dg da), .bool (ofO de db dt dg da)] 39)) := Rw12.alloc _ _
  have Rz3 : Rm (w.heap.size + 1 + 1) 9 (w1.alloc (.cells #[.int .u64 (ofB de db da), .int .u64 (ofT de db dt dg da), .bool (ofO de db dt dg da)] 39)) := Rw13.alloc _ _
  have Az4 : At (w1.heap.size) [.int .u64 (ofB de db da), .int .u64 (ofT de db dt dg da), .bool (ofO de db dt dg da)] (w1.alloc (.cells #[.int .u64 (ofB de db da), .int .u64 (ofT de db dt dg da), .bool (ofO de db dt dg da)] 39)) := At.new' w1 [.int .u64 (ofB de db da), .int .u64 (ofT de db dt dg da), .bool (ofO de db dt dg da)] 39 rfl
  have hz := kbw1.le
  have kz : Bh w (w1.heap.size + 1) (w1.alloc (.cells #[.int .u64 (ofB de db da), .int .u64 (ofT de db dt dg da), .bool (ofO de db dt dg da)] 39)) := ⟨kbw1.kp.allocs _ _, by omega, by simp⟩
  refine wp_region_held_drew (S := (fun w' => At (w.heap.size) [ctg, cpe, cty, cmo, ce, cb, ct, cg, .int .u64 ca] w' ∧ At (w.heap.size + 1) [dtg, dpe, dty, dmo, de, db, dt, dg, .int .u64 da] w' ∧ Rm (w.heap.size + 1) 9 w' ∧ Rm (w.heap.size + 1 + 1) 9 w' ∧ At (w1.heap.size) [.int .u64 (ofB de db da), .int .u64 (ofT de db dt dg da), .bool (ofO de db dt dg da)] w' ∧ Bh w (w1.heap.size + 1) w')) (by kernel_rfl) ⟨At.drew (by with_reducible assumption), At.drew (by with_reducible assumption), Rm.drew (by with_reducible assumption), Rm.drew (by with_reducible assumption), At.drew (by with_reducible assumption), Bh.drew (by with_reducible assumption)⟩ (fun hS => ?_)
  (refine tk 0 ?_ rfl (Or.inl ⟨by rfl, ?_⟩) hS ?_; rotate_left; focus (intro w' hSw; obtain ⟨s0, s1, s2, s3, s4, sb⟩ := hSw; obtain ⟨_, _, _, _, _, _, _, _, _⟩ := s0.out9; obtain ⟨_, _, _, _, _, _, _, _, _⟩ := s1.out9; obtain ⟨_, _, _⟩ := s4.out3; go_simp <;> try with_reducible rfl))
  try simp only [Act.put, zA, zB, zC]
  refine rdy 1 rfl (fun K hK => ?_)
  (refine take_if (by rfl) ?_; obtain ⟨s0, s1, s2, s3, s4, sb⟩ := hS; go_simp; (with_reducible refine (open_w _ _ _ _ _ _ _ _ _ _ ho _).mono ?_); rintro e' w' ⟨rfl, qk⟩; have t0 := At.kp s0 qk (Nat.lt_of_lt_of_le (show w.heap.size < w1.heap.size + 1 by omega) sb.le); have t1 := At.kp s1 qk (Nat.lt_of_lt_of_le (show w.heap.size + 1 < w1.heap.size + 1 by omega) sb.le); have t2 := Rm.kp s2 qk (Nat.lt_of_lt_of_le (show w.heap.size + 1 < w1.heap.size + 1 by omega) sb.le); have t3 := Rm.kp s3 qk (Nat.lt_of_lt_of_le (show w.heap.size + 1 + 1 < w1.heap.size + 1 by omega) sb.le); have t4 := At.kp s4 qk (Nat.lt_of_lt_of_le (show w1.heap.size < w1.heap.size + 1 by omega) sb.le); have tb := Bh.step sb qk; clear qk; refine hK.out _ _ ⟨t0, t1, t2, t3, t4, tb⟩ (fun hS => ?_))
  clear hK K
  try simp only [Act.put, zA, zB, zC]
  (refine tk 2 ?_ rfl (Or.inl ⟨by rfl, ?_⟩) hS ?_; rotate_left; focus (intro w' hSw; obtain ⟨s0, s1, s2, s3, s4, sb⟩ := hSw; go_simp <;> try with_reducible rfl))
  try simp only [Act.put, zA, zB, zC]
  (refine tk 3 ?_ rfl (Or.inl ⟨by rfl, ?_⟩) hS ?_; rotate_left; focus (intro w' hSw; obtain ⟨s0, s1, s2, s3, s4, sb⟩ := hSw; go_simp <;> try with_reducible rfl))
  try simp only [Act.put, zA, zB, zC]
  (refine tk 4 ?_ rfl ?_ hS ?_; rotate_left; focus (first | (refine Or.inl ⟨by rfl, ?_⟩; intro w' hSw; obtain ⟨s0, s1, s2, s3, s4, sb⟩ := hSw; obtain ⟨_, _, _, _, _, _, _, _, _⟩ := s0.out9; obtain ⟨_, _, _, _, _, _, _, _, _⟩ := s1.out9; obtain ⟨_, _, _⟩ := s4.out3; go_simp <;> try with_reducible rfl) | (refine Or.inr ⟨by rfl, ?_⟩; rfl)))
  try simp only [Act.put, zA, zB, zC]
  refine rdy 5 rfl (fun K hK => ?_)
  (first | (refine take_if (by rfl) ?_; obtain ⟨s0, s1, s2, s3, s4, sb⟩ := hS; go_simp; (with_reducible refine (inOrder_w _ _ _ _ hi _).mono ?_); rintro e' w' ⟨rfl, qk⟩; have t0 := At.kp s0 qk (Nat.lt_of_lt_of_le (show w.heap.size < w1.heap.size + 1 by omega) sb.le); have t1 := At.kp s1 qk (Nat.lt_of_lt_of_le (show w.heap.size + 1 < w1.heap.size + 1 by omega) sb.le); have t2 := Rm.kp s2 qk (Nat.lt_of_lt_of_le (show w.heap.size + 1 < w1.heap.size + 1 by omega) sb.le); have t3 := Rm.kp s3 qk (Nat.lt_of_lt_of_le (show w.heap.size + 1 + 1 < w1.heap.size + 1 by omega) sb.le); have t4 := At.kp s4 qk (Nat.lt_of_lt_of_le (show w1.heap.size < w1.heap.size + 1 by omega) sb.le); have tb := Bh.step sb qk; clear qk; refine hK.out _ _ ⟨t0, t1, t2, t3, t4, tb⟩ (fun hS => ?_)) | (refine skip_if (by rfl) ?_; refine hK.out _ _ hS (fun hS => ?_)))
  clear hK K
  try simp only [Act.put, zA, zB, zC]
  (refine tk 6 ?_ rfl ?_ hS ?_; rotate_left; focus (first | (refine Or.inl ⟨by rfl, ?_⟩; intro w' hSw; obtain ⟨s0, s1, s2, s3, s4, sb⟩ := hSw; go_simp <;> try with_reducible rfl) | (refine Or.inr ⟨by rfl, ?_⟩; rfl)))
  try simp only [Act.put, zA, zB, zC]
  (refine tk 7 ?_ rfl (Or.inl ⟨by rfl, ?_⟩) hS ?_; rotate_left; focus (intro w' hSw; obtain ⟨s0, s1, s2, s3, s4, sb⟩ := hSw; go_simp <;> try with_reducible rfl))
  try simp only [Act.put, zA, zB, zC]
  (refine tk 8 ?_ rfl (Or.inl ⟨by rfl, ?_⟩) hS ?_; rotate_left; focus (intro w' hSw; obtain ⟨s0, s1, s2, s3, s4, sb⟩ := hSw; go_simp <;> try with_reducible rfl))
  try simp only [Act.put, zA, zB, zC]
  (refine tk 9 ?_ rfl ?_ hS ?_; rotate_left; focus (first | (refine Or.inl ⟨by rfl, ?_⟩; intro w' hSw; obtain ⟨s0, s1, s2, s3, s4, sb⟩ := hSw; obtain ⟨_, _, _, _, _, _, _, _, _⟩ := s0.out9; obtain ⟨_, _, _, _, _, _, _, _, _⟩ := s1.out9; obtain ⟨_, _, _⟩ := s4.out3; go_simp <;> try with_reducible rfl) | (refine Or.inr ⟨by rfl, ?_⟩; rfl)))
  try simp only [Act.put, zA, zB, zC]
  (refine tk 10 ?_ rfl ?_ hS ?_; rotate_left; focus (first | (refine Or.inl ⟨by rfl, ?_⟩; intro w' hSw; obtain ⟨s0, s1, s2, s3, s4, sb⟩ := hSw; obtain ⟨_, _, _, _, _, _, _, _, _⟩ := s0.out9; obtain ⟨_, _, _, _, _, _, _, _, _⟩ := s1.out9; obtain ⟨_, _, _⟩ := s4.out3; go_simp <;> try with_reducible rfl) | (refine Or.inr ⟨by rfl, ?_⟩; rfl)))
  try simp only [Act.put, zA, zB, zC]
  refine rdy 11 rfl (fun K hK => ?_)
  (first | (refine take_if (by rfl) ?_; obtain ⟨s0, s1, s2, s3, s4, sb⟩ := hS; go_simp; (with_reducible refine (of_c _ _ _ _ _ _ _ _ _ h _).mono ?_); rintro e' w' ⟨rfl, qk⟩; have t0 := At.kp s0 qk (Nat.lt_of_lt_of_le (show w.heap.size < w1.heap.size + 1 by omega) sb.le); have t1 := At.kp s1 qk (Nat.lt_of_lt_of_le (show w.heap.size + 1 < w1.heap.size + 1 by omega) sb.le); have t2 := Rm.kp s2 qk (Nat.lt_of_lt_of_le (show w.heap.size + 1 < w1.heap.size + 1 by omega) sb.le); have t3 := Rm.kp s3 qk (Nat.lt_of_lt_of_le (show w.heap.size + 1 + 1 < w1.heap.size + 1 by omega) sb.le); have t4 := At.kp s4 qk (Nat.lt_of_lt_of_le (show w1.heap.size < w1.heap.size + 1 by omega) sb.le); have tb := Bh.step sb qk; clear qk; refine hK.out _ _ ⟨t0, t1, t2, t3, t4, tb⟩ (fun hS => ?_)) | (refine skip_if (by rfl) ?_; refine hK.out _ _ hS (fun hS => ?_)))
  clear hK K
  try simp only [Act.put, zA, zB, zC]
  refine rdy 12 rfl (fun K hK => ?_)
  (first | (refine take_if (by rfl) ?_; obtain ⟨s0, s1, s2, s3, s4, sb⟩ := hS; go_simp; (with_reducible refine (wi_c _ _ _ _ _ _ _ _ _ _ _ hw _).mono ?_); rintro e' w' ⟨rfl, qk⟩; have t0 := At.kp s0 qk (Nat.lt_of_lt_of_le (show w.heap.size < w1.heap.size + 1 by omega) sb.le); have t1 := At.kp s1 qk (Nat.lt_of_lt_of_le (show w.heap.size + 1 < w1.heap.size + 1 by omega) sb.le); have t2 := Rm.kp s2 qk (Nat.lt_of_lt_of_le (show w.heap.size + 1 < w1.heap.size + 1 by omega) sb.le); have t3 := Rm.kp s3 qk (Nat.lt_of_lt_of_le (show w.heap.size + 1 + 1 < w1.heap.size + 1 by omega) sb.le); have t4 := At.kp s4 qk (Nat.lt_of_lt_of_le (show w1.heap.size < w1.heap.size + 1 by omega) sb.le); have tb := Bh.step sb qk; clear qk; refine hK.out _ _ ⟨t0, t1, t2, t3, t4, tb⟩ (fun hS => ?_)) | (refine skip_if (by rfl) ?_; refine hK.out _ _ hS (fun hS => ?_)))
  clear hK K
  try simp only [Act.put, zA, zB, zC]
  (refine tk 13 ?_ rfl ?_ hS ?_; rotate_left; focus (first | (refine Or.inl ⟨by rfl, ?_⟩; intro w' hSw; obtain ⟨s0, s1, s2, s3, s4, sb⟩ := hSw; go_simp <;> try with_reducible rfl) | (refine Or.inr ⟨by rfl, ?_⟩; rfl)))
  try simp only [Act.put, zA, zB, zC]
  (refine tk 14 ?_ rfl (Or.inl ⟨by rfl, ?_⟩) hS ?_; rotate_left; focus (intro w' hSw; obtain ⟨s0, s1, s2, s3, s4, sb⟩ := hSw; go_simp <;> try with_reducible rfl))
  try simp only [Act.put, zA, zB, zC]
  (refine tk 15 ?_ rfl (Or.inl ⟨by rfl, ?_⟩) hS ?_; rotate_left; focus (intro w' hSw; obtain ⟨s0, s1, s2, s3, s4, sb⟩ := hSw; go_simp <;> try with_reducible rfl))
  try simp only [Act.put, zA, zB, zC]
  (refine tk 16 ?_ rfl ?_ hS ?_; rotate_left; focus (first | (refine Or.inl ⟨by rfl, ?_⟩; intro w' hSw; obtain ⟨s0, s1, s2, s3, s4, sb⟩ := hSw; obtain ⟨_, _, _, _, _, _, _, _, _⟩ := s0.out9; obtain ⟨_, _, _, _, _, _, _, _, _⟩ := s1.out9; obtain ⟨_, _, _⟩ := s4.out3; go_simp <;> try with_reducible rfl) | (refine Or.inr ⟨by rfl, ?_⟩; rfl)))
  try simp only [Act.put, zA, zB, zC]
  (refine tk 17 ?_ rfl ?_ hS ?_; rotate_left; focus (first | (refine Or.inl ⟨by rfl, ?_⟩; intro w' hSw; obtain ⟨s0, s1, s2, s3, s4, sb⟩ := hSw; go_simp <;> try with_reducible rfl) | (refine Or.inr ⟨by rfl, ?_⟩; rfl)))
  try simp only [Act.put, zA, zB, zC]
  (refine tk 18 ?_ rfl ?_ hS ?_; rotate_left; focus (first | (refine Or.inl ⟨by rfl, ?_⟩; intro w' hSw; obtain ⟨s0, s1, s2, s3, s4, sb⟩ := hSw; obtain ⟨_, _, _, _, _, _, _, _, _⟩ := s0.out9; obtain ⟨_, _, _, _, _, _, _, _, _⟩ := s1.out9; obtain ⟨_, _, _⟩ := s4.out3; go_simp <;> try with_reducible rfl) | (refine Or.inr ⟨by rfl, ?_⟩; rfl)))
  try simp only [Act.put, zA, zB, zC]
  refine rdy 19 rfl (fun K hK => ?_)
  (first | (refine take_if (by rfl) ?_; obtain ⟨s0, s1, s2, s3, s4, sb⟩ := hS; go_simp; (with_reducible refine (permits_w _ _ _ _ _ _ _ _ _ _ _ hp _).mono ?_); rintro e' w' ⟨rfl, qk⟩; have t0 := At.kp s0 qk (Nat.lt_of_lt_of_le (show w.heap.size < w1.heap.size + 1 by omega) sb.le); have t1 := At.kp s1 qk (Nat.lt_of_lt_of_le (show w.heap.size + 1 < w1.heap.size + 1 by omega) sb.le); have t2 := Rm.kp s2 qk (Nat.lt_of_lt_of_le (show w.heap.size + 1 < w1.heap.size + 1 by omega) sb.le); have t3 := Rm.kp s3 qk (Nat.lt_of_lt_of_le (show w.heap.size + 1 + 1 < w1.heap.size + 1 by omega) sb.le); have t4 := At.kp s4 qk (Nat.lt_of_lt_of_le (show w1.heap.size < w1.heap.size + 1 by omega) sb.le); have tb := Bh.step sb qk; clear qk; refine hK.out _ _ ⟨t0, t1, t2, t3, t4, tb⟩ (fun hS => ?_)) | (refine skip_if (by rfl) ?_; refine hK.out _ _ hS (fun hS => ?_)))
  clear hK K
  try simp only [Act.put, zA, zB, zC]
  (refine tk 20 ?_ rfl ?_ hS ?_; rotate_left; focus (first | (refine Or.inl ⟨by rfl, ?_⟩; intro w' hSw; obtain ⟨s0, s1, s2, s3, s4, sb⟩ := hSw; go_simp <;> try with_reducible rfl) | (refine Or.inr ⟨by rfl, ?_⟩; rfl)))
  try simp only [Act.put, zA, zB, zC]
  (refine tk 21 ?_ rfl (Or.inl ⟨by rfl, ?_⟩) hS ?_; rotate_left; focus (intro w' hSw; obtain ⟨s0, s1, s2, s3, s4, sb⟩ := hSw; go_simp <;> try with_reducible rfl))
  try simp only [Act.put, zA, zB, zC]
  refine wpAnyH_done (by kernel_rfl) ?_ _
  obtain ⟨s0, s1, s2, s3, s4, sb⟩ := hS
  obtain ⟨_, _, _, _, _, _, _, _, _⟩ := s0.out9; obtain ⟨_, _, _, _, _, _, _, _, _⟩ := s1.out9; obtain ⟨_, _, _⟩ := s4.out3
  obtain ⟨⟨_, _⟩, _, ⟨_, _⟩, _, ⟨_, _⟩, _, ⟨_, _⟩, _, ⟨_, _⟩, _, ⟨_, _⟩, _, ⟨_, _⟩, _, ⟨_, _⟩, _, ⟨_, _⟩, _⟩ := s2.out9
  obtain ⟨⟨_, _⟩, _, ⟨_, _⟩, _, ⟨_, _⟩, _, ⟨_, _⟩, _, ⟨_, _⟩, _, ⟨_, _⟩, _, ⟨_, _⟩, _, ⟨_, _⟩, _, ⟨_, _⟩, _⟩ := s3.out9
  go_wp2_with (first
    | (go_at_call 18; (with_reducible refine (tagged_w _ _ _ _ _ _ _ _ _ false false (by simp) _).mono ?_); rintro e' w5 ⟨rfl, qk⟩; have kbw5 : Bh w (w1.heap.size + 1) w5 := Bh.step sb qk; have Aw50 := At.kp s0 qk (Nat.lt_of_lt_of_le (show w.heap.size < w1.heap.size + 1 by omega) (Bh.le (W := w) sb)); obtain ⟨_, _, _, _, _, _, _, _, _⟩ := Aw50.out9; have Aw51 := At.kp s1 qk (Nat.lt_of_lt_of_le (show w.heap.size + 1 < w1.heap.size + 1 by omega) (Bh.le (W := w) sb)); obtain ⟨_, _, _, _, _, _, _, _, _⟩ := Aw51.out9; have Rw52 := Rm.kp s2 qk (Nat.lt_of_lt_of_le (show w.heap.size + 1 < w1.heap.size + 1 by omega) (Bh.le (W := w) sb)); obtain ⟨⟨_, _⟩, _, ⟨_, _⟩, _, ⟨_, _⟩, _, ⟨_, _⟩, _, ⟨_, _⟩, _, ⟨_, _⟩, _, ⟨_, _⟩, _, ⟨_, _⟩, _, ⟨_, _⟩, _⟩ := Rw52.out9; have Rw53 := Rm.kp s3 qk (Nat.lt_of_lt_of_le (show w.heap.size + 1 + 1 < w1.heap.size + 1 by omega) (Bh.le (W := w) sb)); obtain ⟨⟨_, _⟩, _, ⟨_, _⟩, _, ⟨_, _⟩, _, ⟨_, _⟩, _, ⟨_, _⟩, _, ⟨_, _⟩, _, ⟨_, _⟩, _, ⟨_, _⟩, _, ⟨_, _⟩, _⟩ := Rw53.out9; clear qk))
  refine bodyPost_ret (v := .agg #[false, dpe, dty, dmo, de, db, dt, dg, .int .u64 da]) ?_ rfl ⟨rfl, ?_⟩
  · simp [results, Try.results70, go_sem, *]
  · repeat' (first | with_reducible refine Kp.setCell ?_ ?_ _ | with_reducible refine Kp.allocs ?_ _ _)
    all_goals first | exact kbw5.kp | (dsimp only; omega)
set_option maxHeartbeats 4000000 in
set_option maxRecDepth 100000 in
theorem build_4 (ctg : Bool) (cpe cty cmo ce cb ct : Int) (cg : Bool) (ca : Int) (dtg : Bool) (dpe dty dmo de db dt : Int) (dg : Bool) (da : Int) (h : Fld ce cb ct ca) (k : Fld de db dt da) (ho : openB ctg cty = true) (hi : ordB (ofB de db da) (ofT de db dt dg da) (ofO de db dt dg da) = true) (hw : wiB ce cb ct cg ca de db dt dg da = true) (hp : perB cpe dpe = true) (ht : (dty != 262142) = true) (w : World) :
    Calls Try.prog 70 #[.agg #[ctg, cpe, cty, cmo, ce, cb, ct, cg, .int .u64 ca], .agg #[dtg, dpe, dty, dmo, de, db, dt, dg, .int .u64 da]] w fun e' w' => e' = .returned (.agg #[true, dpe, .int .i64 262143, dmo, de, db, dt, dg, .int .u64 da]) ∧ Kp w w' := by
  have A0 : At (w.heap.size) [ctg, cpe, cty, cmo, ce, cb, ct, cg, .int .u64 ca] (((w.alloc (.cells #[ctg, cpe, cty, cmo, ce, cb, ct, cg, .int .u64 ca] 25)).alloc (.cells #[dtg, dpe, dty, dmo, de, db, dt, dg, .int .u64 da] 25)).alloc (.cells #[false, (), (), (), (), (), (), false, .int .u64 0] 25)) := (((At.new' w [ctg, cpe, cty, cmo, ce, cb, ct, cg, .int .u64 ca] 25 (by simp)).alloc _).alloc _)
  have A1 : At (w.heap.size + 1) [dtg, dpe, dty, dmo, de, db, dt, dg, .int .u64 da] (((w.alloc (.cells #[ctg, cpe, cty, cmo, ce, cb, ct, cg, .int .u64 ca] 25)).alloc (.cells #[dtg, dpe, dty, dmo, de, db, dt, dg, .int .u64 da] 25)).alloc (.cells #[false, (), (), (), (), (), (), false, .int .u64 0] 25)) := ((At.new' (w.alloc (.cells #[ctg, cpe, cty, cmo, ce, cb, ct, cg, .int .u64 ca] 25)) [dtg, dpe, dty, dmo, de, db, dt, dg, .int .u64 da] 25 (by simp)).alloc _)
  have R1 : Rm (w.heap.size + 1) 9 (((w.alloc (.cells #[ctg, cpe, cty, cmo, ce, cb, ct, cg, .int .u64 ca] 25)).alloc (.cells #[dtg, dpe, dty, dmo, de, db, dt, dg, .int .u64 da] 25)).alloc (.cells #[false, (), (), (), (), (), (), false, .int .u64 0] 25)) := ((Rm.new' (w.alloc (.cells #[ctg, cpe, cty, cmo, ce, cb, ct, cg, .int .u64 ca] 25)) [dtg, dpe, dty, dmo, de, db, dt, dg, .int .u64 da] 25 9 (by simp) (by simp)).alloc _ _)
  have A2 : At (w.heap.size + 1 + 1) [false, (), (), (), (), (), (), false, .int .u64 0] (((w.alloc (.cells #[ctg, cpe, cty, cmo, ce, cb, ct, cg, .int .u64 ca] 25)).alloc (.cells #[dtg, dpe, dty, dmo, de, db, dt, dg, .int .u64 da] 25)).alloc (.cells #[false, (), (), (), (), (), (), false, .int .u64 0] 25)) := (At.new' ((w.alloc (.cells #[ctg, cpe, cty, cmo, ce, cb, ct, cg, .int .u64 ca] 25)).alloc (.cells #[dtg, dpe, dty, dmo, de, db, dt, dg, .int .u64 da] 25)) [false, (), (), (), (), (), (), false, .int .u64 0] 25 (by simp))
  have R2 : Rm (w.heap.size + 1 + 1) 9 (((w.alloc (.cells #[ctg, cpe, cty, cmo, ce, cb, ct, cg, .int .u64 ca] 25)).alloc (.cells #[dtg, dpe, dty, dmo, de, db, dt, dg, .int .u64 da] 25)).alloc (.cells #[false, (), (), (), (), (), (), false, .int .u64 0] 25)) := (Rm.new' ((w.alloc (.cells #[ctg, cpe, cty, cmo, ce, cb, ct, cg, .int .u64 ca] 25)).alloc (.cells #[dtg, dpe, dty, dmo, de, db, dt, dg, .int .u64 da] 25)) [false, (), (), (), (), (), (), false, .int .u64 0] 25 9 (by simp) (by simp))
  have kb : Bh w (w.heap.size + 3) (((w.alloc (.cells #[ctg, cpe, cty, cmo, ce, cb, ct, cg, .int .u64 ca] 25)).alloc (.cells #[dtg, dpe, dty, dmo, de, db, dt, dg, .int .u64 da] 25)).alloc (.cells #[false, (), (), (), (), (), (), false, .int .u64 0] 25)) := ⟨((((Kp.refl w).allocs _ _).allocs _ _).allocs _ _), by simp, by simp⟩
  go_enter Try.func70, Try.ntmps70
  go_upto_region 2 with (first
    | (go_at_call 16; (with_reducible refine (of_c _ _ _ _ _ _ _ _ _ k _).mono ?_); rintro e' w1 ⟨rfl, qk⟩; have kbw1 : Bh w (w.heap.size + 3) w1 := Bh.step (by with_reducible assumption) qk; have Aw10 : At (w.heap.size) [ctg, cpe, cty, cmo, ce, cb, ct, cg, .int .u64 ca] w1 := At.kp (by with_reducible assumption) qk (Nat.lt_of_lt_of_le (show w.heap.size < w.heap.size + 3 by omega) (Bh.le (W := w) (by with_reducible assumption))); obtain ⟨_, _, _, _, _, _, _, _, _⟩ := Aw10.out9; have Aw11 : At (w.heap.size + 1) [dtg, dpe, dty, dmo, de, db, dt, dg, .int .u64 da] w1 := At.kp (by with_reducible assumption) qk (Nat.lt_of_lt_of_le (show w.heap.size + 1 < w.heap.size + 3 by omega) (Bh.le (W := w) (by with_reducible assumption))); obtain ⟨_, _, _, _, _, _, _, _, _⟩ := Aw11.out9; have Rw12 : Rm (w.heap.size + 1) 9 w1 := Rm.kp (by with_reducible assumption) qk (Nat.lt_of_lt_of_le (show w.heap.size + 1 < w.heap.size + 3 by omega) (Bh.le (W := w) (by with_reducible assumption))); obtain ⟨⟨_, _⟩, _, ⟨_, _⟩, _, ⟨_, _⟩, _, ⟨_, _⟩, _, ⟨_, _⟩, _, ⟨_, _⟩, _, ⟨_, _⟩, _, ⟨_, _⟩, _, ⟨_, _⟩, _⟩ := Rw12.out9; have Rw13 : Rm (w.heap.size + 1 + 1) 9 w1 := Rm.kp (by with_reducible assumption) qk (Nat.lt_of_lt_of_le (show w.heap.size + 1 + 1 < w.heap.size + 3 by omega) (Bh.le (W := w) (by with_reducible assumption))); obtain ⟨⟨_, _⟩, _, ⟨_, _⟩, _, ⟨_, _⟩, _, ⟨_, _⟩, _, ⟨_, _⟩, _, ⟨_, _⟩, _, ⟨_, _⟩, _, ⟨_, _⟩, _, ⟨_, _⟩, _⟩ := Rw13.out9; clear qk))
  have Az0 : At (w.heap.size) [ctg, cpe, cty, cmo, ce, cb, ct, cg, .int .u64 ca] (w1.alloc (.cells #[.int .u64 (ofB de db da), .int .u64 (ofT de db dt dg da), .bool (ofO de db dt dg da)] 39)) := Aw10.alloc _
  have Az1 : At (w.heap.size + 1) [dtg, dpe, dty, dmo, de, db, dt, dg, .int .u64 da] (w1.alloc (.cells #[.int .u64 (ofB de db da), .int .u64 (ofT de db dt dg da), .bool (ofO de db dt dg da)] 39)) := Aw11.alloc _
  have Rz2 : Rm (w.heap.size + 1) 9 (w1.alloc (.cells #[.int .u64 (ofB de db da), .int .u64 (ofT de db dt dg da), .bool (ofO de db dt dg da)] 39)) := Rw12.alloc _ _
  have Rz3 : Rm (w.heap.size + 1 + 1) 9 (w1.alloc (.cells #[.int .u64 (ofB de db da), .int .u64 (ofT de db dt dg da), .bool (ofO de db dt dg da)] 39)) := Rw13.alloc _ _
  have Az4 : At (w1.heap.size) [.int .u64 (ofB de db da), .int .u64 (ofT de db dt dg da), .bool (ofO de db dt dg da)] (w1.alloc (.cells #[.int .u64 (ofB de db da), .int .u64 (ofT de db dt dg da), .bool (ofO de db dt dg da)] 39)) := At.new' w1 [.int .u64 (ofB de db da), .int .u64 (ofT de db dt dg da), .bool (ofO de db dt dg da)] 39 rfl
  have hz := kbw1.le
  have kz : Bh w (w1.heap.size + 1) (w1.alloc (.cells #[.int .u64 (ofB de db da), .int .u64 (ofT de db dt dg da), .bool (ofO de db dt dg da)] 39)) := ⟨kbw1.kp.allocs _ _, by omega, by simp⟩
  refine wp_region_held_drew (S := (fun w' => At (w.heap.size) [ctg, cpe, cty, cmo, ce, cb, ct, cg, .int .u64 ca] w' ∧ At (w.heap.size + 1) [dtg, dpe, dty, dmo, de, db, dt, dg, .int .u64 da] w' ∧ Rm (w.heap.size + 1) 9 w' ∧ Rm (w.heap.size + 1 + 1) 9 w' ∧ At (w1.heap.size) [.int .u64 (ofB de db da), .int .u64 (ofT de db dt dg da), .bool (ofO de db dt dg da)] w' ∧ Bh w (w1.heap.size + 1) w')) (by kernel_rfl) ⟨At.drew (by with_reducible assumption), At.drew (by with_reducible assumption), Rm.drew (by with_reducible assumption), Rm.drew (by with_reducible assumption), At.drew (by with_reducible assumption), Bh.drew (by with_reducible assumption)⟩ (fun hS => ?_)
  (refine tk 0 ?_ rfl (Or.inl ⟨by rfl, ?_⟩) hS ?_; rotate_left; focus (intro w' hSw; obtain ⟨s0, s1, s2, s3, s4, sb⟩ := hSw; obtain ⟨_, _, _, _, _, _, _, _, _⟩ := s0.out9; obtain ⟨_, _, _, _, _, _, _, _, _⟩ := s1.out9; obtain ⟨_, _, _⟩ := s4.out3; go_simp <;> try with_reducible rfl))
  try simp only [Act.put, zA, zB, zC]
  refine rdy 1 rfl (fun K hK => ?_)
  (refine take_if (by rfl) ?_; obtain ⟨s0, s1, s2, s3, s4, sb⟩ := hS; go_simp; (with_reducible refine (open_w _ _ _ _ _ _ _ _ _ _ ho _).mono ?_); rintro e' w' ⟨rfl, qk⟩; have t0 := At.kp s0 qk (Nat.lt_of_lt_of_le (show w.heap.size < w1.heap.size + 1 by omega) sb.le); have t1 := At.kp s1 qk (Nat.lt_of_lt_of_le (show w.heap.size + 1 < w1.heap.size + 1 by omega) sb.le); have t2 := Rm.kp s2 qk (Nat.lt_of_lt_of_le (show w.heap.size + 1 < w1.heap.size + 1 by omega) sb.le); have t3 := Rm.kp s3 qk (Nat.lt_of_lt_of_le (show w.heap.size + 1 + 1 < w1.heap.size + 1 by omega) sb.le); have t4 := At.kp s4 qk (Nat.lt_of_lt_of_le (show w1.heap.size < w1.heap.size + 1 by omega) sb.le); have tb := Bh.step sb qk; clear qk; refine hK.out _ _ ⟨t0, t1, t2, t3, t4, tb⟩ (fun hS => ?_))
  clear hK K
  try simp only [Act.put, zA, zB, zC]
  (refine tk 2 ?_ rfl (Or.inl ⟨by rfl, ?_⟩) hS ?_; rotate_left; focus (intro w' hSw; obtain ⟨s0, s1, s2, s3, s4, sb⟩ := hSw; go_simp <;> try with_reducible rfl))
  try simp only [Act.put, zA, zB, zC]
  (refine tk 3 ?_ rfl (Or.inl ⟨by rfl, ?_⟩) hS ?_; rotate_left; focus (intro w' hSw; obtain ⟨s0, s1, s2, s3, s4, sb⟩ := hSw; go_simp <;> try with_reducible rfl))
  try simp only [Act.put, zA, zB, zC]
  (refine tk 4 ?_ rfl ?_ hS ?_; rotate_left; focus (first | (refine Or.inl ⟨by rfl, ?_⟩; intro w' hSw; obtain ⟨s0, s1, s2, s3, s4, sb⟩ := hSw; obtain ⟨_, _, _, _, _, _, _, _, _⟩ := s0.out9; obtain ⟨_, _, _, _, _, _, _, _, _⟩ := s1.out9; obtain ⟨_, _, _⟩ := s4.out3; go_simp <;> try with_reducible rfl) | (refine Or.inr ⟨by rfl, ?_⟩; rfl)))
  try simp only [Act.put, zA, zB, zC]
  refine rdy 5 rfl (fun K hK => ?_)
  (first | (refine take_if (by rfl) ?_; obtain ⟨s0, s1, s2, s3, s4, sb⟩ := hS; go_simp; (with_reducible refine (inOrder_w _ _ _ _ hi _).mono ?_); rintro e' w' ⟨rfl, qk⟩; have t0 := At.kp s0 qk (Nat.lt_of_lt_of_le (show w.heap.size < w1.heap.size + 1 by omega) sb.le); have t1 := At.kp s1 qk (Nat.lt_of_lt_of_le (show w.heap.size + 1 < w1.heap.size + 1 by omega) sb.le); have t2 := Rm.kp s2 qk (Nat.lt_of_lt_of_le (show w.heap.size + 1 < w1.heap.size + 1 by omega) sb.le); have t3 := Rm.kp s3 qk (Nat.lt_of_lt_of_le (show w.heap.size + 1 + 1 < w1.heap.size + 1 by omega) sb.le); have t4 := At.kp s4 qk (Nat.lt_of_lt_of_le (show w1.heap.size < w1.heap.size + 1 by omega) sb.le); have tb := Bh.step sb qk; clear qk; refine hK.out _ _ ⟨t0, t1, t2, t3, t4, tb⟩ (fun hS => ?_)) | (refine skip_if (by rfl) ?_; refine hK.out _ _ hS (fun hS => ?_)))
  clear hK K
  try simp only [Act.put, zA, zB, zC]
  (refine tk 6 ?_ rfl ?_ hS ?_; rotate_left; focus (first | (refine Or.inl ⟨by rfl, ?_⟩; intro w' hSw; obtain ⟨s0, s1, s2, s3, s4, sb⟩ := hSw; go_simp <;> try with_reducible rfl) | (refine Or.inr ⟨by rfl, ?_⟩; rfl)))
  try simp only [Act.put, zA, zB, zC]
  (refine tk 7 ?_ rfl (Or.inl ⟨by rfl, ?_⟩) hS ?_; rotate_left; focus (intro w' hSw; obtain ⟨s0, s1, s2, s3, s4, sb⟩ := hSw; go_simp <;> try with_reducible rfl))
  try simp only [Act.put, zA, zB, zC]
  (refine tk 8 ?_ rfl (Or.inl ⟨by rfl, ?_⟩) hS ?_; rotate_left; focus (intro w' hSw; obtain ⟨s0, s1, s2, s3, s4, sb⟩ := hSw; go_simp <;> try with_reducible rfl))
  try simp only [Act.put, zA, zB, zC]
  (refine tk 9 ?_ rfl ?_ hS ?_; rotate_left; focus (first | (refine Or.inl ⟨by rfl, ?_⟩; intro w' hSw; obtain ⟨s0, s1, s2, s3, s4, sb⟩ := hSw; obtain ⟨_, _, _, _, _, _, _, _, _⟩ := s0.out9; obtain ⟨_, _, _, _, _, _, _, _, _⟩ := s1.out9; obtain ⟨_, _, _⟩ := s4.out3; go_simp <;> try with_reducible rfl) | (refine Or.inr ⟨by rfl, ?_⟩; rfl)))
  try simp only [Act.put, zA, zB, zC]
  (refine tk 10 ?_ rfl ?_ hS ?_; rotate_left; focus (first | (refine Or.inl ⟨by rfl, ?_⟩; intro w' hSw; obtain ⟨s0, s1, s2, s3, s4, sb⟩ := hSw; obtain ⟨_, _, _, _, _, _, _, _, _⟩ := s0.out9; obtain ⟨_, _, _, _, _, _, _, _, _⟩ := s1.out9; obtain ⟨_, _, _⟩ := s4.out3; go_simp <;> try with_reducible rfl) | (refine Or.inr ⟨by rfl, ?_⟩; rfl)))
  try simp only [Act.put, zA, zB, zC]
  refine rdy 11 rfl (fun K hK => ?_)
  (first | (refine take_if (by rfl) ?_; obtain ⟨s0, s1, s2, s3, s4, sb⟩ := hS; go_simp; (with_reducible refine (of_c _ _ _ _ _ _ _ _ _ h _).mono ?_); rintro e' w' ⟨rfl, qk⟩; have t0 := At.kp s0 qk (Nat.lt_of_lt_of_le (show w.heap.size < w1.heap.size + 1 by omega) sb.le); have t1 := At.kp s1 qk (Nat.lt_of_lt_of_le (show w.heap.size + 1 < w1.heap.size + 1 by omega) sb.le); have t2 := Rm.kp s2 qk (Nat.lt_of_lt_of_le (show w.heap.size + 1 < w1.heap.size + 1 by omega) sb.le); have t3 := Rm.kp s3 qk (Nat.lt_of_lt_of_le (show w.heap.size + 1 + 1 < w1.heap.size + 1 by omega) sb.le); have t4 := At.kp s4 qk (Nat.lt_of_lt_of_le (show w1.heap.size < w1.heap.size + 1 by omega) sb.le); have tb := Bh.step sb qk; clear qk; refine hK.out _ _ ⟨t0, t1, t2, t3, t4, tb⟩ (fun hS => ?_)) | (refine skip_if (by rfl) ?_; refine hK.out _ _ hS (fun hS => ?_)))
  clear hK K
  try simp only [Act.put, zA, zB, zC]
  refine rdy 12 rfl (fun K hK => ?_)
  (first | (refine take_if (by rfl) ?_; obtain ⟨s0, s1, s2, s3, s4, sb⟩ := hS; go_simp; (with_reducible refine (wi_c _ _ _ _ _ _ _ _ _ _ _ hw _).mono ?_); rintro e' w' ⟨rfl, qk⟩; have t0 := At.kp s0 qk (Nat.lt_of_lt_of_le (show w.heap.size < w1.heap.size + 1 by omega) sb.le); have t1 := At.kp s1 qk (Nat.lt_of_lt_of_le (show w.heap.size + 1 < w1.heap.size + 1 by omega) sb.le); have t2 := Rm.kp s2 qk (Nat.lt_of_lt_of_le (show w.heap.size + 1 < w1.heap.size + 1 by omega) sb.le); have t3 := Rm.kp s3 qk (Nat.lt_of_lt_of_le (show w.heap.size + 1 + 1 < w1.heap.size + 1 by omega) sb.le); have t4 := At.kp s4 qk (Nat.lt_of_lt_of_le (show w1.heap.size < w1.heap.size + 1 by omega) sb.le); have tb := Bh.step sb qk; clear qk; refine hK.out _ _ ⟨t0, t1, t2, t3, t4, tb⟩ (fun hS => ?_)) | (refine skip_if (by rfl) ?_; refine hK.out _ _ hS (fun hS => ?_)))
  clear hK K
  try simp only [Act.put, zA, zB, zC]
  (refine tk 13 ?_ rfl ?_ hS ?_; rotate_left; focus (first | (refine Or.inl ⟨by rfl, ?_⟩; intro w' hSw; obtain ⟨s0, s1, s2, s3, s4, sb⟩ := hSw; go_simp <;> try with_reducible rfl) | (refine Or.inr ⟨by rfl, ?_⟩; rfl)))
  try simp only [Act.put, zA, zB, zC]
  (refine tk 14 ?_ rfl (Or.inl ⟨by rfl, ?_⟩) hS ?_; rotate_left; focus (intro w' hSw; obtain ⟨s0, s1, s2, s3, s4, sb⟩ := hSw; go_simp <;> try with_reducible rfl))
  try simp only [Act.put, zA, zB, zC]
  (refine tk 15 ?_ rfl (Or.inl ⟨by rfl, ?_⟩) hS ?_; rotate_left; focus (intro w' hSw; obtain ⟨s0, s1, s2, s3, s4, sb⟩ := hSw; go_simp <;> try with_reducible rfl))
  try simp only [Act.put, zA, zB, zC]
  (refine tk 16 ?_ rfl ?_ hS ?_; rotate_left; focus (first | (refine Or.inl ⟨by rfl, ?_⟩; intro w' hSw; obtain ⟨s0, s1, s2, s3, s4, sb⟩ := hSw; obtain ⟨_, _, _, _, _, _, _, _, _⟩ := s0.out9; obtain ⟨_, _, _, _, _, _, _, _, _⟩ := s1.out9; obtain ⟨_, _, _⟩ := s4.out3; go_simp <;> try with_reducible rfl) | (refine Or.inr ⟨by rfl, ?_⟩; rfl)))
  try simp only [Act.put, zA, zB, zC]
  (refine tk 17 ?_ rfl ?_ hS ?_; rotate_left; focus (first | (refine Or.inl ⟨by rfl, ?_⟩; intro w' hSw; obtain ⟨s0, s1, s2, s3, s4, sb⟩ := hSw; go_simp <;> try with_reducible rfl) | (refine Or.inr ⟨by rfl, ?_⟩; rfl)))
  try simp only [Act.put, zA, zB, zC]
  (refine tk 18 ?_ rfl ?_ hS ?_; rotate_left; focus (first | (refine Or.inl ⟨by rfl, ?_⟩; intro w' hSw; obtain ⟨s0, s1, s2, s3, s4, sb⟩ := hSw; obtain ⟨_, _, _, _, _, _, _, _, _⟩ := s0.out9; obtain ⟨_, _, _, _, _, _, _, _, _⟩ := s1.out9; obtain ⟨_, _, _⟩ := s4.out3; go_simp <;> try with_reducible rfl) | (refine Or.inr ⟨by rfl, ?_⟩; rfl)))
  try simp only [Act.put, zA, zB, zC]
  refine rdy 19 rfl (fun K hK => ?_)
  (first | (refine take_if (by rfl) ?_; obtain ⟨s0, s1, s2, s3, s4, sb⟩ := hS; go_simp; (with_reducible refine (permits_w _ _ _ _ _ _ _ _ _ _ _ hp _).mono ?_); rintro e' w' ⟨rfl, qk⟩; have t0 := At.kp s0 qk (Nat.lt_of_lt_of_le (show w.heap.size < w1.heap.size + 1 by omega) sb.le); have t1 := At.kp s1 qk (Nat.lt_of_lt_of_le (show w.heap.size + 1 < w1.heap.size + 1 by omega) sb.le); have t2 := Rm.kp s2 qk (Nat.lt_of_lt_of_le (show w.heap.size + 1 < w1.heap.size + 1 by omega) sb.le); have t3 := Rm.kp s3 qk (Nat.lt_of_lt_of_le (show w.heap.size + 1 + 1 < w1.heap.size + 1 by omega) sb.le); have t4 := At.kp s4 qk (Nat.lt_of_lt_of_le (show w1.heap.size < w1.heap.size + 1 by omega) sb.le); have tb := Bh.step sb qk; clear qk; refine hK.out _ _ ⟨t0, t1, t2, t3, t4, tb⟩ (fun hS => ?_)) | (refine skip_if (by rfl) ?_; refine hK.out _ _ hS (fun hS => ?_)))
  clear hK K
  try simp only [Act.put, zA, zB, zC]
  (refine tk 20 ?_ rfl ?_ hS ?_; rotate_left; focus (first | (refine Or.inl ⟨by rfl, ?_⟩; intro w' hSw; obtain ⟨s0, s1, s2, s3, s4, sb⟩ := hSw; go_simp <;> try with_reducible rfl) | (refine Or.inr ⟨by rfl, ?_⟩; rfl)))
  try simp only [Act.put, zA, zB, zC]
  (refine tk 21 ?_ rfl (Or.inl ⟨by rfl, ?_⟩) hS ?_; rotate_left; focus (intro w' hSw; obtain ⟨s0, s1, s2, s3, s4, sb⟩ := hSw; go_simp <;> try with_reducible rfl))
  try simp only [Act.put, zA, zB, zC]
  refine wpAnyH_done (by kernel_rfl) ?_ _
  obtain ⟨s0, s1, s2, s3, s4, sb⟩ := hS
  obtain ⟨_, _, _, _, _, _, _, _, _⟩ := s0.out9; obtain ⟨_, _, _, _, _, _, _, _, _⟩ := s1.out9; obtain ⟨_, _, _⟩ := s4.out3
  obtain ⟨⟨_, _⟩, _, ⟨_, _⟩, _, ⟨_, _⟩, _, ⟨_, _⟩, _, ⟨_, _⟩, _, ⟨_, _⟩, _, ⟨_, _⟩, _, ⟨_, _⟩, _, ⟨_, _⟩, _⟩ := s2.out9
  obtain ⟨⟨_, _⟩, _, ⟨_, _⟩, _, ⟨_, _⟩, _, ⟨_, _⟩, _, ⟨_, _⟩, _, ⟨_, _⟩, _, ⟨_, _⟩, _, ⟨_, _⟩, _, ⟨_, _⟩, _⟩ := s3.out9
  go_wp2
  refine bodyPost_ret (v := .agg #[true, dpe, .int .i64 262143, dmo, de, db, dt, dg, .int .u64 da]) ?_ rfl ⟨rfl, ?_⟩
  · simp [results, Try.results70, go_sem, *]
  · repeat' (first | with_reducible refine Kp.setCell ?_ ?_ _ | with_reducible refine Kp.allocs ?_ _ _)
    all_goals first | exact sb.kp | (dsimp only; omega)
set_option maxHeartbeats 4000000 in
set_option maxRecDepth 100000 in
theorem build_5 (ctg : Bool) (cpe cty cmo ce cb ct : Int) (cg : Bool) (ca : Int) (dtg : Bool) (dpe dty dmo de db dt : Int) (dg : Bool) (da : Int) (h : Fld ce cb ct ca) (k : Fld de db dt da) (ho : openB ctg cty = true) (hi : ordB (ofB de db da) (ofT de db dt dg da) (ofO de db dt dg da) = true) (hw : wiB ce cb ct cg ca de db dt dg da = true) (hp : perB cpe dpe = true) (ht : (dty != 262142) = false) (hx : perB dpe 2 = false) (w : World) :
    Calls Try.prog 70 #[.agg #[ctg, cpe, cty, cmo, ce, cb, ct, cg, .int .u64 ca], .agg #[dtg, dpe, dty, dmo, de, db, dt, dg, .int .u64 da]] w fun e' w' => e' = .returned (.agg #[true, dpe, .int .i64 262143, dmo, de, db, dt, dg, .int .u64 da]) ∧ Kp w w' := by
  have A0 : At (w.heap.size) [ctg, cpe, cty, cmo, ce, cb, ct, cg, .int .u64 ca] (((w.alloc (.cells #[ctg, cpe, cty, cmo, ce, cb, ct, cg, .int .u64 ca] 25)).alloc (.cells #[dtg, dpe, dty, dmo, de, db, dt, dg, .int .u64 da] 25)).alloc (.cells #[false, (), (), (), (), (), (), false, .int .u64 0] 25)) := (((At.new' w [ctg, cpe, cty, cmo, ce, cb, ct, cg, .int .u64 ca] 25 (by simp)).alloc _).alloc _)
  have A1 : At (w.heap.size + 1) [dtg, dpe, dty, dmo, de, db, dt, dg, .int .u64 da] (((w.alloc (.cells #[ctg, cpe, cty, cmo, ce, cb, ct, cg, .int .u64 ca] 25)).alloc (.cells #[dtg, dpe, dty, dmo, de, db, dt, dg, .int .u64 da] 25)).alloc (.cells #[false, (), (), (), (), (), (), false, .int .u64 0] 25)) := ((At.new' (w.alloc (.cells #[ctg, cpe, cty, cmo, ce, cb, ct, cg, .int .u64 ca] 25)) [dtg, dpe, dty, dmo, de, db, dt, dg, .int .u64 da] 25 (by simp)).alloc _)
  have R1 : Rm (w.heap.size + 1) 9 (((w.alloc (.cells #[ctg, cpe, cty, cmo, ce, cb, ct, cg, .int .u64 ca] 25)).alloc (.cells #[dtg, dpe, dty, dmo, de, db, dt, dg, .int .u64 da] 25)).alloc (.cells #[false, (), (), (), (), (), (), false, .int .u64 0] 25)) := ((Rm.new' (w.alloc (.cells #[ctg, cpe, cty, cmo, ce, cb, ct, cg, .int .u64 ca] 25)) [dtg, dpe, dty, dmo, de, db, dt, dg, .int .u64 da] 25 9 (by simp) (by simp)).alloc _ _)
  have A2 : At (w.heap.size + 1 + 1) [false, (), (), (), (), (), (), false, .int .u64 0] (((w.alloc (.cells #[ctg, cpe, cty, cmo, ce, cb, ct, cg, .int .u64 ca] 25)).alloc (.cells #[dtg, dpe, dty, dmo, de, db, dt, dg, .int .u64 da] 25)).alloc (.cells #[false, (), (), (), (), (), (), false, .int .u64 0] 25)) := (At.new' ((w.alloc (.cells #[ctg, cpe, cty, cmo, ce, cb, ct, cg, .int .u64 ca] 25)).alloc (.cells #[dtg, dpe, dty, dmo, de, db, dt, dg, .int .u64 da] 25)) [false, (), (), (), (), (), (), false, .int .u64 0] 25 (by simp))
  have R2 : Rm (w.heap.size + 1 + 1) 9 (((w.alloc (.cells #[ctg, cpe, cty, cmo, ce, cb, ct, cg, .int .u64 ca] 25)).alloc (.cells #[dtg, dpe, dty, dmo, de, db, dt, dg, .int .u64 da] 25)).alloc (.cells #[false, (), (), (), (), (), (), false, .int .u64 0] 25)) := (Rm.new' ((w.alloc (.cells #[ctg, cpe, cty, cmo, ce, cb, ct, cg, .int .u64 ca] 25)).alloc (.cells #[dtg, dpe, dty, dmo, de, db, dt, dg, .int .u64 da] 25)) [false, (), (), (), (), (), (), false, .int .u64 0] 25 9 (by simp) (by simp))
  have kb : Bh w (w.heap.size + 3) (((w.alloc (.cells #[ctg, cpe, cty, cmo, ce, cb, ct, cg, .int .u64 ca] 25)).alloc (.cells #[dtg, dpe, dty, dmo, de, db, dt, dg, .int .u64 da] 25)).alloc (.cells #[false, (), (), (), (), (), (), false, .int .u64 0] 25)) := ⟨((((Kp.refl w).allocs _ _).allocs _ _).allocs _ _), by simp, by simp⟩
  go_enter Try.func70, Try.ntmps70
  go_upto_region 2 with (first
    | (go_at_call 16; (with_reducible refine (of_c _ _ _ _ _ _ _ _ _ k _).mono ?_); rintro e' w1 ⟨rfl, qk⟩; have kbw1 : Bh w (w.heap.size + 3) w1 := Bh.step (by with_reducible assumption) qk; have Aw10 : At (w.heap.size) [ctg, cpe, cty, cmo, ce, cb, ct, cg, .int .u64 ca] w1 := At.kp (by with_reducible assumption) qk (Nat.lt_of_lt_of_le (show w.heap.size < w.heap.size + 3 by omega) (Bh.le (W := w) (by with_reducible assumption))); obtain ⟨_, _, _, _, _, _, _, _, _⟩ := Aw10.out9; have Aw11 : At (w.heap.size + 1) [dtg, dpe, dty, dmo, de, db, dt, dg, .int .u64 da] w1 := At.kp (by with_reducible assumption) qk (Nat.lt_of_lt_of_le (show w.heap.size + 1 < w.heap.size + 3 by omega) (Bh.le (W := w) (by with_reducible assumption))); obtain ⟨_, _, _, _, _, _, _, _, _⟩ := Aw11.out9; have Rw12 : Rm (w.heap.size + 1) 9 w1 := Rm.kp (by with_reducible assumption) qk (Nat.lt_of_lt_of_le (show w.heap.size + 1 < w.heap.size + 3 by omega) (Bh.le (W := w) (by with_reducible assumption))); obtain ⟨⟨_, _⟩, _, ⟨_, _⟩, _, ⟨_, _⟩, _, ⟨_, _⟩, _, ⟨_, _⟩, _, ⟨_, _⟩, _, ⟨_, _⟩, _, ⟨_, _⟩, _, ⟨_, _⟩, _⟩ := Rw12.out9; have Rw13 : Rm (w.heap.size + 1 + 1) 9 w1 := Rm.kp (by with_reducible assumption) qk (Nat.lt_of_lt_of_le (show w.heap.size + 1 + 1 < w.heap.size + 3 by omega) (Bh.le (W := w) (by with_reducible assumption))); obtain ⟨⟨_, _⟩, _, ⟨_, _⟩, _, ⟨_, _⟩, _, ⟨_, _⟩, _, ⟨_, _⟩, _, ⟨_, _⟩, _, ⟨_, _⟩, _, ⟨_, _⟩, _, ⟨_, _⟩, _⟩ := Rw13.out9; clear qk))
  have Az0 : At (w.heap.size) [ctg, cpe, cty, cmo, ce, cb, ct, cg, .int .u64 ca] (w1.alloc (.cells #[.int .u64 (ofB de db da), .int .u64 (ofT de db dt dg da), .bool (ofO de db dt dg da)] 39)) := Aw10.alloc _
  have Az1 : At (w.heap.size + 1) [dtg, dpe, dty, dmo, de, db, dt, dg, .int .u64 da] (w1.alloc (.cells #[.int .u64 (ofB de db da), .int .u64 (ofT de db dt dg da), .bool (ofO de db dt dg da)] 39)) := Aw11.alloc _
  have Rz2 : Rm (w.heap.size + 1) 9 (w1.alloc (.cells #[.int .u64 (ofB de db da), .int .u64 (ofT de db dt dg da), .bool (ofO de db dt dg da)] 39)) := Rw12.alloc _ _
  have Rz3 : Rm (w.heap.size + 1 + 1) 9 (w1.alloc (.cells #[.int .u64 (ofB de db da), .int .u64 (ofT de db dt dg da), .bool (ofO de db dt dg da)] 39)) := Rw13.alloc _ _
  have Az4 : At (w1.heap.size) [.int .u64 (ofB de db da), .int .u64 (ofT de db dt dg da), .bool (ofO de db dt dg da)] (w1.alloc (.cells #[.int .u64 (ofB de db da), .int .u64 (ofT de db dt dg da), .bool (ofO de db dt dg da)] 39)) := At.new' w1 [.int .u64 (ofB de db da), .int .u64 (ofT de db dt dg da), .bool (ofO de db dt dg da)] 39 rfl
  have hz := kbw1.le
  have kz : Bh w (w1.heap.size + 1) (w1.alloc (.cells #[.int .u64 (ofB de db da), .int .u64 (ofT de db dt dg da), .bool (ofO de db dt dg da)] 39)) := ⟨kbw1.kp.allocs _ _, by omega, by simp⟩
  refine wp_region_held_drew (S := (fun w' => At (w.heap.size) [ctg, cpe, cty, cmo, ce, cb, ct, cg, .int .u64 ca] w' ∧ At (w.heap.size + 1) [dtg, dpe, dty, dmo, de, db, dt, dg, .int .u64 da] w' ∧ Rm (w.heap.size + 1) 9 w' ∧ Rm (w.heap.size + 1 + 1) 9 w' ∧ At (w1.heap.size) [.int .u64 (ofB de db da), .int .u64 (ofT de db dt dg da), .bool (ofO de db dt dg da)] w' ∧ Bh w (w1.heap.size + 1) w')) (by kernel_rfl) ⟨At.drew (by with_reducible assumption), At.drew (by with_reducible assumption), Rm.drew (by with_reducible assumption), Rm.drew (by with_reducible assumption), At.drew (by with_reducible assumption), Bh.drew (by with_reducible assumption)⟩ (fun hS => ?_)
  (refine tk 0 ?_ rfl (Or.inl ⟨by rfl, ?_⟩) hS ?_; rotate_left; focus (intro w' hSw; obtain ⟨s0, s1, s2, s3, s4, sb⟩ := hSw; obtain ⟨_, _, _, _, _, _, _, _, _⟩ := s0.out9; obtain ⟨_, _, _, _, _, _, _, _, _⟩ := s1.out9; obtain ⟨_, _, _⟩ := s4.out3; go_simp <;> try with_reducible rfl))
  try simp only [Act.put, zA, zB, zC]
  refine rdy 1 rfl (fun K hK => ?_)
  (refine take_if (by rfl) ?_; obtain ⟨s0, s1, s2, s3, s4, sb⟩ := hS; go_simp; (with_reducible refine (open_w _ _ _ _ _ _ _ _ _ _ ho _).mono ?_); rintro e' w' ⟨rfl, qk⟩; have t0 := At.kp s0 qk (Nat.lt_of_lt_of_le (show w.heap.size < w1.heap.size + 1 by omega) sb.le); have t1 := At.kp s1 qk (Nat.lt_of_lt_of_le (show w.heap.size + 1 < w1.heap.size + 1 by omega) sb.le); have t2 := Rm.kp s2 qk (Nat.lt_of_lt_of_le (show w.heap.size + 1 < w1.heap.size + 1 by omega) sb.le); have t3 := Rm.kp s3 qk (Nat.lt_of_lt_of_le (show w.heap.size + 1 + 1 < w1.heap.size + 1 by omega) sb.le); have t4 := At.kp s4 qk (Nat.lt_of_lt_of_le (show w1.heap.size < w1.heap.size + 1 by omega) sb.le); have tb := Bh.step sb qk; clear qk; refine hK.out _ _ ⟨t0, t1, t2, t3, t4, tb⟩ (fun hS => ?_))
  clear hK K
  try simp only [Act.put, zA, zB, zC]
  (refine tk 2 ?_ rfl (Or.inl ⟨by rfl, ?_⟩) hS ?_; rotate_left; focus (intro w' hSw; obtain ⟨s0, s1, s2, s3, s4, sb⟩ := hSw; go_simp <;> try with_reducible rfl))
  try simp only [Act.put, zA, zB, zC]
  (refine tk 3 ?_ rfl (Or.inl ⟨by rfl, ?_⟩) hS ?_; rotate_left; focus (intro w' hSw; obtain ⟨s0, s1, s2, s3, s4, sb⟩ := hSw; go_simp <;> try with_reducible rfl))
  try simp only [Act.put, zA, zB, zC]
  (refine tk 4 ?_ rfl ?_ hS ?_; rotate_left; focus (first | (refine Or.inl ⟨by rfl, ?_⟩; intro w' hSw; obtain ⟨s0, s1, s2, s3, s4, sb⟩ := hSw; obtain ⟨_, _, _, _, _, _, _, _, _⟩ := s0.out9; obtain ⟨_, _, _, _, _, _, _, _, _⟩ := s1.out9; obtain ⟨_, _, _⟩ := s4.out3; go_simp <;> try with_reducible rfl) | (refine Or.inr ⟨by rfl, ?_⟩; rfl)))
  try simp only [Act.put, zA, zB, zC]
  refine rdy 5 rfl (fun K hK => ?_)
  (first | (refine take_if (by rfl) ?_; obtain ⟨s0, s1, s2, s3, s4, sb⟩ := hS; go_simp; (with_reducible refine (inOrder_w _ _ _ _ hi _).mono ?_); rintro e' w' ⟨rfl, qk⟩; have t0 := At.kp s0 qk (Nat.lt_of_lt_of_le (show w.heap.size < w1.heap.size + 1 by omega) sb.le); have t1 := At.kp s1 qk (Nat.lt_of_lt_of_le (show w.heap.size + 1 < w1.heap.size + 1 by omega) sb.le); have t2 := Rm.kp s2 qk (Nat.lt_of_lt_of_le (show w.heap.size + 1 < w1.heap.size + 1 by omega) sb.le); have t3 := Rm.kp s3 qk (Nat.lt_of_lt_of_le (show w.heap.size + 1 + 1 < w1.heap.size + 1 by omega) sb.le); have t4 := At.kp s4 qk (Nat.lt_of_lt_of_le (show w1.heap.size < w1.heap.size + 1 by omega) sb.le); have tb := Bh.step sb qk; clear qk; refine hK.out _ _ ⟨t0, t1, t2, t3, t4, tb⟩ (fun hS => ?_)) | (refine skip_if (by rfl) ?_; refine hK.out _ _ hS (fun hS => ?_)))
  clear hK K
  try simp only [Act.put, zA, zB, zC]
  (refine tk 6 ?_ rfl ?_ hS ?_; rotate_left; focus (first | (refine Or.inl ⟨by rfl, ?_⟩; intro w' hSw; obtain ⟨s0, s1, s2, s3, s4, sb⟩ := hSw; go_simp <;> try with_reducible rfl) | (refine Or.inr ⟨by rfl, ?_⟩; rfl)))
  try simp only [Act.put, zA, zB, zC]
  (refine tk 7 ?_ rfl (Or.inl ⟨by rfl, ?_⟩) hS ?_; rotate_left; focus (intro w' hSw; obtain ⟨s0, s1, s2, s3, s4, sb⟩ := hSw; go_simp <;> try with_reducible rfl))
  try simp only [Act.put, zA, zB, zC]
  (refine tk 8 ?_ rfl (Or.inl ⟨by rfl, ?_⟩) hS ?_; rotate_left; focus (intro w' hSw; obtain ⟨s0, s1, s2, s3, s4, sb⟩ := hSw; go_simp <;> try with_reducible rfl))
  try simp only [Act.put, zA, zB, zC]
  (refine tk 9 ?_ rfl ?_ hS ?_; rotate_left; focus (first | (refine Or.inl ⟨by rfl, ?_⟩; intro w' hSw; obtain ⟨s0, s1, s2, s3, s4, sb⟩ := hSw; obtain ⟨_, _, _, _, _, _, _, _, _⟩ := s0.out9; obtain ⟨_, _, _, _, _, _, _, _, _⟩ := s1.out9; obtain ⟨_, _, _⟩ := s4.out3; go_simp <;> try with_reducible rfl) | (refine Or.inr ⟨by rfl, ?_⟩; rfl)))
  try simp only [Act.put, zA, zB, zC]
  (refine tk 10 ?_ rfl ?_ hS ?_; rotate_left; focus (first | (refine Or.inl ⟨by rfl, ?_⟩; intro w' hSw; obtain ⟨s0, s1, s2, s3, s4, sb⟩ := hSw; obtain ⟨_, _, _, _, _, _, _, _, _⟩ := s0.out9; obtain ⟨_, _, _, _, _, _, _, _, _⟩ := s1.out9; obtain ⟨_, _, _⟩ := s4.out3; go_simp <;> try with_reducible rfl) | (refine Or.inr ⟨by rfl, ?_⟩; rfl)))
  try simp only [Act.put, zA, zB, zC]
  refine rdy 11 rfl (fun K hK => ?_)
  (first | (refine take_if (by rfl) ?_; obtain ⟨s0, s1, s2, s3, s4, sb⟩ := hS; go_simp; (with_reducible refine (of_c _ _ _ _ _ _ _ _ _ h _).mono ?_); rintro e' w' ⟨rfl, qk⟩; have t0 := At.kp s0 qk (Nat.lt_of_lt_of_le (show w.heap.size < w1.heap.size + 1 by omega) sb.le); have t1 := At.kp s1 qk (Nat.lt_of_lt_of_le (show w.heap.size + 1 < w1.heap.size + 1 by omega) sb.le); have t2 := Rm.kp s2 qk (Nat.lt_of_lt_of_le (show w.heap.size + 1 < w1.heap.size + 1 by omega) sb.le); have t3 := Rm.kp s3 qk (Nat.lt_of_lt_of_le (show w.heap.size + 1 + 1 < w1.heap.size + 1 by omega) sb.le); have t4 := At.kp s4 qk (Nat.lt_of_lt_of_le (show w1.heap.size < w1.heap.size + 1 by omega) sb.le); have tb := Bh.step sb qk; clear qk; refine hK.out _ _ ⟨t0, t1, t2, t3, t4, tb⟩ (fun hS => ?_)) | (refine skip_if (by rfl) ?_; refine hK.out _ _ hS (fun hS => ?_)))
  clear hK K
  try simp only [Act.put, zA, zB, zC]
  refine rdy 12 rfl (fun K hK => ?_)
  (first | (refine take_if (by rfl) ?_; obtain ⟨s0, s1, s2, s3, s4, sb⟩ := hS; go_simp; (with_reducible refine (wi_c _ _ _ _ _ _ _ _ _ _ _ hw _).mono ?_); rintro e' w' ⟨rfl, qk⟩; have t0 := At.kp s0 qk (Nat.lt_of_lt_of_le (show w.heap.size < w1.heap.size + 1 by omega) sb.le); have t1 := At.kp s1 qk (Nat.lt_of_lt_of_le (show w.heap.size + 1 < w1.heap.size + 1 by omega) sb.le); have t2 := Rm.kp s2 qk (Nat.lt_of_lt_of_le (show w.heap.size + 1 < w1.heap.size + 1 by omega) sb.le); have t3 := Rm.kp s3 qk (Nat.lt_of_lt_of_le (show w.heap.size + 1 + 1 < w1.heap.size + 1 by omega) sb.le); have t4 := At.kp s4 qk (Nat.lt_of_lt_of_le (show w1.heap.size < w1.heap.size + 1 by omega) sb.le); have tb := Bh.step sb qk; clear qk; refine hK.out _ _ ⟨t0, t1, t2, t3, t4, tb⟩ (fun hS => ?_)) | (refine skip_if (by rfl) ?_; refine hK.out _ _ hS (fun hS => ?_)))
  clear hK K
  try simp only [Act.put, zA, zB, zC]
  (refine tk 13 ?_ rfl ?_ hS ?_; rotate_left; focus (first | (refine Or.inl ⟨by rfl, ?_⟩; intro w' hSw; obtain ⟨s0, s1, s2, s3, s4, sb⟩ := hSw; go_simp <;> try with_reducible rfl) | (refine Or.inr ⟨by rfl, ?_⟩; rfl)))
  try simp only [Act.put, zA, zB, zC]
  (refine tk 14 ?_ rfl (Or.inl ⟨by rfl, ?_⟩) hS ?_; rotate_left; focus (intro w' hSw; obtain ⟨s0, s1, s2, s3, s4, sb⟩ := hSw; go_simp <;> try with_reducible rfl))
  try simp only [Act.put, zA, zB, zC]
  (refine tk 15 ?_ rfl (Or.inl ⟨by rfl, ?_⟩) hS ?_; rotate_left; focus (intro w' hSw; obtain ⟨s0, s1, s2, s3, s4, sb⟩ := hSw; go_simp <;> try with_reducible rfl))
  try simp only [Act.put, zA, zB, zC]
  (refine tk 16 ?_ rfl ?_ hS ?_; rotate_left; focus (first | (refine Or.inl ⟨by rfl, ?_⟩; intro w' hSw; obtain ⟨s0, s1, s2, s3, s4, sb⟩ := hSw; obtain ⟨_, _, _, _, _, _, _, _, _⟩ := s0.out9; obtain ⟨_, _, _, _, _, _, _, _, _⟩ := s1.out9; obtain ⟨_, _, _⟩ := s4.out3; go_simp <;> try with_reducible rfl) | (refine Or.inr ⟨by rfl, ?_⟩; rfl)))
  try simp only [Act.put, zA, zB, zC]
  (refine tk 17 ?_ rfl ?_ hS ?_; rotate_left; focus (first | (refine Or.inl ⟨by rfl, ?_⟩; intro w' hSw; obtain ⟨s0, s1, s2, s3, s4, sb⟩ := hSw; go_simp <;> try with_reducible rfl) | (refine Or.inr ⟨by rfl, ?_⟩; rfl)))
  try simp only [Act.put, zA, zB, zC]
  (refine tk 18 ?_ rfl ?_ hS ?_; rotate_left; focus (first | (refine Or.inl ⟨by rfl, ?_⟩; intro w' hSw; obtain ⟨s0, s1, s2, s3, s4, sb⟩ := hSw; obtain ⟨_, _, _, _, _, _, _, _, _⟩ := s0.out9; obtain ⟨_, _, _, _, _, _, _, _, _⟩ := s1.out9; obtain ⟨_, _, _⟩ := s4.out3; go_simp <;> try with_reducible rfl) | (refine Or.inr ⟨by rfl, ?_⟩; rfl)))
  try simp only [Act.put, zA, zB, zC]
  refine rdy 19 rfl (fun K hK => ?_)
  (first | (refine take_if (by rfl) ?_; obtain ⟨s0, s1, s2, s3, s4, sb⟩ := hS; go_simp; (with_reducible refine (permits_w _ _ _ _ _ _ _ _ _ _ _ hp _).mono ?_); rintro e' w' ⟨rfl, qk⟩; have t0 := At.kp s0 qk (Nat.lt_of_lt_of_le (show w.heap.size < w1.heap.size + 1 by omega) sb.le); have t1 := At.kp s1 qk (Nat.lt_of_lt_of_le (show w.heap.size + 1 < w1.heap.size + 1 by omega) sb.le); have t2 := Rm.kp s2 qk (Nat.lt_of_lt_of_le (show w.heap.size + 1 < w1.heap.size + 1 by omega) sb.le); have t3 := Rm.kp s3 qk (Nat.lt_of_lt_of_le (show w.heap.size + 1 + 1 < w1.heap.size + 1 by omega) sb.le); have t4 := At.kp s4 qk (Nat.lt_of_lt_of_le (show w1.heap.size < w1.heap.size + 1 by omega) sb.le); have tb := Bh.step sb qk; clear qk; refine hK.out _ _ ⟨t0, t1, t2, t3, t4, tb⟩ (fun hS => ?_)) | (refine skip_if (by rfl) ?_; refine hK.out _ _ hS (fun hS => ?_)))
  clear hK K
  try simp only [Act.put, zA, zB, zC]
  (refine tk 20 ?_ rfl ?_ hS ?_; rotate_left; focus (first | (refine Or.inl ⟨by rfl, ?_⟩; intro w' hSw; obtain ⟨s0, s1, s2, s3, s4, sb⟩ := hSw; go_simp <;> try with_reducible rfl) | (refine Or.inr ⟨by rfl, ?_⟩; rfl)))
  try simp only [Act.put, zA, zB, zC]
  (refine tk 21 ?_ rfl (Or.inl ⟨by rfl, ?_⟩) hS ?_; rotate_left; focus (intro w' hSw; obtain ⟨s0, s1, s2, s3, s4, sb⟩ := hSw; go_simp <;> try with_reducible rfl))
  try simp only [Act.put, zA, zB, zC]
  refine wpAnyH_done (by kernel_rfl) ?_ _
  obtain ⟨s0, s1, s2, s3, s4, sb⟩ := hS
  obtain ⟨_, _, _, _, _, _, _, _, _⟩ := s0.out9; obtain ⟨_, _, _, _, _, _, _, _, _⟩ := s1.out9; obtain ⟨_, _, _⟩ := s4.out3
  obtain ⟨⟨_, _⟩, _, ⟨_, _⟩, _, ⟨_, _⟩, _, ⟨_, _⟩, _, ⟨_, _⟩, _, ⟨_, _⟩, _, ⟨_, _⟩, _, ⟨_, _⟩, _, ⟨_, _⟩, _⟩ := s2.out9
  obtain ⟨⟨_, _⟩, _, ⟨_, _⟩, _, ⟨_, _⟩, _, ⟨_, _⟩, _, ⟨_, _⟩, _, ⟨_, _⟩, _, ⟨_, _⟩, _, ⟨_, _⟩, _, ⟨_, _⟩, _⟩ := s3.out9
  go_wp2_with (first
    | (go_at_call 76; (with_reducible refine (permits_w _ _ _ _ _ _ _ _ _ 2 _ hx _).mono ?_); rintro e' w5 ⟨rfl, qk⟩; have kbw5 : Bh w (w1.heap.size + 1) w5 := Bh.step (Bh.set2 sb (by dsimp only; omega)) qk; have Aw50 : At (w.heap.size) [ctg, cpe, cty, cmo, ce, cb, ct, cg, .int .u64 ca] w5 := At.kp (At.set s0 (by dsimp only; omega) _) qk (Nat.lt_of_lt_of_le (show w.heap.size < w1.heap.size + 1 by omega) (Bh.le (W := w) (Bh.set2 sb (by dsimp only; omega)))); obtain ⟨_, _, _, _, _, _, _, _, _⟩ := Aw50.out9; have Aw51 : At (w.heap.size + 1) [true, dpe, dty, dmo, de, db, dt, dg, .int .u64 da] w5 := At.kp (At.put s1 0 (by simp) (.bool true)) qk (Nat.lt_of_lt_of_le (show w.heap.size + 1 < w1.heap.size + 1 by omega) (Bh.le (W := w) (Bh.set2 sb (by dsimp only; omega)))); obtain ⟨_, _, _, _, _, _, _, _, _⟩ := Aw51.out9; have Rw52 : Rm (w.heap.size + 1) 9 w5 := Rm.kp (Rm.set s2 _) qk (Nat.lt_of_lt_of_le (show w.heap.size + 1 < w1.heap.size + 1 by omega) (Bh.le (W := w) (Bh.set2 sb (by dsimp only; omega)))); obtain ⟨⟨_, _⟩, _, ⟨_, _⟩, _, ⟨_, _⟩, _, ⟨_, _⟩, _, ⟨_, _⟩, _, ⟨_, _⟩, _, ⟨_, _⟩, _, ⟨_, _⟩, _, ⟨_, _⟩, _⟩ := Rw52.out9; have Rw53 : Rm (w.heap.size + 1 + 1) 9 w5 := Rm.kp (Rm.set s3 _) qk (Nat.lt_of_lt_of_le (show w.heap.size + 1 + 1 < w1.heap.size + 1 by omega) (Bh.le (W := w) (Bh.set2 sb (by dsimp only; omega)))); obtain ⟨⟨_, _⟩, _, ⟨_, _⟩, _, ⟨_, _⟩, _, ⟨_, _⟩, _, ⟨_, _⟩, _, ⟨_, _⟩, _, ⟨_, _⟩, _, ⟨_, _⟩, _, ⟨_, _⟩, _⟩ := Rw53.out9; clear qk))
  refine bodyPost_ret (v := .agg #[true, dpe, .int .i64 262143, dmo, de, db, dt, dg, .int .u64 da]) ?_ rfl ⟨rfl, ?_⟩
  · simp [results, Try.results70, go_sem, *]
  · repeat' (first | with_reducible refine Kp.setCell ?_ ?_ _ | with_reducible refine Kp.allocs ?_ _ _)
    all_goals first | exact kbw5.kp | (dsimp only; omega)
set_option maxHeartbeats 4000000 in
set_option maxRecDepth 100000 in
theorem build_6 (ctg : Bool) (cpe cty cmo ce cb ct : Int) (cg : Bool) (ca : Int) (dtg : Bool) (dpe dty dmo de db dt : Int) (dg : Bool) (da : Int) (h : Fld ce cb ct ca) (k : Fld de db dt da) (ho : openB ctg cty = true) (hi : ordB (ofB de db da) (ofT de db dt dg da) (ofO de db dt dg da) = true) (hw : wiB ce cb ct cg ca de db dt dg da = true) (hp : perB cpe dpe = true) (ht : (dty != 262142) = false) (hx : perB dpe 2 = true) (hty : Hid (dty = 262142)) (w : World) :
    Calls Try.prog 70 #[.agg #[ctg, cpe, cty, cmo, ce, cb, ct, cg, .int .u64 ca], .agg #[dtg, dpe, dty, dmo, de, db, dt, dg, .int .u64 da]] w fun e' w' => e' = .returned (.agg #[true, dpe, .int .i64 262142, dmo, de, db, dt, dg, .int .u64 da]) ∧ Kp w w' := by
  have A0 : At (w.heap.size) [ctg, cpe, cty, cmo, ce, cb, ct, cg, .int .u64 ca] (((w.alloc (.cells #[ctg, cpe, cty, cmo, ce, cb, ct, cg, .int .u64 ca] 25)).alloc (.cells #[dtg, dpe, dty, dmo, de, db, dt, dg, .int .u64 da] 25)).alloc (.cells #[false, (), (), (), (), (), (), false, .int .u64 0] 25)) := (((At.new' w [ctg, cpe, cty, cmo, ce, cb, ct, cg, .int .u64 ca] 25 (by simp)).alloc _).alloc _)
  have A1 : At (w.heap.size + 1) [dtg, dpe, dty, dmo, de, db, dt, dg, .int .u64 da] (((w.alloc (.cells #[ctg, cpe, cty, cmo, ce, cb, ct, cg, .int .u64 ca] 25)).alloc (.cells #[dtg, dpe, dty, dmo, de, db, dt, dg, .int .u64 da] 25)).alloc (.cells #[false, (), (), (), (), (), (), false, .int .u64 0] 25)) := ((At.new' (w.alloc (.cells #[ctg, cpe, cty, cmo, ce, cb, ct, cg, .int .u64 ca] 25)) [dtg, dpe, dty, dmo, de, db, dt, dg, .int .u64 da] 25 (by simp)).alloc _)
  have R1 : Rm (w.heap.size + 1) 9 (((w.alloc (.cells #[ctg, cpe, cty, cmo, ce, cb, ct, cg, .int .u64 ca] 25)).alloc (.cells #[dtg, dpe, dty, dmo, de, db, dt, dg, .int .u64 da] 25)).alloc (.cells #[false, (), (), (), (), (), (), false, .int .u64 0] 25)) := ((Rm.new' (w.alloc (.cells #[ctg, cpe, cty, cmo, ce, cb, ct, cg, .int .u64 ca] 25)) [dtg, dpe, dty, dmo, de, db, dt, dg, .int .u64 da] 25 9 (by simp) (by simp)).alloc _ _)
  have A2 : At (w.heap.size + 1 + 1) [false, (), (), (), (), (), (), false, .int .u64 0] (((w.alloc (.cells #[ctg, cpe, cty, cmo, ce, cb, ct, cg, .int .u64 ca] 25)).alloc (.cells #[dtg, dpe, dty, dmo, de, db, dt, dg, .int .u64 da] 25)).alloc (.cells #[false, (), (), (), (), (), (), false, .int .u64 0] 25)) := (At.new' ((w.alloc (.cells #[ctg, cpe, cty, cmo, ce, cb, ct, cg, .int .u64 ca] 25)).alloc (.cells #[dtg, dpe, dty, dmo, de, db, dt, dg, .int .u64 da] 25)) [false, (), (), (), (), (), (), false, .int .u64 0] 25 (by simp))
  have R2 : Rm (w.heap.size + 1 + 1) 9 (((w.alloc (.cells #[ctg, cpe, cty, cmo, ce, cb, ct, cg, .int .u64 ca] 25)).alloc (.cells #[dtg, dpe, dty, dmo, de, db, dt, dg, .int .u64 da] 25)).alloc (.cells #[false, (), (), (), (), (), (), false, .int .u64 0] 25)) := (Rm.new' ((w.alloc (.cells #[ctg, cpe, cty, cmo, ce, cb, ct, cg, .int .u64 ca] 25)).alloc (.cells #[dtg, dpe, dty, dmo, de, db, dt, dg, .int .u64 da] 25)) [false, (), (), (), (), (), (), false, .int .u64 0] 25 9 (by simp) (by simp))
  have kb : Bh w (w.heap.size + 3) (((w.alloc (.cells #[ctg, cpe, cty, cmo, ce, cb, ct, cg, .int .u64 ca] 25)).alloc (.cells #[dtg, dpe, dty, dmo, de, db, dt, dg, .int .u64 da] 25)).alloc (.cells #[false, (), (), (), (), (), (), false, .int .u64 0] 25)) := ⟨((((Kp.refl w).allocs _ _).allocs _ _).allocs _ _), by simp, by simp⟩
  go_enter Try.func70, Try.ntmps70
  go_upto_region 2 with (first
    | (go_at_call 16; (with_reducible refine (of_c _ _ _ _ _ _ _ _ _ k _).mono ?_); rintro e' w1 ⟨rfl, qk⟩; have kbw1 : Bh w (w.heap.size + 3) w1 := Bh.step (by with_reducible assumption) qk; have Aw10 : At (w.heap.size) [ctg, cpe, cty, cmo, ce, cb, ct, cg, .int .u64 ca] w1 := At.kp (by with_reducible assumption) qk (Nat.lt_of_lt_of_le (show w.heap.size < w.heap.size + 3 by omega) (Bh.le (W := w) (by with_reducible assumption))); obtain ⟨_, _, _, _, _, _, _, _, _⟩ := Aw10.out9; have Aw11 : At (w.heap.size + 1) [dtg, dpe, dty, dmo, de, db, dt, dg, .int .u64 da] w1 := At.kp (by with_reducible assumption) qk (Nat.lt_of_lt_of_le (show w.heap.size + 1 < w.heap.size + 3 by omega) (Bh.le (W := w) (by with_reducible assumption))); obtain ⟨_, _, _, _, _, _, _, _, _⟩ := Aw11.out9; have Rw12 : Rm (w.heap.size + 1) 9 w1 := Rm.kp (by with_reducible assumption) qk (Nat.lt_of_lt_of_le (show w.heap.size + 1 < w.heap.size + 3 by omega) (Bh.le (W := w) (by with_reducible assumption))); obtain ⟨⟨_, _⟩, _, ⟨_, _⟩, _, ⟨_, _⟩, _, ⟨_, _⟩, _, ⟨_, _⟩, _, ⟨_, _⟩, _, ⟨_, _⟩, _, ⟨_, _⟩, _, ⟨_, _⟩, _⟩ := Rw12.out9; have Rw13 : Rm (w.heap.size + 1 + 1) 9 w1 := Rm.kp (by with_reducible assumption) qk (Nat.lt_of_lt_of_le (show w.heap.size + 1 + 1 < w.heap.size + 3 by omega) (Bh.le (W := w) (by with_reducible assumption))); obtain ⟨⟨_, _⟩, _, ⟨_, _⟩, _, ⟨_, _⟩, _, ⟨_, _⟩, _, ⟨_, _⟩, _, ⟨_, _⟩, _, ⟨_, _⟩, _, ⟨_, _⟩, _, ⟨_, _⟩, _⟩ := Rw13.out9; clear qk))
  have Az0 : At (w.heap.size) [ctg, cpe, cty, cmo, ce, cb, ct, cg, .int .u64 ca] (w1.alloc (.cells #[.int .u64 (ofB de db da), .int .u64 (ofT de db dt dg da), .bool (ofO de db dt dg da)] 39)) := Aw10.alloc _
  have Az1 : At (w.heap.size + 1) [dtg, dpe, dty, dmo, de, db, dt, dg, .int .u64 da] (w1.alloc (.cells #[.int .u64 (ofB de db da), .int .u64 (ofT de db dt dg da), .bool (ofO de db dt dg da)] 39)) := Aw11.alloc _
  have Rz2 : Rm (w.heap.size + 1) 9 (w1.alloc (.cells #[.int .u64 (ofB de db da), .int .u64 (ofT de db dt dg da), .bool (ofO de db dt dg da)] 39)) := Rw12.alloc _ _
  have Rz3 : Rm (w.heap.size + 1 + 1) 9 (w1.alloc (.cells #[.int .u64 (ofB de db da), .int .u64 (ofT de db dt dg da), .bool (ofO de db dt dg da)] 39)) := Rw13.alloc _ _
  have Az4 : At (w1.heap.size) [.int .u64 (ofB de db da), .int .u64 (ofT de db dt dg da), .bool (ofO de db dt dg da)] (w1.alloc (.cells #[.int .u64 (ofB de db da), .int .u64 (ofT de db dt dg da), .bool (ofO de db dt dg da)] 39)) := At.new' w1 [.int .u64 (ofB de db da), .int .u64 (ofT de db dt dg da), .bool (ofO de db dt dg da)] 39 rfl
  have hz := kbw1.le
  have kz : Bh w (w1.heap.size + 1) (w1.alloc (.cells #[.int .u64 (ofB de db da), .int .u64 (ofT de db dt dg da), .bool (ofO de db dt dg da)] 39)) := ⟨kbw1.kp.allocs _ _, by omega, by simp⟩
  refine wp_region_held_drew (S := (fun w' => At (w.heap.size) [ctg, cpe, cty, cmo, ce, cb, ct, cg, .int .u64 ca] w' ∧ At (w.heap.size + 1) [dtg, dpe, dty, dmo, de, db, dt, dg, .int .u64 da] w' ∧ Rm (w.heap.size + 1) 9 w' ∧ Rm (w.heap.size + 1 + 1) 9 w' ∧ At (w1.heap.size) [.int .u64 (ofB de db da), .int .u64 (ofT de db dt dg da), .bool (ofO de db dt dg da)] w' ∧ Bh w (w1.heap.size + 1) w')) (by kernel_rfl) ⟨At.drew (by with_reducible assumption), At.drew (by with_reducible assumption), Rm.drew (by with_reducible assumption), Rm.drew (by with_reducible assumption), At.drew (by with_reducible assumption), Bh.drew (by with_reducible assumption)⟩ (fun hS => ?_)
  (refine tk 0 ?_ rfl (Or.inl ⟨by rfl, ?_⟩) hS ?_; rotate_left; focus (intro w' hSw; obtain ⟨s0, s1, s2, s3, s4, sb⟩ := hSw; obtain ⟨_, _, _, _, _, _, _, _, _⟩ := s0.out9; obtain ⟨_, _, _, _, _, _, _, _, _⟩ := s1.out9; obtain ⟨_, _, _⟩ := s4.out3; go_simp <;> try with_reducible rfl))
  try simp only [Act.put, zA, zB, zC]
  refine rdy 1 rfl (fun K hK => ?_)
  (refine take_if (by rfl) ?_; obtain ⟨s0, s1, s2, s3, s4, sb⟩ := hS; go_simp; (with_reducible refine (open_w _ _ _ _ _ _ _ _ _ _ ho _).mono ?_); rintro e' w' ⟨rfl, qk⟩; have t0 := At.kp s0 qk (Nat.lt_of_lt_of_le (show w.heap.size < w1.heap.size + 1 by omega) sb.le); have t1 := At.kp s1 qk (Nat.lt_of_lt_of_le (show w.heap.size + 1 < w1.heap.size + 1 by omega) sb.le); have t2 := Rm.kp s2 qk (Nat.lt_of_lt_of_le (show w.heap.size + 1 < w1.heap.size + 1 by omega) sb.le); have t3 := Rm.kp s3 qk (Nat.lt_of_lt_of_le (show w.heap.size + 1 + 1 < w1.heap.size + 1 by omega) sb.le); have t4 := At.kp s4 qk (Nat.lt_of_lt_of_le (show w1.heap.size < w1.heap.size + 1 by omega) sb.le); have tb := Bh.step sb qk; clear qk; refine hK.out _ _ ⟨t0, t1, t2, t3, t4, tb⟩ (fun hS => ?_))
  clear hK K
  try simp only [Act.put, zA, zB, zC]
  (refine tk 2 ?_ rfl (Or.inl ⟨by rfl, ?_⟩) hS ?_; rotate_left; focus (intro w' hSw; obtain ⟨s0, s1, s2, s3, s4, sb⟩ := hSw; go_simp <;> try with_reducible rfl))
  try simp only [Act.put, zA, zB, zC]
  (refine tk 3 ?_ rfl (Or.inl ⟨by rfl, ?_⟩) hS ?_; rotate_left; focus (intro w' hSw; obtain ⟨s0, s1, s2, s3, s4, sb⟩ := hSw; go_simp <;> try with_reducible rfl))
  try simp only [Act.put, zA, zB, zC]
  (refine tk 4 ?_ rfl ?_ hS ?_; rotate_left; focus (first | (refine Or.inl ⟨by rfl, ?_⟩; intro w' hSw; obtain ⟨s0, s1, s2, s3, s4, sb⟩ := hSw; obtain ⟨_, _, _, _, _, _, _, _, _⟩ := s0.out9; obtain ⟨_, _, _, _, _, _, _, _, _⟩ := s1.out9; obtain ⟨_, _, _⟩ := s4.out3; go_simp <;> try with_reducible rfl) | (refine Or.inr ⟨by rfl, ?_⟩; rfl)))
  try simp only [Act.put, zA, zB, zC]
  refine rdy 5 rfl (fun K hK => ?_)
  (first | (refine take_if (by rfl) ?_; obtain ⟨s0, s1, s2, s3, s4, sb⟩ := hS; go_simp; (with_reducible refine (inOrder_w _ _ _ _ hi _).mono ?_); rintro e' w' ⟨rfl, qk⟩; have t0 := At.kp s0 qk (Nat.lt_of_lt_of_le (show w.heap.size < w1.heap.size + 1 by omega) sb.le); have t1 := At.kp s1 qk (Nat.lt_of_lt_of_le (show w.heap.size + 1 < w1.heap.size + 1 by omega) sb.le); have t2 := Rm.kp s2 qk (Nat.lt_of_lt_of_le (show w.heap.size + 1 < w1.heap.size + 1 by omega) sb.le); have t3 := Rm.kp s3 qk (Nat.lt_of_lt_of_le (show w.heap.size + 1 + 1 < w1.heap.size + 1 by omega) sb.le); have t4 := At.kp s4 qk (Nat.lt_of_lt_of_le (show w1.heap.size < w1.heap.size + 1 by omega) sb.le); have tb := Bh.step sb qk; clear qk; refine hK.out _ _ ⟨t0, t1, t2, t3, t4, tb⟩ (fun hS => ?_)) | (refine skip_if (by rfl) ?_; refine hK.out _ _ hS (fun hS => ?_)))
  clear hK K
  try simp only [Act.put, zA, zB, zC]
  (refine tk 6 ?_ rfl ?_ hS ?_; rotate_left; focus (first | (refine Or.inl ⟨by rfl, ?_⟩; intro w' hSw; obtain ⟨s0, s1, s2, s3, s4, sb⟩ := hSw; go_simp <;> try with_reducible rfl) | (refine Or.inr ⟨by rfl, ?_⟩; rfl)))
  try simp only [Act.put, zA, zB, zC]
  (refine tk 7 ?_ rfl (Or.inl ⟨by rfl, ?_⟩) hS ?_; rotate_left; focus (intro w' hSw; obtain ⟨s0, s1, s2, s3, s4, sb⟩ := hSw; go_simp <;> try with_reducible rfl))
  try simp only [Act.put, zA, zB, zC]
  (refine tk 8 ?_ rfl (Or.inl ⟨by rfl, ?_⟩) hS ?_; rotate_left; focus (intro w' hSw; obtain ⟨s0, s1, s2, s3, s4, sb⟩ := hSw; go_simp <;> try with_reducible rfl))
  try simp only [Act.put, zA, zB, zC]
  (refine tk 9 ?_ rfl ?_ hS ?_; rotate_left; focus (first | (refine Or.inl ⟨by rfl, ?_⟩; intro w' hSw; obtain ⟨s0, s1, s2, s3, s4, sb⟩ := hSw; obtain ⟨_, _, _, _, _, _, _, _, _⟩ := s0.out9; obtain ⟨_, _, _, _, _, _, _, _, _⟩ := s1.out9; obtain ⟨_, _, _⟩ := s4.out3; go_simp <;> try with_reducible rfl) | (refine Or.inr ⟨by rfl, ?_⟩; rfl)))
  try simp only [Act.put, zA, zB, zC]
  (refine tk 10 ?_ rfl ?_ hS ?_; rotate_left; focus (first | (refine Or.inl ⟨by rfl, ?_⟩; intro w' hSw; obtain ⟨s0, s1, s2, s3, s4, sb⟩ := hSw; obtain ⟨_, _, _, _, _, _, _, _, _⟩ := s0.out9; obtain ⟨_, _, _, _, _, _, _, _, _⟩ := s1.out9; obtain ⟨_, _, _⟩ := s4.out3; go_simp <;> try with_reducible rfl) | (refine Or.inr ⟨by rfl, ?_⟩; rfl)))
  try simp only [Act.put, zA, zB, zC]
  refine rdy 11 rfl (fun K hK => ?_)
  (first | (refine take_if (by rfl) ?_; obtain ⟨s0, s1, s2, s3, s4, sb⟩ := hS; go_simp; (with_reducible refine (of_c _ _ _ _ _ _ _ _ _ h _).mono ?_); rintro e' w' ⟨rfl, qk⟩; have t0 := At.kp s0 qk (Nat.lt_of_lt_of_le (show w.heap.size < w1.heap.size + 1 by omega) sb.le); have t1 := At.kp s1 qk (Nat.lt_of_lt_of_le (show w.heap.size + 1 < w1.heap.size + 1 by omega) sb.le); have t2 := Rm.kp s2 qk (Nat.lt_of_lt_of_le (show w.heap.size + 1 < w1.heap.size + 1 by omega) sb.le); have t3 := Rm.kp s3 qk (Nat.lt_of_lt_of_le (show w.heap.size + 1 + 1 < w1.heap.size + 1 by omega) sb.le); have t4 := At.kp s4 qk (Nat.lt_of_lt_of_le (show w1.heap.size < w1.heap.size + 1 by omega) sb.le); have tb := Bh.step sb qk; clear qk; refine hK.out _ _ ⟨t0, t1, t2, t3, t4, tb⟩ (fun hS => ?_)) | (refine skip_if (by rfl) ?_; refine hK.out _ _ hS (fun hS => ?_)))
  clear hK K
  try simp only [Act.put, zA, zB, zC]
  refine rdy 12 rfl (fun K hK => ?_)
  (first | (refine take_if (by rfl) ?_; obtain ⟨s0, s1, s2, s3, s4, sb⟩ := hS; go_simp; (with_reducible refine (wi_c _ _ _ _ _ _ _ _ _ _ _ hw _).mono ?_); rintro e' w' ⟨rfl, qk⟩; have t0 := At.kp s0 qk (Nat.lt_of_lt_of_le (show w.heap.size < w1.heap.size + 1 by omega) sb.le); have t1 := At.kp s1 qk (Nat.lt_of_lt_of_le (show w.heap.size + 1 < w1.heap.size + 1 by omega) sb.le); have t2 := Rm.kp s2 qk (Nat.lt_of_lt_of_le (show w.heap.size + 1 < w1.heap.size + 1 by omega) sb.le); have t3 := Rm.kp s3 qk (Nat.lt_of_lt_of_le (show w.heap.size + 1 + 1 < w1.heap.size + 1 by omega) sb.le); have t4 := At.kp s4 qk (Nat.lt_of_lt_of_le (show w1.heap.size < w1.heap.size + 1 by omega) sb.le); have tb := Bh.step sb qk; clear qk; refine hK.out _ _ ⟨t0, t1, t2, t3, t4, tb⟩ (fun hS => ?_)) | (refine skip_if (by rfl) ?_; refine hK.out _ _ hS (fun hS => ?_)))
  clear hK K
  try simp only [Act.put, zA, zB, zC]
  (refine tk 13 ?_ rfl ?_ hS ?_; rotate_left; focus (first | (refine Or.inl ⟨by rfl, ?_⟩; intro w' hSw; obtain ⟨s0, s1, s2, s3, s4, sb⟩ := hSw; go_simp <;> try with_reducible rfl) | (refine Or.inr ⟨by rfl, ?_⟩; rfl)))
  try simp only [Act.put, zA, zB, zC]
  (refine tk 14 ?_ rfl (Or.inl ⟨by rfl, ?_⟩) hS ?_; rotate_left; focus (intro w' hSw; obtain ⟨s0, s1, s2, s3, s4, sb⟩ := hSw; go_simp <;> try with_reducible rfl))
  try simp only [Act.put, zA, zB, zC]
  (refine tk 15 ?_ rfl (Or.inl ⟨by rfl, ?_⟩) hS ?_; rotate_left; focus (intro w' hSw; obtain ⟨s0, s1, s2, s3, s4, sb⟩ := hSw; go_simp <;> try with_reducible rfl))
  try simp only [Act.put, zA, zB, zC]
  (refine tk 16 ?_ rfl ?_ hS ?_; rotate_left; focus (first | (refine Or.inl ⟨by rfl, ?_⟩; intro w' hSw; obtain ⟨s0, s1, s2, s3, s4, sb⟩ := hSw; obtain ⟨_, _, _, _, _, _, _, _, _⟩ := s0.out9; obtain ⟨_, _, _, _, _, _, _, _, _⟩ := s1.out9; obtain ⟨_, _, _⟩ := s4.out3; go_simp <;> try with_reducible rfl) | (refine Or.inr ⟨by rfl, ?_⟩; rfl)))
  try simp only [Act.put, zA, zB, zC]
  (refine tk 17 ?_ rfl ?_ hS ?_; rotate_left; focus (first | (refine Or.inl ⟨by rfl, ?_⟩; intro w' hSw; obtain ⟨s0, s1, s2, s3, s4, sb⟩ := hSw; go_simp <;> try with_reducible rfl) | (refine Or.inr ⟨by rfl, ?_⟩; rfl)))
  try simp only [Act.put, zA, zB, zC]
  (refine tk 18 ?_ rfl ?_ hS ?_; rotate_left; focus (first | (refine Or.inl ⟨by rfl, ?_⟩; intro w' hSw; obtain ⟨s0, s1, s2, s3, s4, sb⟩ := hSw; obtain ⟨_, _, _, _, _, _, _, _, _⟩ := s0.out9; obtain ⟨_, _, _, _, _, _, _, _, _⟩ := s1.out9; obtain ⟨_, _, _⟩ := s4.out3; go_simp <;> try with_reducible rfl) | (refine Or.inr ⟨by rfl, ?_⟩; rfl)))
  try simp only [Act.put, zA, zB, zC]
  refine rdy 19 rfl (fun K hK => ?_)
  (first | (refine take_if (by rfl) ?_; obtain ⟨s0, s1, s2, s3, s4, sb⟩ := hS; go_simp; (with_reducible refine (permits_w _ _ _ _ _ _ _ _ _ _ _ hp _).mono ?_); rintro e' w' ⟨rfl, qk⟩; have t0 := At.kp s0 qk (Nat.lt_of_lt_of_le (show w.heap.size < w1.heap.size + 1 by omega) sb.le); have t1 := At.kp s1 qk (Nat.lt_of_lt_of_le (show w.heap.size + 1 < w1.heap.size + 1 by omega) sb.le); have t2 := Rm.kp s2 qk (Nat.lt_of_lt_of_le (show w.heap.size + 1 < w1.heap.size + 1 by omega) sb.le); have t3 := Rm.kp s3 qk (Nat.lt_of_lt_of_le (show w.heap.size + 1 + 1 < w1.heap.size + 1 by omega) sb.le); have t4 := At.kp s4 qk (Nat.lt_of_lt_of_le (show w1.heap.size < w1.heap.size + 1 by omega) sb.le); have tb := Bh.step sb qk; clear qk; refine hK.out _ _ ⟨t0, t1, t2, t3, t4, tb⟩ (fun hS => ?_)) | (refine skip_if (by rfl) ?_; refine hK.out _ _ hS (fun hS => ?_)))
  clear hK K
  try simp only [Act.put, zA, zB, zC]
  (refine tk 20 ?_ rfl ?_ hS ?_; rotate_left; focus (first | (refine Or.inl ⟨by rfl, ?_⟩; intro w' hSw; obtain ⟨s0, s1, s2, s3, s4, sb⟩ := hSw; go_simp <;> try with_reducible rfl) | (refine Or.inr ⟨by rfl, ?_⟩; rfl)))
  try simp only [Act.put, zA, zB, zC]
  (refine tk 21 ?_ rfl (Or.inl ⟨by rfl, ?_⟩) hS ?_; rotate_left; focus (intro w' hSw; obtain ⟨s0, s1, s2, s3, s4, sb⟩ := hSw; go_simp <;> try with_reducible rfl))
  try simp only [Act.put, zA, zB, zC]
  refine wpAnyH_done (by kernel_rfl) ?_ _
  obtain ⟨s0, s1, s2, s3, s4, sb⟩ := hS
  obtain ⟨_, _, _, _, _, _, _, _, _⟩ := s0.out9; obtain ⟨_, _, _, _, _, _, _, _, _⟩ := s1.out9; obtain ⟨_, _, _⟩ := s4.out3
  obtain ⟨⟨_, _⟩, _, ⟨_, _⟩, _, ⟨_, _⟩, _, ⟨_, _⟩, _, ⟨_, _⟩, _, ⟨_, _⟩, _, ⟨_, _⟩, _, ⟨_, _⟩, _, ⟨_, _⟩, _⟩ := s2.out9
  obtain ⟨⟨_, _⟩, _, ⟨_, _⟩, _, ⟨_, _⟩, _, ⟨_, _⟩, _, ⟨_, _⟩, _, ⟨_, _⟩, _, ⟨_, _⟩, _, ⟨_, _⟩, _, ⟨_, _⟩, _⟩ := s3.out9
  go_wp2_with (first
    | (go_at_call 76; (with_reducible refine (permits_w _ _ _ _ _ _ _ _ _ 2 _ hx _).mono ?_); rintro e' w5 ⟨rfl, qk⟩; have kbw5 : Bh w (w1.heap.size + 1) w5 := Bh.step (Bh.set2 sb (by dsimp only; omega)) qk; have Aw50 : At (w.heap.size) [ctg, cpe, cty, cmo, ce, cb, ct, cg, .int .u64 ca] w5 := At.kp (At.set s0 (by dsimp only; omega) _) qk (Nat.lt_of_lt_of_le (show w.heap.size < w1.heap.size + 1 by omega) (Bh.le (W := w) (Bh.set2 sb (by dsimp only; omega)))); obtain ⟨_, _, _, _, _, _, _, _, _⟩ := Aw50.out9; have Aw51 : At (w.heap.size + 1) [true, dpe, dty, dmo, de, db, dt, dg, .int .u64 da] w5 := At.kp (At.put s1 0 (by simp) (.bool true)) qk (Nat.lt_of_lt_of_le (show w.heap.size + 1 < w1.heap.size + 1 by omega) (Bh.le (W := w) (Bh.set2 sb (by dsimp only; omega)))); obtain ⟨_, _, _, _, _, _, _, _, _⟩ := Aw51.out9; have Rw52 : Rm (w.heap.size + 1) 9 w5 := Rm.kp (Rm.set s2 _) qk (Nat.lt_of_lt_of_le (show w.heap.size + 1 < w1.heap.size + 1 by omega) (Bh.le (W := w) (Bh.set2 sb (by dsimp only; omega)))); obtain ⟨⟨_, _⟩, _, ⟨_, _⟩, _, ⟨_, _⟩, _, ⟨_, _⟩, _, ⟨_, _⟩, _, ⟨_, _⟩, _, ⟨_, _⟩, _, ⟨_, _⟩, _, ⟨_, _⟩, _⟩ := Rw52.out9; have Rw53 : Rm (w.heap.size + 1 + 1) 9 w5 := Rm.kp (Rm.set s3 _) qk (Nat.lt_of_lt_of_le (show w.heap.size + 1 + 1 < w1.heap.size + 1 by omega) (Bh.le (W := w) (Bh.set2 sb (by dsimp only; omega)))); obtain ⟨⟨_, _⟩, _, ⟨_, _⟩, _, ⟨_, _⟩, _, ⟨_, _⟩, _, ⟨_, _⟩, _, ⟨_, _⟩, _, ⟨_, _⟩, _, ⟨_, _⟩, _, ⟨_, _⟩, _⟩ := Rw53.out9; clear qk))
  refine bodyPost_ret (v := .agg #[true, dpe, .int .i64 262142, dmo, de, db, dt, dg, .int .u64 da]) ?_ rfl ⟨rfl, ?_⟩
  · simp [results, Try.results70, go_sem, *]; exact hty.out
  · repeat' (first | with_reducible refine Kp.setCell ?_ ?_ _ | with_reducible refine Kp.allocs ?_ _ _)
    all_goals first | exact kbw5.kp | (dsimp only; omega)
theorem build_w (ctg : Bool) (cpe cty cmo ce cb ct : Int) (cg : Bool) (ca : Int) (dtg : Bool) (dpe dty dmo de db dt : Int) (dg : Bool) (da : Int) (h : Fld ce cb ct ca) (k : Fld de db dt da) (v : Bool) (hv : buildB ctg cpe cty ce cb ct cg ca dpe de db dt dg da = v) (w : World) :
    Calls Try.prog 70 #[.agg #[ctg, cpe, cty, cmo, ce, cb, ct, cg, .int .u64 ca], .agg #[dtg, dpe, dty, dmo, de, db, dt, dg, .int .u64 da]] w fun e' w' => e' = .returned (.agg #[v, dpe, .int .i64 (btV v dpe dty), dmo, de, db, dt, dg, .int .u64 da]) ∧ Kp w w' := by
  cases ho : openB ctg cty
  · obtain rfl : false = v := by rw [← hv]; simp [buildB, ho]
    exact build_0 _ _ _ _ _ _ _ _ _ _ _ _ _ _ _ _ _ _ h k ho w
  · cases hi : orderB de db dt dg da
    · obtain rfl : false = v := by rw [← hv]; simp [buildB, ho, hi]
      exact build_1 _ _ _ _ _ _ _ _ _ _ _ _ _ _ _ _ _ _ h k ho hi w
    · cases hw : wiB ce cb ct cg ca de db dt dg da
      · obtain rfl : false = v := by rw [← hv]; simp [buildB, ho, hi, hw]
        exact build_2 _ _ _ _ _ _ _ _ _ _ _ _ _ _ _ _ _ _ h k ho hi hw w
      · cases hp : perB cpe dpe
        · obtain rfl : false = v := by rw [← hv]; simp [buildB, ho, hi, hw, hp]
          exact build_3 _ _ _ _ _ _ _ _ _ _ _ _ _ _ _ _ _ _ h k ho hi hw hp w
        · obtain rfl : true = v := by rw [← hv]; simp [buildB, ho, hi, hw, hp]
          cases ht : (dty != 262142)
          · have ht' : (dty == 262142) = true := by simpa [bne] using ht
            have hty : dty = 262142 := by simpa using ht'
            cases hx : perB dpe 2
            · rw [show btV true dpe dty = 262143 by unfold btV; rw [ht', hx]; rfl]
              exact build_5 _ _ _ _ _ _ _ _ _ _ _ _ _ _ _ _ _ _ h k ho hi hw hp ht hx w
            · rw [show btV true dpe dty = 262142 by unfold btV; rw [ht', hx]; rfl]
              exact build_6 _ _ _ _ _ _ _ _ _ _ _ _ _ _ _ _ _ _ h k ho hi hw hp ht hx (Lib.hid hty) w
          · have ht' : (dty == 262142) = false := by simpa [bne] using ht
            rw [show btV true dpe dty = 262143 by unfold btV; rw [ht']; rfl]
            exact build_4 _ _ _ _ _ _ _ _ _ _ _ _ _ _ _ _ _ _ h k ho hi hw hp ht w
end Go.Proofs.Ytkddgjaflcjhiaa
