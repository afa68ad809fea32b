/-
  The contract of layer 6's own 'works': what is sealed is opened by what can. No condition.
-/
import Derived.Test.YtkddgjaflcjhiaaOWk
namespace Go.Proofs.Ytkddgjaflcjhiaa
open Go.ChangeShapes Go.WideShapes Go.ChangeAt Go.RowKit Go.Maps
set_option linter.unusedVariables false
set_option linter.unusedSimpArgs false
set_option maxHeartbeats 2000000 in
set_option maxRecDepth 100000 in
theorem works_w (w : World) : Calls Try.prog 13 #[] w fun e' w' => e' = .returned (.bool true) ∧ Below w.heap.size w w' := by
  go_enter Try.func13, Try.ntmps13
  go_upto_region 5 with (first
    | (go_at_call 4; (with_reducible refine (wk_root0 _).mono ?_); rintro e' w1 ⟨rfl, qk⟩; have HKw1 := Lib.hid qk; have B1 := Lib.hid qk.1; have l1 := qk.size; clear qk)
    | (go_at_call 4; (with_reducible refine (wk_root1 _).mono ?_); rintro e' w2 ⟨rfl, qk⟩; have HKw2 := Lib.hid qk; have qw20 : w2.cell? ⟨w1.heap.size, 0, none⟩ = some (.bool true) := qk.c; have qw21 : w2.cell? ⟨w1.heap.size, 1, none⟩ = some (.int .i64 65535) := qk.c; have qw22 : w2.cell? ⟨w1.heap.size, 2, none⟩ = some (.int .i64 262143) := qk.c; have qw23 : w2.cell? ⟨w1.heap.size, 3, none⟩ = some (.int .i64 0) := qk.c; have qw24 : w2.cell? ⟨w1.heap.size, 4, none⟩ = some (.int .i64 52) := qk.c; have qw25 : w2.cell? ⟨w1.heap.size, 5, none⟩ = some (.int .i64 0) := qk.c; have qw26 : w2.cell? ⟨w1.heap.size, 6, none⟩ = some (.int .i64 0) := qk.c; have qw27 : w2.cell? ⟨w1.heap.size, 7, none⟩ = some (.bool true) := qk.c; have qw28 : w2.cell? ⟨w1.heap.size, 8, none⟩ = some (.int .u64 5) := qk.c; have lw2 : w1.heap.size < w2.heap.size := (by have := qk.size; (try simp at this); omega); have B2 := Lib.hid ((B1.out.alloc l1 _).trans (qk.1.mono (by simp; omega))); clear qk)
    | (go_at_call 41; (with_reducible refine (wk_seal _).mono ?_); rintro e' w3 ⟨rfl, qk⟩; have HKw3 := Lib.hid qk; have qw30 : w3.cell? ⟨w1.heap.size, 0, none⟩ = some (.bool true) := qk.c; have qw31 : w3.cell? ⟨w1.heap.size, 1, none⟩ = some (.int .i64 65535) := qk.c; have qw32 : w3.cell? ⟨w1.heap.size, 2, none⟩ = some (.int .i64 262143) := qk.c; have qw33 : w3.cell? ⟨w1.heap.size, 3, none⟩ = some (.int .i64 0) := qk.c; have qw34 : w3.cell? ⟨w1.heap.size, 4, none⟩ = some (.int .i64 52) := qk.c; have qw35 : w3.cell? ⟨w1.heap.size, 5, none⟩ = some (.int .i64 0) := qk.c; have qw36 : w3.cell? ⟨w1.heap.size, 6, none⟩ = some (.int .i64 0) := qk.c; have qw37 : w3.cell? ⟨w1.heap.size, 7, none⟩ = some (.bool true) := qk.c; have qw38 : w3.cell? ⟨w1.heap.size, 8, none⟩ = some (.int .u64 5) := qk.c; have qw39 : w3.cell? ⟨w2.heap.size, 0, none⟩ = some (.bool true) := qk.c; have qw310 : w3.cell? ⟨w2.heap.size, 1, none⟩ = some (.int .i64 65535) := qk.c; have qw311 : w3.cell? ⟨w2.heap.size, 2, none⟩ = some (.int .i64 262143) := qk.c; have qw312 : w3.cell? ⟨w2.heap.size, 3, none⟩ = some (.int .i64 1) := qk.c; have qw313 : w3.cell? ⟨w2.heap.size, 4, none⟩ = some (.int .i64 52) := qk.c; have qw314 : w3.cell? ⟨w2.heap.size, 5, none⟩ = some (.int .i64 0) := qk.c; have qw315 : w3.cell? ⟨w2.heap.size, 6, none⟩ = some (.int .i64 0) := qk.c; have qw316 : w3.cell? ⟨w2.heap.size, 7, none⟩ = some (.bool true) := qk.c; have qw317 : w3.cell? ⟨w2.heap.size, 8, none⟩ = some (.int .u64 9) := qk.c; have lw3 : w2.heap.size < w3.heap.size := (by have := qk.size; (try simp at this); omega); have l13 : w1.heap.size < w3.heap.size := (by omega); have B3 := Lib.hid ((B2.out.alloc (by omega) _).trans (qk.1.mono (by simp; omega))); clear qk)
    | (go_at_call 42; (with_reducible refine (wk_less _).mono ?_); rintro e' w4 ⟨rfl, qk⟩; have HKw4 := Lib.hid qk; have qw40 : w4.cell? ⟨w1.heap.size, 0, none⟩ = some (.bool true) := qk.c; have qw41 : w4.cell? ⟨w1.heap.size, 1, none⟩ = some (.int .i64 65535) := qk.c; have qw42 : w4.cell? ⟨w1.heap.size, 2, none⟩ = some (.int .i64 262143) := qk.c; have qw43 : w4.cell? ⟨w1.heap.size, 3, none⟩ = some (.int .i64 0) := qk.c; have qw44 : w4.cell? ⟨w1.heap.size, 4, none⟩ = some (.int .i64 52) := qk.c; have qw45 : w4.cell? ⟨w1.heap.size, 5, none⟩ = some (.int .i64 0) := qk.c; have qw46 : w4.cell? ⟨w1.heap.size, 6, none⟩ = some (.int .i64 0) := qk.c; have qw47 : w4.cell? ⟨w1.heap.size, 7, none⟩ = some (.bool true) := qk.c; have qw48 : w4.cell? ⟨w1.heap.size, 8, none⟩ = some (.int .u64 5) := qk.c; have qw49 : w4.cell? ⟨w2.heap.size, 0, none⟩ = some (.bool true) := qk.c; have qw410 : w4.cell? ⟨w2.heap.size, 1, none⟩ = some (.int .i64 65535) := qk.c; have qw411 : w4.cell? ⟨w2.heap.size, 2, none⟩ = some (.int .i64 262143) := qk.c; have qw412 : w4.cell? ⟨w2.heap.size, 3, none⟩ = some (.int .i64 1) := qk.c; have qw413 : w4.cell? ⟨w2.heap.size, 4, none⟩ = some (.int .i64 52) := qk.c; have qw414 : w4.cell? ⟨w2.heap.size, 5, none⟩ = some (.int .i64 0) := qk.c; have qw415 : w4.cell? ⟨w2.heap.size, 6, none⟩ = some (.int .i64 0) := qk.c; have qw416 : w4.cell? ⟨w2.heap.size, 7, none⟩ = some (.bool true) := qk.c; have qw417 : w4.cell? ⟨w2.heap.size, 8, none⟩ = some (.int .u64 9) := qk.c; have qw418 : w4.cell? ⟨w3.heap.size, 0, none⟩ = some (.bool true) := qk.c; have qw419 : w4.cell? ⟨w3.heap.size, 1, none⟩ = some (.int .i64 65535) := qk.c; have qw420 : w4.cell? ⟨w3.heap.size, 2, none⟩ = some (.int .i64 5) := qk.c; have qw421 : w4.cell? ⟨w3.heap.size, 3, none⟩ = some (.int .i64 1) := qk.c; have qw422 : w4.cell? ⟨w3.heap.size, 4, none⟩ = some (.int .i64 52) := qk.c; have qw423 : w4.cell? ⟨w3.heap.size, 5, none⟩ = some (.int .i64 0) := qk.c; have qw424 : w4.cell? ⟨w3.heap.size, 6, none⟩ = some (.int .i64 0) := qk.c; have qw425 : w4.cell? ⟨w3.heap.size, 7, none⟩ = some (.bool true) := qk.c; have qw426 : w4.cell? ⟨w3.heap.size, 8, none⟩ = some (.int .u64 9) := qk.c; have lw4 : w3.heap.size < w4.heap.size := (by have := qk.size; (try simp at this); omega); have l14 : w1.heap.size < w4.heap.size := (by omega); have l24 : w2.heap.size < w4.heap.size := (by omega); have B4 := Lib.hid ((B3.out.alloc (by omega) _).trans (qk.1.mono (by simp; omega))); clear qk))
  have AR' : At (w1.heap.size) [true, .int .i64 65535, .int .i64 262143, (), .int .i64 52, (), (), true, .int .u64 5] w4 := At.of9 (by assumption) (by assumption) (by assumption) (by assumption) (by assumption) (by assumption) (by assumption) (by assumption) (by assumption)
  have AR : At (w1.heap.size) [true, .int .i64 65535, .int .i64 262143, (), .int .i64 52, (), (), true, .int .u64 5] (w4.alloc (.cells #[true, .int .i64 65279, .int .i64 262143, (), .int .i64 52, (), (), true, .int .u64 5] 25)) := AR'.alloc _
  have AT' : At (w2.heap.size) [true, .int .i64 65535, .int .i64 262143, .int .i64 1, .int .i64 52, (), (), true, .int .u64 9] w4 := At.of9 (by assumption) (by assumption) (by assumption) (by assumption) (by assumption) (by assumption) (by assumption) (by assumption) (by assumption)
  have AT : At (w2.heap.size) [true, .int .i64 65535, .int .i64 262143, .int .i64 1, .int .i64 52, (), (), true, .int .u64 9] (w4.alloc (.cells #[true, .int .i64 65279, .int .i64 262143, (), .int .i64 52, (), (), true, .int .u64 5] 25)) := AT'.alloc _
  have AS' : At (w3.heap.size) [true, .int .i64 65535, .int .i64 5, .int .i64 1, .int .i64 52, (), (), true, .int .u64 9] w4 := At.of9 (by assumption) (by assumption) (by assumption) (by assumption) (by assumption) (by assumption) (by assumption) (by assumption) (by assumption)
  have AS : At (w3.heap.size) [true, .int .i64 65535, .int .i64 5, .int .i64 1, .int .i64 52, (), (), true, .int .u64 9] (w4.alloc (.cells #[true, .int .i64 65279, .int .i64 262143, (), .int .i64 52, (), (), true, .int .u64 5] 25)) := AS'.alloc _
  have AU : At (w4.heap.size) [true, .int .i64 65279, .int .i64 262143, (), .int .i64 52, (), (), true, .int .u64 5] (w4.alloc (.cells #[true, .int .i64 65279, .int .i64 262143, (), .int .i64 52, (), (), true, .int .u64 5] 25)) := At.new w4 [true, .int .i64 65279, .int .i64 262143, (), .int .i64 52, (), (), true, .int .u64 5] _
  have AB : Bl w (w4.heap.size + 1) (w4.alloc (.cells #[true, .int .i64 65279, .int .i64 262143, (), .int .i64 52, (), (), true, .int .u64 5] 25)) := ⟨B4.out.alloc (by omega) _, by omega, by simp⟩
  refine wp_region_held_drew (S := (fun w' => At (w1.heap.size) [true, .int .i64 65535, .int .i64 262143, (), .int .i64 52, (), (), true, .int .u64 5] w' ∧ At (w2.heap.size) [true, .int .i64 65535, .int .i64 262143, .int .i64 1, .int .i64 52, (), (), true, .int .u64 9] w' ∧ At (w3.heap.size) [true, .int .i64 65535, .int .i64 5, .int .i64 1, .int .i64 52, (), (), true, .int .u64 9] w' ∧ At (w4.heap.size) [true, .int .i64 65279, .int .i64 262143, (), .int .i64 52, (), (), true, .int .u64 5] w' ∧ Bl w (w4.heap.size + 1) w')) (by kernel_rfl) ⟨At.drew (by with_reducible assumption), At.drew (by with_reducible assumption), At.drew (by with_reducible assumption), At.drew (by with_reducible assumption), Bl.drew (by with_reducible assumption)⟩ (fun hS => ?_)
  generalize hgw : (w4.alloc (.cells #[true, .int .i64 65279, .int .i64 262143, (), .int .i64 52, (), (), true, .int .u64 5] 25)).drew = g0 at hS ⊢
  clear hgw
  try simp only [Act.put, zA, zB, zC]
  (refine tk 0 ?_ rfl (Or.inl ⟨by rfl, ?_⟩) hS ?_; rotate_left; focus (intro w' hSw; obtain ⟨s0, s1, s2, s3, sb⟩ := hSw; go_simp <;> try with_reducible rfl))
  try simp only [Act.put, zA, zB, zC]
  (refine tk 1 ?_ rfl (Or.inl ⟨by rfl, ?_⟩) hS ?_; rotate_left; focus (intro w' hSw; obtain ⟨s0, s1, s2, s3, sb⟩ := hSw; obtain ⟨_, _, _, _, _, _, _, _, _⟩ := s0.out9; obtain ⟨_, _, _, _, _, _, _, _, _⟩ := s1.out9; obtain ⟨_, _, _, _, _, _, _, _, _⟩ := s2.out9; obtain ⟨_, _, _, _, _, _, _, _, _⟩ := s3.out9; go_simp <;> try with_reducible rfl))
  try simp only [Act.put, zA, zB, zC]
  (refine tk 2 ?_ rfl (Or.inl ⟨by rfl, ?_⟩) hS ?_; rotate_left; focus (intro w' hSw; obtain ⟨s0, s1, s2, s3, sb⟩ := hSw; go_simp <;> try with_reducible rfl))
  try simp only [Act.put, zA, zB, zC]
  (refine tk 3 ?_ rfl (Or.inl ⟨by rfl, ?_⟩) hS ?_; rotate_left; focus (intro w' hSw; obtain ⟨s0, s1, s2, s3, sb⟩ := hSw; go_simp <;> try with_reducible rfl))
  try simp only [Act.put, zA, zB, zC]
  (refine tk 4 ?_ rfl (Or.inl ⟨by rfl, ?_⟩) hS ?_; rotate_left; focus (intro w' hSw; obtain ⟨s0, s1, s2, s3, sb⟩ := hSw; obtain ⟨_, _, _, _, _, _, _, _, _⟩ := s0.out9; obtain ⟨_, _, _, _, _, _, _, _, _⟩ := s1.out9; obtain ⟨_, _, _, _, _, _, _, _, _⟩ := s2.out9; obtain ⟨_, _, _, _, _, _, _, _, _⟩ := s3.out9; go_simp <;> try with_reducible rfl))
  try simp only [Act.put, zA, zB, zC]
  (refine tk 5 ?_ rfl (Or.inl ⟨by rfl, ?_⟩) hS ?_; rotate_left; focus (intro w' hSw; obtain ⟨s0, s1, s2, s3, sb⟩ := hSw; go_simp <;> try with_reducible rfl))
  try simp only [Act.put, zA, zB, zC]
  (refine tk 6 ?_ rfl (Or.inl ⟨by rfl, ?_⟩) hS ?_; rotate_left; focus (intro w' hSw; obtain ⟨s0, s1, s2, s3, sb⟩ := hSw; go_simp <;> try with_reducible rfl))
  try simp only [Act.put, zA, zB, zC]
  (refine tk 7 ?_ rfl (Or.inl ⟨by rfl, ?_⟩) hS ?_; rotate_left; focus (intro w' hSw; obtain ⟨s0, s1, s2, s3, sb⟩ := hSw; go_simp <;> try with_reducible rfl))
  try simp only [Act.put, zA, zB, zC]
  (refine tk 8 ?_ rfl (Or.inl ⟨by rfl, ?_⟩) hS ?_; rotate_left; focus (intro w' hSw; obtain ⟨s0, s1, s2, s3, sb⟩ := hSw; obtain ⟨_, _, _, _, _, _, _, _, _⟩ := s0.out9; obtain ⟨_, _, _, _, _, _, _, _, _⟩ := s1.out9; obtain ⟨_, _, _, _, _, _, _, _, _⟩ := s2.out9; obtain ⟨_, _, _, _, _, _, _, _, _⟩ := s3.out9; go_simp <;> try with_reducible rfl))
  try simp only [Act.put, zA, zB, zC]
  (refine tk 9 ?_ rfl (Or.inl ⟨by rfl, ?_⟩) hS ?_; rotate_left; focus (intro w' hSw; obtain ⟨s0, s1, s2, s3, sb⟩ := hSw; obtain ⟨_, _, _, _, _, _, _, _, _⟩ := s0.out9; obtain ⟨_, _, _, _, _, _, _, _, _⟩ := s1.out9; obtain ⟨_, _, _, _, _, _, _, _, _⟩ := s2.out9; obtain ⟨_, _, _, _, _, _, _, _, _⟩ := s3.out9; go_simp <;> try with_reducible rfl))
  try simp only [Act.put, zA, zB, zC]
  refine rdy 10 rfl (fun K hK => ?_)
  refine take_if (by rfl) ?_
  obtain ⟨s0, s1, s2, s3, sb⟩ := hS
  go_simp
  refine hK.out _ _ ⟨(At.alloc s0 _), (At.alloc s1 _), (At.alloc s2 _), (At.alloc s3 _), (Bl.alloc sb _)⟩ (fun hS => ?_)
  clear hK K
  try simp only [Act.put, zA, zB, zC]
  have r10 : Rd (g0.alloc (.cells #[true, .int .i64 65535, .int .i64 5, .int .i64 1, .int .i64 52, (), (), true, .int .u64 9, true, .int .i64 65279, .int .i64 262143, (), .int .i64 52, (), (), true, .int .u64 5] 25)) (g0.alloc (.cells #[true, .int .i64 65535, .int .i64 5, .int .i64 1, .int .i64 52, (), (), true, .int .u64 9, true, .int .i64 65279, .int .i64 262143, (), .int .i64 52, (), (), true, .int .u64 5] 25)).heap.size (some ⟨g0.heap.size, 0, none⟩) [kS, kU] := rd_new [kS, kU] g0
  generalize hgw : (g0.alloc (.cells #[true, .int .i64 65535, .int .i64 5, .int .i64 1, .int .i64 52, (), (), true, .int .u64 9, true, .int .i64 65279, .int .i64 262143, (), .int .i64 52, (), (), true, .int .u64 5] 25)) = g10 at hS r10 ⊢
  clear hgw
  refine rdy 11 rfl (fun K hK => ?_)
  refine take_if (by rfl) ?_
  obtain ⟨s0, s1, s2, s3, sb⟩ := hS
  go_simp
  (with_reducible refine (wk_close1 _ _ _ r10).mono ?_)
  rintro e' g11 ⟨A', cap, rfl, hb⟩
  have t0 := sb.at_ hb s0 (show w1.heap.size < w4.heap.size + 1 by omega)
  have t1 := sb.at_ hb s1 (show w2.heap.size < w4.heap.size + 1 by omega)
  have t2 := sb.at_ hb s2 (show w3.heap.size < w4.heap.size + 1 by omega)
  have t3 := sb.at_ hb s3 (show w4.heap.size < w4.heap.size + 1 by omega)
  have r10 := r10.below hb (Nat.le_refl _)
  refine hK.out _ _ ⟨t0, t1, t2, t3, (sb.step hb)⟩ (fun hS => ?_)
  clear hK K hb s0 t0 s1 t1 s2 t2 s3 t3 sb
  try simp only [Act.put, zA, zB, zC]
  clear r10
  (refine tk 12 ?_ rfl (Or.inl ⟨by rfl, ?_⟩) hS ?_; rotate_left; focus (intro w' hSw; obtain ⟨s0, s1, s2, s3, sb⟩ := hSw; go_simp <;> try with_reducible rfl))
  try simp only [Act.put, zA, zB, zC]
  (refine tk 13 ?_ rfl (Or.inl ⟨by rfl, ?_⟩) hS ?_; rotate_left; focus (intro w' hSw; obtain ⟨s0, s1, s2, s3, sb⟩ := hSw; go_simp <;> try with_reducible rfl))
  try simp only [Act.put, zA, zB, zC]
  (refine tk 14 ?_ rfl (Or.inl ⟨by rfl, ?_⟩) hS ?_; rotate_left; focus (intro w' hSw; obtain ⟨s0, s1, s2, s3, sb⟩ := hSw; go_simp <;> try with_reducible rfl))
  try simp only [Act.put, zA, zB, zC]
  (refine tk 15 ?_ rfl (Or.inl ⟨by rfl, ?_⟩) hS ?_; rotate_left; focus (intro w' hSw; obtain ⟨s0, s1, s2, s3, sb⟩ := hSw; go_simp <;> try with_reducible rfl))
  try simp only [Act.put, zA, zB, zC]
  (refine tk 16 ?_ rfl (Or.inl ⟨by rfl, ?_⟩) hS ?_; rotate_left; focus (intro w' hSw; obtain ⟨s0, s1, s2, s3, sb⟩ := hSw; obtain ⟨_, _, _, _, _, _, _, _, _⟩ := s0.out9; obtain ⟨_, _, _, _, _, _, _, _, _⟩ := s1.out9; obtain ⟨_, _, _, _, _, _, _, _, _⟩ := s2.out9; obtain ⟨_, _, _, _, _, _, _, _, _⟩ := s3.out9; go_simp <;> try with_reducible rfl))
  try simp only [Act.put, zA, zB, zC]
  (refine tk 17 ?_ rfl (Or.inl ⟨by rfl, ?_⟩) hS ?_; rotate_left; focus (intro w' hSw; obtain ⟨s0, s1, s2, s3, sb⟩ := hSw; obtain ⟨_, _, _, _, _, _, _, _, _⟩ := s0.out9; obtain ⟨_, _, _, _, _, _, _, _, _⟩ := s1.out9; obtain ⟨_, _, _, _, _, _, _, _, _⟩ := s2.out9; obtain ⟨_, _, _, _, _, _, _, _, _⟩ := s3.out9; go_simp <;> try with_reducible rfl))
  try simp only [Act.put, zA, zB, zC]
  (refine tk 20 ?_ rfl (Or.inl ⟨by rfl, ?_⟩) hS ?_; rotate_left; focus (intro w' hSw; obtain ⟨s0, s1, s2, s3, sb⟩ := hSw; obtain ⟨_, _, _, _, _, _, _, _, _⟩ := s0.out9; obtain ⟨_, _, _, _, _, _, _, _, _⟩ := s1.out9; obtain ⟨_, _, _, _, _, _, _, _, _⟩ := s2.out9; obtain ⟨_, _, _, _, _, _, _, _, _⟩ := s3.out9; go_simp <;> try with_reducible rfl))
  try simp only [Act.put, zA, zB, zC]
  (refine tk 21 ?_ rfl (Or.inl ⟨by rfl, ?_⟩) hS ?_; rotate_left; focus (intro w' hSw; obtain ⟨s0, s1, s2, s3, sb⟩ := hSw; obtain ⟨_, _, _, _, _, _, _, _, _⟩ := s0.out9; obtain ⟨_, _, _, _, _, _, _, _, _⟩ := s1.out9; obtain ⟨_, _, _, _, _, _, _, _, _⟩ := s2.out9; obtain ⟨_, _, _, _, _, _, _, _, _⟩ := s3.out9; go_simp <;> try with_reducible rfl))
  try simp only [Act.put, zA, zB, zC]
  (refine tk 22 ?_ rfl (Or.inl ⟨by rfl, ?_⟩) hS ?_; rotate_left; focus (intro w' hSw; obtain ⟨s0, s1, s2, s3, sb⟩ := hSw; obtain ⟨_, _, _, _, _, _, _, _, _⟩ := s0.out9; obtain ⟨_, _, _, _, _, _, _, _, _⟩ := s1.out9; obtain ⟨_, _, _, _, _, _, _, _, _⟩ := s2.out9; obtain ⟨_, _, _, _, _, _, _, _, _⟩ := s3.out9; go_simp <;> try with_reducible rfl))
  try simp only [Act.put, zA, zB, zC]
  refine wpAnyH_ready (rs := [18, 23]) (by kernel_rfl) (by simp) ?_
  refine AllReadyH.cons (o := ⟨_, _, _, _, _, _⟩) rfl (fun K hK => ?_) (AllReadyH.cons (o := ⟨_, _, _, _, _, _⟩) rfl (fun K hK => ?_) AllReadyH.nil)
  · refine take_if (by rfl) ?_
    obtain ⟨s0, s1, s2, s3, sb⟩ := hS
    go_simp
    refine hK.out _ _ ⟨(At.alloc s0 _), (At.alloc s1 _), (At.alloc s2 _), (At.alloc s3 _), (Bl.alloc sb _)⟩ (fun hS => ?_)
    clear hK K
    try simp only [Act.put, zA, zB, zC]
    have r18 : Rd (g11.alloc (.cells #[true, .int .i64 65535, .int .i64 5, .int .i64 1, .int .i64 52, (), (), true, .int .u64 9, true, .int .i64 65535, .int .i64 262143, (), .int .i64 52, (), (), true, .int .u64 5] 25)) (g11.alloc (.cells #[true, .int .i64 65535, .int .i64 5, .int .i64 1, .int .i64 52, (), (), true, .int .u64 9, true, .int .i64 65535, .int .i64 262143, (), .int .i64 52, (), (), true, .int .u64 5] 25)).heap.size (some ⟨g11.heap.size, 0, none⟩) [kS, kR] := rd_new [kS, kR] g11
    generalize hgw : (g11.alloc (.cells #[true, .int .i64 65535, .int .i64 5, .int .i64 1, .int .i64 52, (), (), true, .int .u64 9, true, .int .i64 65535, .int .i64 262143, (), .int .i64 52, (), (), true, .int .u64 5] 25)) = g18 at hS r18 ⊢
    clear hgw
    refine wpAnyH_ready (rs := [19, 23]) (by kernel_rfl) (by simp) ?_
    refine AllReadyH.cons (o := ⟨_, _, _, _, _, _⟩) rfl (fun K hK => ?_) (AllReadyH.cons (o := ⟨_, _, _, _, _, _⟩) rfl (fun K hK => ?_) AllReadyH.nil)
    · refine take_if (by rfl) ?_
      obtain ⟨s0, s1, s2, s3, sb⟩ := hS
      go_simp
      (with_reducible refine (wk_close2 _ _ _ r18).mono ?_)
      rintro e' g19 ⟨A', cap, rfl, rA, hb⟩
      have t0 := sb.at_ hb s0 (show w1.heap.size < w4.heap.size + 1 by omega)
      have t1 := sb.at_ hb s1 (show w2.heap.size < w4.heap.size + 1 by omega)
      have t2 := sb.at_ hb s2 (show w3.heap.size < w4.heap.size + 1 by omega)
      have t3 := sb.at_ hb s3 (show w4.heap.size < w4.heap.size + 1 by omega)
      have r18 := r18.below hb (Nat.le_refl _)
      refine hK.out _ _ ⟨t0, t1, t2, t3, (sb.step hb)⟩ (fun hS => ?_)
      clear hK K hb s0 t0 s1 t1 s2 t2 s3 t3 sb
      try simp only [Act.put, zA, zB, zC]
      clear r18
      refine rdy 23 rfl (fun K hK => ?_)
      refine take_if (by rfl) ?_
      obtain ⟨s0, s1, s2, s3, sb⟩ := hS
      go_simp
      refine hK.out _ _ ⟨(At.alloc s0 _), (At.alloc s1 _), (At.alloc s2 _), (At.alloc s3 _), (Bl.alloc sb _)⟩ (fun hS => ?_)
      clear hK K
      try simp only [Act.put, zA, zB, zC]
      have r23 : Rd (g19.alloc (.cells #[true, .int .i64 65535, .int .i64 5, .int .i64 1, .int .i64 52, (), (), true, .int .u64 9, true, .int .i64 65535, .int .i64 262143, (), .int .i64 52, (), (), true, .int .u64 5, true, .int .i64 65535, .int .i64 262143, .int .i64 1, .int .i64 52, (), (), true, .int .u64 9] 25)) (g19.alloc (.cells #[true, .int .i64 65535, .int .i64 5, .int .i64 1, .int .i64 52, (), (), true, .int .u64 9, true, .int .i64 65535, .int .i64 262143, (), .int .i64 52, (), (), true, .int .u64 5, true, .int .i64 65535, .int .i64 262143, .int .i64 1, .int .i64 52, (), (), true, .int .u64 9] 25)).heap.size (some ⟨g19.heap.size, 0, none⟩) [kS, kR, kT] := rd_new [kS, kR, kT] g19
      have rA := rA.up (.cells #[true, .int .i64 65535, .int .i64 5, .int .i64 1, .int .i64 52, (), (), true, .int .u64 9, true, .int .i64 65535, .int .i64 262143, (), .int .i64 52, (), (), true, .int .u64 5, true, .int .i64 65535, .int .i64 262143, .int .i64 1, .int .i64 52, (), (), true, .int .u64 9] 25)
      generalize hgw : (g19.alloc (.cells #[true, .int .i64 65535, .int .i64 5, .int .i64 1, .int .i64 52, (), (), true, .int .u64 9, true, .int .i64 65535, .int .i64 262143, (), .int .i64 52, (), (), true, .int .u64 5, true, .int .i64 65535, .int .i64 262143, .int .i64 1, .int .i64 52, (), (), true, .int .u64 9] 25)) = g23 at hS r23 rA ⊢
      clear hgw
      refine rdy 24 rfl (fun K hK => ?_)
      refine take_if (by rfl) ?_
      obtain ⟨s0, s1, s2, s3, sb⟩ := hS
      go_simp
      (with_reducible refine (wk_same _ _ _ _ _ rA r23).mono ?_)
      rintro e' g24 ⟨rfl, hb⟩
      have t0 := sb.at_ hb s0 (show w1.heap.size < w4.heap.size + 1 by omega)
      have t1 := sb.at_ hb s1 (show w2.heap.size < w4.heap.size + 1 by omega)
      have t2 := sb.at_ hb s2 (show w3.heap.size < w4.heap.size + 1 by omega)
      have t3 := sb.at_ hb s3 (show w4.heap.size < w4.heap.size + 1 by omega)
      have rA := rA.below hb (Nat.le_refl _)
      have r23 := r23.below hb (Nat.le_refl _)
      refine hK.out _ _ ⟨t0, t1, t2, t3, (sb.step hb)⟩ (fun hS => ?_)
      clear hK K hb s0 t0 s1 t1 s2 t2 s3 t3 sb
      try simp only [Act.put, zA, zB, zC]
      clear rA
      clear r23
      (refine tk 25 ?_ rfl (Or.inl ⟨by rfl, ?_⟩) hS ?_; rotate_left; focus (intro w' hSw; obtain ⟨s0, s1, s2, s3, sb⟩ := hSw; go_simp <;> try with_reducible rfl))
      try simp only [Act.put, zA, zB, zC]
      (refine tk 26 ?_ rfl (Or.inl ⟨by rfl, ?_⟩) hS ?_; rotate_left; focus (intro w' hSw; obtain ⟨s0, s1, s2, s3, sb⟩ := hSw; go_simp <;> try with_reducible rfl))
      try simp only [Act.put, zA, zB, zC]
      (refine tk 27 ?_ rfl (Or.inl ⟨by rfl, ?_⟩) hS ?_; rotate_left; focus (intro w' hSw; obtain ⟨s0, s1, s2, s3, sb⟩ := hSw; obtain ⟨_, _, _, _, _, _, _, _, _⟩ := s0.out9; obtain ⟨_, _, _, _, _, _, _, _, _⟩ := s1.out9; obtain ⟨_, _, _, _, _, _, _, _, _⟩ := s2.out9; obtain ⟨_, _, _, _, _, _, _, _, _⟩ := s3.out9; go_simp <;> try with_reducible rfl))
      try simp only [Act.put, zA, zB, zC]
      (refine tk 28 ?_ rfl (Or.inl ⟨by rfl, ?_⟩) hS ?_; rotate_left; focus (intro w' hSw; obtain ⟨s0, s1, s2, s3, sb⟩ := hSw; obtain ⟨_, _, _, _, _, _, _, _, _⟩ := s0.out9; obtain ⟨_, _, _, _, _, _, _, _, _⟩ := s1.out9; obtain ⟨_, _, _, _, _, _, _, _, _⟩ := s2.out9; obtain ⟨_, _, _, _, _, _, _, _, _⟩ := s3.out9; go_simp <;> try with_reducible rfl))
      try simp only [Act.put, zA, zB, zC]
      (refine tk 30 ?_ rfl (Or.inl ⟨by rfl, ?_⟩) hS ?_; rotate_left; focus (intro w' hSw; obtain ⟨s0, s1, s2, s3, sb⟩ := hSw; obtain ⟨_, _, _, _, _, _, _, _, _⟩ := s0.out9; obtain ⟨_, _, _, _, _, _, _, _, _⟩ := s1.out9; obtain ⟨_, _, _, _, _, _, _, _, _⟩ := s2.out9; obtain ⟨_, _, _, _, _, _, _, _, _⟩ := s3.out9; go_simp <;> try with_reducible rfl))
      try simp only [Act.put, zA, zB, zC]
      refine rdy 29 rfl (fun K hK => ?_)
      refine take_if (by rfl) ?_
      obtain ⟨s0, s1, s2, s3, sb⟩ := hS
      go_simp
      refine hK.out _ _ ⟨(At.alloc s0 _), (At.alloc s1 _), (At.alloc s2 _), (At.alloc s3 _), (Bl.alloc sb _)⟩ (fun hS => ?_)
      clear hK K
      try simp only [Act.put, zA, zB, zC]
      have r29 : Rd (g24.alloc (.cells #[true, .int .i64 65535, .int .i64 5, .int .i64 1, .int .i64 52, (), (), true, .int .u64 9, true, .int .i64 65535, .int .i64 262143, (), .int .i64 52, (), (), true, .int .u64 5] 25)) (g24.alloc (.cells #[true, .int .i64 65535, .int .i64 5, .int .i64 1, .int .i64 52, (), (), true, .int .u64 9, true, .int .i64 65535, .int .i64 262143, (), .int .i64 52, (), (), true, .int .u64 5] 25)).heap.size (some ⟨g24.heap.size, 0, none⟩) [kS, kR] := rd_new [kS, kR] g24
      generalize hgw : (g24.alloc (.cells #[true, .int .i64 65535, .int .i64 5, .int .i64 1, .int .i64 52, (), (), true, .int .u64 9, true, .int .i64 65535, .int .i64 262143, (), .int .i64 52, (), (), true, .int .u64 5] 25)) = g29 at hS r29 ⊢
      clear hgw
      refine rdy 31 rfl (fun K hK => ?_)
      refine take_if (by rfl) ?_
      obtain ⟨s0, s1, s2, s3, sb⟩ := hS
      go_simp
      (with_reducible refine (wk_has1 _ _ _ r29).mono ?_)
      rintro e' g31 ⟨rfl, hb⟩
      have t0 := sb.at_ hb s0 (show w1.heap.size < w4.heap.size + 1 by omega)
      have t1 := sb.at_ hb s1 (show w2.heap.size < w4.heap.size + 1 by omega)
      have t2 := sb.at_ hb s2 (show w3.heap.size < w4.heap.size + 1 by omega)
      have t3 := sb.at_ hb s3 (show w4.heap.size < w4.heap.size + 1 by omega)
      have r29 := r29.below hb (Nat.le_refl _)
      refine hK.out _ _ ⟨t0, t1, t2, t3, (sb.step hb)⟩ (fun hS => ?_)
      clear hK K hb s0 t0 s1 t1 s2 t2 s3 t3 sb
      try simp only [Act.put, zA, zB, zC]
      clear r29
      (refine tk 32 ?_ rfl (Or.inl ⟨by rfl, ?_⟩) hS ?_; rotate_left; focus (intro w' hSw; obtain ⟨s0, s1, s2, s3, sb⟩ := hSw; go_simp <;> try with_reducible rfl))
      try simp only [Act.put, zA, zB, zC]
      (refine tk 33 ?_ rfl (Or.inl ⟨by rfl, ?_⟩) hS ?_; rotate_left; focus (intro w' hSw; obtain ⟨s0, s1, s2, s3, sb⟩ := hSw; go_simp <;> try with_reducible rfl))
      try simp only [Act.put, zA, zB, zC]
      (refine tk 34 ?_ rfl (Or.inl ⟨by rfl, ?_⟩) hS ?_; rotate_left; focus (intro w' hSw; obtain ⟨s0, s1, s2, s3, sb⟩ := hSw; obtain ⟨_, _, _, _, _, _, _, _, _⟩ := s0.out9; obtain ⟨_, _, _, _, _, _, _, _, _⟩ := s1.out9; obtain ⟨_, _, _, _, _, _, _, _, _⟩ := s2.out9; obtain ⟨_, _, _, _, _, _, _, _, _⟩ := s3.out9; go_simp <;> try with_reducible rfl))
      try simp only [Act.put, zA, zB, zC]
      (refine tk 36 ?_ rfl (Or.inl ⟨by rfl, ?_⟩) hS ?_; rotate_left; focus (intro w' hSw; obtain ⟨s0, s1, s2, s3, sb⟩ := hSw; obtain ⟨_, _, _, _, _, _, _, _, _⟩ := s0.out9; obtain ⟨_, _, _, _, _, _, _, _, _⟩ := s1.out9; obtain ⟨_, _, _, _, _, _, _, _, _⟩ := s2.out9; obtain ⟨_, _, _, _, _, _, _, _, _⟩ := s3.out9; go_simp <;> try with_reducible rfl))
      try simp only [Act.put, zA, zB, zC]
      refine rdy 35 rfl (fun K hK => ?_)
      refine take_if (by rfl) ?_
      obtain ⟨s0, s1, s2, s3, sb⟩ := hS
      go_simp
      refine hK.out _ _ ⟨(At.alloc s0 _), (At.alloc s1 _), (At.alloc s2 _), (At.alloc s3 _), (Bl.alloc sb _)⟩ (fun hS => ?_)
      clear hK K
      try simp only [Act.put, zA, zB, zC]
      have r35 : Rd (g31.alloc (.cells #[true, .int .i64 65535, .int .i64 5, .int .i64 1, .int .i64 52, (), (), true, .int .u64 9] 25)) (g31.alloc (.cells #[true, .int .i64 65535, .int .i64 5, .int .i64 1, .int .i64 52, (), (), true, .int .u64 9] 25)).heap.size (some ⟨g31.heap.size, 0, none⟩) [kS] := rd_new [kS] g31
      generalize hgw : (g31.alloc (.cells #[true, .int .i64 65535, .int .i64 5, .int .i64 1, .int .i64 52, (), (), true, .int .u64 9] 25)) = g35 at hS r35 ⊢
      clear hgw
      refine rdy 37 rfl (fun K hK => ?_)
      refine take_if (by rfl) ?_
      obtain ⟨s0, s1, s2, s3, sb⟩ := hS
      go_simp
      (with_reducible refine (wk_has2 _ _ _ r35).mono ?_)
      rintro e' g37 ⟨rfl, hb⟩
      have t0 := sb.at_ hb s0 (show w1.heap.size < w4.heap.size + 1 by omega)
      have t1 := sb.at_ hb s1 (show w2.heap.size < w4.heap.size + 1 by omega)
      have t2 := sb.at_ hb s2 (show w3.heap.size < w4.heap.size + 1 by omega)
      have t3 := sb.at_ hb s3 (show w4.heap.size < w4.heap.size + 1 by omega)
      have r35 := r35.below hb (Nat.le_refl _)
      refine hK.out _ _ ⟨t0, t1, t2, t3, (sb.step hb)⟩ (fun hS => ?_)
      clear hK K hb s0 t0 s1 t1 s2 t2 s3 t3 sb
      try simp only [Act.put, zA, zB, zC]
      clear r35
      (refine tk 38 ?_ rfl (Or.inl ⟨by rfl, ?_⟩) hS ?_; rotate_left; focus (intro w' hSw; obtain ⟨s0, s1, s2, s3, sb⟩ := hSw; go_simp <;> try with_reducible rfl))
      try simp only [Act.put, zA, zB, zC]
      (refine tk 39 ?_ rfl (Or.inl ⟨by rfl, ?_⟩) hS ?_; rotate_left; focus (intro w' hSw; obtain ⟨s0, s1, s2, s3, sb⟩ := hSw; go_simp <;> try with_reducible rfl))
      try simp only [Act.put, zA, zB, zC]
      (refine tk 40 ?_ rfl (Or.inl ⟨by rfl, ?_⟩) hS ?_; rotate_left; focus (intro w' hSw; obtain ⟨s0, s1, s2, s3, sb⟩ := hSw; go_simp <;> try with_reducible rfl))
      try simp only [Act.put, zA, zB, zC]
      (refine tk 41 ?_ rfl (Or.inl ⟨by rfl, ?_⟩) hS ?_; rotate_left; focus (intro w' hSw; obtain ⟨s0, s1, s2, s3, sb⟩ := hSw; obtain ⟨_, _, _, _, _, _, _, _, _⟩ := s0.out9; obtain ⟨_, _, _, _, _, _, _, _, _⟩ := s1.out9; obtain ⟨_, _, _, _, _, _, _, _, _⟩ := s2.out9; obtain ⟨_, _, _, _, _, _, _, _, _⟩ := s3.out9; go_simp <;> try with_reducible rfl))
      try simp only [Act.put, zA, zB, zC]
      refine rdy 42 rfl (fun K hK => ?_)
      refine take_if (by rfl) ?_
      obtain ⟨s0, s1, s2, s3, sb⟩ := hS
      go_simp
      (with_reducible refine (wk_has3 _).mono ?_)
      rintro e' g42 ⟨rfl, hb⟩
      have t0 := sb.at_ hb s0 (show w1.heap.size < w4.heap.size + 1 by omega)
      have t1 := sb.at_ hb s1 (show w2.heap.size < w4.heap.size + 1 by omega)
      have t2 := sb.at_ hb s2 (show w3.heap.size < w4.heap.size + 1 by omega)
      have t3 := sb.at_ hb s3 (show w4.heap.size < w4.heap.size + 1 by omega)
      refine hK.out _ _ ⟨t0, t1, t2, t3, (sb.step hb)⟩ (fun hS => ?_)
      clear hK K hb s0 t0 s1 t1 s2 t2 s3 t3 sb
      try simp only [Act.put, zA, zB, zC]
      (refine tk 43 ?_ rfl (Or.inl ⟨by rfl, ?_⟩) hS ?_; rotate_left; focus (intro w' hSw; obtain ⟨s0, s1, s2, s3, sb⟩ := hSw; go_simp <;> try with_reducible rfl))
      try simp only [Act.put, zA, zB, zC]
      (refine tk 44 ?_ rfl (Or.inl ⟨by rfl, ?_⟩) hS ?_; rotate_left; focus (intro w' hSw; obtain ⟨s0, s1, s2, s3, sb⟩ := hSw; go_simp <;> try with_reducible rfl))
      try simp only [Act.put, zA, zB, zC]
      (refine tk 45 ?_ rfl (Or.inl ⟨by rfl, ?_⟩) hS ?_; rotate_left; focus (intro w' hSw; obtain ⟨s0, s1, s2, s3, sb⟩ := hSw; go_simp <;> try with_reducible rfl))
      try simp only [Act.put, zA, zB, zC]
      (refine tk 46 ?_ rfl (Or.inl ⟨by rfl, ?_⟩) hS ?_; rotate_left; focus (intro w' hSw; obtain ⟨s0, s1, s2, s3, sb⟩ := hSw; obtain ⟨_, _, _, _, _, _, _, _, _⟩ := s0.out9; obtain ⟨_, _, _, _, _, _, _, _, _⟩ := s1.out9; obtain ⟨_, _, _, _, _, _, _, _, _⟩ := s2.out9; obtain ⟨_, _, _, _, _, _, _, _, _⟩ := s3.out9; go_simp <;> try with_reducible rfl))
      try simp only [Act.put, zA, zB, zC]
      (refine tk 47 ?_ rfl (Or.inl ⟨by rfl, ?_⟩) hS ?_; rotate_left; focus (intro w' hSw; obtain ⟨s0, s1, s2, s3, sb⟩ := hSw; obtain ⟨_, _, _, _, _, _, _, _, _⟩ := s0.out9; obtain ⟨_, _, _, _, _, _, _, _, _⟩ := s1.out9; obtain ⟨_, _, _, _, _, _, _, _, _⟩ := s2.out9; obtain ⟨_, _, _, _, _, _, _, _, _⟩ := s3.out9; go_simp <;> try with_reducible rfl))
      try simp only [Act.put, zA, zB, zC]
      refine rdy 48 rfl (fun K hK => ?_)
      refine take_if (by rfl) ?_
      obtain ⟨s0, s1, s2, s3, sb⟩ := hS
      go_simp
      (with_reducible refine (wk_less1 _).mono ?_)
      rintro e' g48 ⟨rfl, hb⟩
      have t0 := sb.at_ hb s0 (show w1.heap.size < w4.heap.size + 1 by omega)
      have t1 := sb.at_ hb s1 (show w2.heap.size < w4.heap.size + 1 by omega)
      have t2 := sb.at_ hb s2 (show w3.heap.size < w4.heap.size + 1 by omega)
      have t3 := sb.at_ hb s3 (show w4.heap.size < w4.heap.size + 1 by omega)
      refine hK.out _ _ ⟨t0, t1, t2, t3, (sb.step hb)⟩ (fun hS => ?_)
      clear hK K hb s0 t0 s1 t1 s2 t2 s3 t3 sb
      try simp only [Act.put, zA, zB, zC]
      (refine tk 49 ?_ rfl (Or.inl ⟨by rfl, ?_⟩) hS ?_; rotate_left; focus (intro w' hSw; obtain ⟨s0, s1, s2, s3, sb⟩ := hSw; go_simp <;> try with_reducible rfl))
      try simp only [Act.put, zA, zB, zC]
      (refine tk 50 ?_ rfl (Or.inl ⟨by rfl, ?_⟩) hS ?_; rotate_left; focus (intro w' hSw; obtain ⟨s0, s1, s2, s3, sb⟩ := hSw; go_simp <;> try with_reducible rfl))
      try simp only [Act.put, zA, zB, zC]
      (refine tk 51 ?_ rfl (Or.inl ⟨by rfl, ?_⟩) hS ?_; rotate_left; focus (intro w' hSw; obtain ⟨s0, s1, s2, s3, sb⟩ := hSw; obtain ⟨_, _, _, _, _, _, _, _, _⟩ := s0.out9; obtain ⟨_, _, _, _, _, _, _, _, _⟩ := s1.out9; obtain ⟨_, _, _, _, _, _, _, _, _⟩ := s2.out9; obtain ⟨_, _, _, _, _, _, _, _, _⟩ := s3.out9; go_simp <;> try with_reducible rfl))
      try simp only [Act.put, zA, zB, zC]
      (refine tk 52 ?_ rfl (Or.inl ⟨by rfl, ?_⟩) hS ?_; rotate_left; focus (intro w' hSw; obtain ⟨s0, s1, s2, s3, sb⟩ := hSw; obtain ⟨_, _, _, _, _, _, _, _, _⟩ := s0.out9; obtain ⟨_, _, _, _, _, _, _, _, _⟩ := s1.out9; obtain ⟨_, _, _, _, _, _, _, _, _⟩ := s2.out9; obtain ⟨_, _, _, _, _, _, _, _, _⟩ := s3.out9; go_simp <;> try with_reducible rfl))
      try simp only [Act.put, zA, zB, zC]
      refine rdy 53 rfl (fun K hK => ?_)
      refine take_if (by rfl) ?_
      obtain ⟨s0, s1, s2, s3, sb⟩ := hS
      go_simp
      (with_reducible refine (wk_less2 _).mono ?_)
      rintro e' g53 ⟨rfl, hb⟩
      have t0 := sb.at_ hb s0 (show w1.heap.size < w4.heap.size + 1 by omega)
      have t1 := sb.at_ hb s1 (show w2.heap.size < w4.heap.size + 1 by omega)
      have t2 := sb.at_ hb s2 (show w3.heap.size < w4.heap.size + 1 by omega)
      have t3 := sb.at_ hb s3 (show w4.heap.size < w4.heap.size + 1 by omega)
      refine hK.out _ _ ⟨t0, t1, t2, t3, (sb.step hb)⟩ (fun hS => ?_)
      clear hK K hb s0 t0 s1 t1 s2 t2 s3 t3 sb
      try simp only [Act.put, zA, zB, zC]
      (refine tk 54 ?_ rfl (Or.inl ⟨by rfl, ?_⟩) hS ?_; rotate_left; focus (intro w' hSw; obtain ⟨s0, s1, s2, s3, sb⟩ := hSw; go_simp <;> try with_reducible rfl))
      try simp only [Act.put, zA, zB, zC]
      (refine tk 55 ?_ rfl (Or.inl ⟨by rfl, ?_⟩) hS ?_; rotate_left; focus (intro w' hSw; obtain ⟨s0, s1, s2, s3, sb⟩ := hSw; go_simp <;> try with_reducible rfl))
      try simp only [Act.put, zA, zB, zC]
      (refine tk 56 ?_ rfl (Or.inl ⟨by rfl, ?_⟩) hS ?_; rotate_left; focus (intro w' hSw; obtain ⟨s0, s1, s2, s3, sb⟩ := hSw; go_simp <;> try with_reducible rfl))
      try simp only [Act.put, zA, zB, zC]
      refine wpAnyH_done (by kernel_rfl) ?_ _
      obtain ⟨s0, s1, s2, s3, sb⟩ := hS
      go_wp2
      go_ret
      exact ⟨rfl, sb.bl⟩
    · refine take_if (by rfl) ?_
      obtain ⟨s0, s1, s2, s3, sb⟩ := hS
      go_simp
      refine hK.out _ _ ⟨(At.alloc s0 _), (At.alloc s1 _), (At.alloc s2 _), (At.alloc s3 _), (Bl.alloc sb _)⟩ (fun hS => ?_)
      clear hK K
      try simp only [Act.put, zA, zB, zC]
      have r23 : Rd (g18.alloc (.cells #[true, .int .i64 65535, .int .i64 5, .int .i64 1, .int .i64 52, (), (), true, .int .u64 9, true, .int .i64 65535, .int .i64 262143, (), .int .i64 52, (), (), true, .int .u64 5, true, .int .i64 65535, .int .i64 262143, .int .i64 1, .int .i64 52, (), (), true, .int .u64 9] 25)) (g18.alloc (.cells #[true, .int .i64 65535, .int .i64 5, .int .i64 1, .int .i64 52, (), (), true, .int .u64 9, true, .int .i64 65535, .int .i64 262143, (), .int .i64 52, (), (), true, .int .u64 5, true, .int .i64 65535, .int .i64 262143, .int .i64 1, .int .i64 52, (), (), true, .int .u64 9] 25)).heap.size (some ⟨g18.heap.size, 0, none⟩) [kS, kR, kT] := rd_new [kS, kR, kT] g18
      have r18 := r18.up (.cells #[true, .int .i64 65535, .int .i64 5, .int .i64 1, .int .i64 52, (), (), true, .int .u64 9, true, .int .i64 65535, .int .i64 262143, (), .int .i64 52, (), (), true, .int .u64 5, true, .int .i64 65535, .int .i64 262143, .int .i64 1, .int .i64 52, (), (), true, .int .u64 9] 25)
      generalize hgw : (g18.alloc (.cells #[true, .int .i64 65535, .int .i64 5, .int .i64 1, .int .i64 52, (), (), true, .int .u64 9, true, .int .i64 65535, .int .i64 262143, (), .int .i64 52, (), (), true, .int .u64 5, true, .int .i64 65535, .int .i64 262143, .int .i64 1, .int .i64 52, (), (), true, .int .u64 9] 25)) = g23 at hS r23 r18 ⊢
      clear hgw
      refine rdy 19 rfl (fun K hK => ?_)
      refine take_if (by rfl) ?_
      obtain ⟨s0, s1, s2, s3, sb⟩ := hS
      go_simp
      (with_reducible refine (wk_close2 _ _ _ r18).mono ?_)
      rintro e' g19 ⟨A', cap, rfl, rA, hb⟩
      have t0 := sb.at_ hb s0 (show w1.heap.size < w4.heap.size + 1 by omega)
      have t1 := sb.at_ hb s1 (show w2.heap.size < w4.heap.size + 1 by omega)
      have t2 := sb.at_ hb s2 (show w3.heap.size < w4.heap.size + 1 by omega)
      have t3 := sb.at_ hb s3 (show w4.heap.size < w4.heap.size + 1 by omega)
      have r18 := r18.below hb (Nat.le_refl _)
      have r23 := r23.below hb (Nat.le_refl _)
      refine hK.out _ _ ⟨t0, t1, t2, t3, (sb.step hb)⟩ (fun hS => ?_)
      clear hK K hb s0 t0 s1 t1 s2 t2 s3 t3 sb
      try simp only [Act.put, zA, zB, zC]
      clear r18
      refine rdy 24 rfl (fun K hK => ?_)
      refine take_if (by rfl) ?_
      obtain ⟨s0, s1, s2, s3, sb⟩ := hS
      go_simp
      (with_reducible refine (wk_same _ _ _ _ _ rA r23).mono ?_)
      rintro e' g24 ⟨rfl, hb⟩
      have t0 := sb.at_ hb s0 (show w1.heap.size < w4.heap.size + 1 by omega)
      have t1 := sb.at_ hb s1 (show w2.heap.size < w4.heap.size + 1 by omega)
      have t2 := sb.at_ hb s2 (show w3.heap.size < w4.heap.size + 1 by omega)
      have t3 := sb.at_ hb s3 (show w4.heap.size < w4.heap.size + 1 by omega)
      have r23 := r23.below hb (Nat.le_refl _)
      have rA := rA.below hb (Nat.le_refl _)
      refine hK.out _ _ ⟨t0, t1, t2, t3, (sb.step hb)⟩ (fun hS => ?_)
      clear hK K hb s0 t0 s1 t1 s2 t2 s3 t3 sb
      try simp only [Act.put, zA, zB, zC]
      clear rA
      clear r23
      (refine tk 25 ?_ rfl (Or.inl ⟨by rfl, ?_⟩) hS ?_; rotate_left; focus (intro w' hSw; obtain ⟨s0, s1, s2, s3, sb⟩ := hSw; go_simp <;> try with_reducible rfl))
      try simp only [Act.put, zA, zB, zC]
      (refine tk 26 ?_ rfl (Or.inl ⟨by rfl, ?_⟩) hS ?_; rotate_left; focus (intro w' hSw; obtain ⟨s0, s1, s2, s3, sb⟩ := hSw; go_simp <;> try with_reducible rfl))
      try simp only [Act.put, zA, zB, zC]
      (refine tk 27 ?_ rfl (Or.inl ⟨by rfl, ?_⟩) hS ?_; rotate_left; focus (intro w' hSw; obtain ⟨s0, s1, s2, s3, sb⟩ := hSw; obtain ⟨_, _, _, _, _, _, _, _, _⟩ := s0.out9; obtain ⟨_, _, _, _, _, _, _, _, _⟩ := s1.out9; obtain ⟨_, _, _, _, _, _, _, _, _⟩ := s2.out9; obtain ⟨_, _, _, _, _, _, _, _, _⟩ := s3.out9; go_simp <;> try with_reducible rfl))
      try simp only [Act.put, zA, zB, zC]
      (refine tk 28 ?_ rfl (Or.inl ⟨by rfl, ?_⟩) hS ?_; rotate_left; focus (intro w' hSw; obtain ⟨s0, s1, s2, s3, sb⟩ := hSw; obtain ⟨_, _, _, _, _, _, _, _, _⟩ := s0.out9; obtain ⟨_, _, _, _, _, _, _, _, _⟩ := s1.out9; obtain ⟨_, _, _, _, _, _, _, _, _⟩ := s2.out9; obtain ⟨_, _, _, _, _, _, _, _, _⟩ := s3.out9; go_simp <;> try with_reducible rfl))
      try simp only [Act.put, zA, zB, zC]
      (refine tk 30 ?_ rfl (Or.inl ⟨by rfl, ?_⟩) hS ?_; rotate_left; focus (intro w' hSw; obtain ⟨s0, s1, s2, s3, sb⟩ := hSw; obtain ⟨_, _, _, _, _, _, _, _, _⟩ := s0.out9; obtain ⟨_, _, _, _, _, _, _, _, _⟩ := s1.out9; obtain ⟨_, _, _, _, _, _, _, _, _⟩ := s2.out9; obtain ⟨_, _, _, _, _, _, _, _, _⟩ := s3.out9; go_simp <;> try with_reducible rfl))
      try simp only [Act.put, zA, zB, zC]
      refine rdy 29 rfl (fun K hK => ?_)
      refine take_if (by rfl) ?_
      obtain ⟨s0, s1, s2, s3, sb⟩ := hS
      go_simp
      refine hK.out _ _ ⟨(At.alloc s0 _), (At.alloc s1 _), (At.alloc s2 _), (At.alloc s3 _), (Bl.alloc sb _)⟩ (fun hS => ?_)
      clear hK K
      try simp only [Act.put, zA, zB, zC]
      have r29 : Rd (g24.alloc (.cells #[true, .int .i64 65535, .int .i64 5, .int .i64 1, .int .i64 52, (), (), true, .int .u64 9, true, .int .i64 65535, .int .i64 262143, (), .int .i64 52, (), (), true, .int .u64 5] 25)) (g24.alloc (.cells #[true, .int .i64 65535, .int .i64 5, .int .i64 1, .int .i64 52, (), (), true, .int .u64 9, true, .int .i64 65535, .int .i64 262143, (), .int .i64 52, (), (), true, .int .u64 5] 25)).heap.size (some ⟨g24.heap.size, 0, none⟩) [kS, kR] := rd_new [kS, kR] g24
      generalize hgw : (g24.alloc (.cells #[true, .int .i64 65535, .int .i64 5, .int .i64 1, .int .i64 52, (), (), true, .int .u64 9, true, .int .i64 65535, .int .i64 262143, (), .int .i64 52, (), (), true, .int .u64 5] 25)) = g29 at hS r29 ⊢
      clear hgw
      refine rdy 31 rfl (fun K hK => ?_)
      refine take_if (by rfl) ?_
      obtain ⟨s0, s1, s2, s3, sb⟩ := hS
      go_simp
      (with_reducible refine (wk_has1 _ _ _ r29).mono ?_)
      rintro e' g31 ⟨rfl, hb⟩
      have t0 := sb.at_ hb s0 (show w1.heap.size < w4.heap.size + 1 by omega)
      have t1 := sb.at_ hb s1 (show w2.heap.size < w4.heap.size + 1 by omega)
      have t2 := sb.at_ hb s2 (show w3.heap.size < w4.heap.size + 1 by omega)
      have t3 := sb.at_ hb s3 (show w4.heap.size < w4.heap.size + 1 by omega)
      have r29 := r29.below hb (Nat.le_refl _)
      refine hK.out _ _ ⟨t0, t1, t2, t3, (sb.step hb)⟩ (fun hS => ?_)
      clear hK K hb s0 t0 s1 t1 s2 t2 s3 t3 sb
      try simp only [Act.put, zA, zB, zC]
      clear r29
      (refine tk 32 ?_ rfl (Or.inl ⟨by rfl, ?_⟩) hS ?_; rotate_left; focus (intro w' hSw; obtain ⟨s0, s1, s2, s3, sb⟩ := hSw; go_simp <;> try with_reducible rfl))
      try simp only [Act.put, zA, zB, zC]
      (refine tk 33 ?_ rfl (Or.inl ⟨by rfl, ?_⟩) hS ?_; rotate_left; focus (intro w' hSw; obtain ⟨s0, s1, s2, s3, sb⟩ := hSw; go_simp <;> try with_reducible rfl))
      try simp only [Act.put, zA, zB, zC]
      (refine tk 34 ?_ rfl (Or.inl ⟨by rfl, ?_⟩) hS ?_; rotate_left; focus (intro w' hSw; obtain ⟨s0, s1, s2, s3, sb⟩ := hSw; obtain ⟨_, _, _, _, _, _, _, _, _⟩ := s0.out9; obtain ⟨_, _, _, _, _, _, _, _, _⟩ := s1.out9; obtain ⟨_, _, _, _, _, _, _, _, _⟩ := s2.out9; obtain ⟨_, _, _, _, _, _, _, _, _⟩ := s3.out9; go_simp <;> try with_reducible rfl))
      try simp only [Act.put, zA, zB, zC]
      (refine tk 36 ?_ rfl (Or.inl ⟨by rfl, ?_⟩) hS ?_; rotate_left; focus (intro w' hSw; obtain ⟨s0, s1, s2, s3, sb⟩ := hSw; obtain ⟨_, _, _, _, _, _, _, _, _⟩ := s0.out9; obtain ⟨_, _, _, _, _, _, _, _, _⟩ := s1.out9; obtain ⟨_, _, _, _, _, _, _, _, _⟩ := s2.out9; obtain ⟨_, _, _, _, _, _, _, _, _⟩ := s3.out9; go_simp <;> try with_reducible rfl))
      try simp only [Act.put, zA, zB, zC]
      refine rdy 35 rfl (fun K hK => ?_)
      refine take_if (by rfl) ?_
      obtain ⟨s0, s1, s2, s3, sb⟩ := hS
      go_simp
      refine hK.out _ _ ⟨(At.alloc s0 _), (At.alloc s1 _), (At.alloc s2 _), (At.alloc s3 _), (Bl.alloc sb _)⟩ (fun hS => ?_)
      clear hK K
      try simp only [Act.put, zA, zB, zC]
      have r35 : Rd (g31.alloc (.cells #[true, .int .i64 65535, .int .i64 5, .int .i64 1, .int .i64 52, (), (), true, .int .u64 9] 25)) (g31.alloc (.cells #[true, .int .i64 65535, .int .i64 5, .int .i64 1, .int .i64 52, (), (), true, .int .u64 9] 25)).heap.size (some ⟨g31.heap.size, 0, none⟩) [kS] := rd_new [kS] g31
      generalize hgw : (g31.alloc (.cells #[true, .int .i64 65535, .int .i64 5, .int .i64 1, .int .i64 52, (), (), true, .int .u64 9] 25)) = g35 at hS r35 ⊢
      clear hgw
      refine rdy 37 rfl (fun K hK => ?_)
      refine take_if (by rfl) ?_
      obtain ⟨s0, s1, s2, s3, sb⟩ := hS
      go_simp
      (with_reducible refine (wk_has2 _ _ _ r35).mono ?_)
      rintro e' g37 ⟨rfl, hb⟩
      have t0 := sb.at_ hb s0 (show w1.heap.size < w4.heap.size + 1 by omega)
      have t1 := sb.at_ hb s1 (show w2.heap.size < w4.heap.size + 1 by omega)
      have t2 := sb.at_ hb s2 (show w3.heap.size < w4.heap.size + 1 by omega)
      have t3 := sb.at_ hb s3 (show w4.heap.size < w4.heap.size + 1 by omega)
      have r35 := r35.below hb (Nat.le_refl _)
      refine hK.out _ _ ⟨t0, t1, t2, t3, (sb.step hb)⟩ (fun hS => ?_)
      clear hK K hb s0 t0 s1 t1 s2 t2 s3 t3 sb
      try simp only [Act.put, zA, zB, zC]
      clear r35
      (refine tk 38 ?_ rfl (Or.inl ⟨by rfl, ?_⟩) hS ?_; rotate_left; focus (intro w' hSw; obtain ⟨s0, s1, s2, s3, sb⟩ := hSw; go_simp <;> try with_reducible rfl))
      try simp only [Act.put, zA, zB, zC]
      (refine tk 39 ?_ rfl (Or.inl ⟨by rfl, ?_⟩) hS ?_; rotate_left; focus (intro w' hSw; obtain ⟨s0, s1, s2, s3, sb⟩ := hSw; go_simp <;> try with_reducible rfl))
      try simp only [Act.put, zA, zB, zC]
      (refine tk 40 ?_ rfl (Or.inl ⟨by rfl, ?_⟩) hS ?_; rotate_left; focus (intro w' hSw; obtain ⟨s0, s1, s2, s3, sb⟩ := hSw; go_simp <;> try with_reducible rfl))
      try simp only [Act.put, zA, zB, zC]
      (refine tk 41 ?_ rfl (Or.inl ⟨by rfl, ?_⟩) hS ?_; rotate_left; focus (intro w' hSw; obtain ⟨s0, s1, s2, s3, sb⟩ := hSw; obtain ⟨_, _, _, _, _, _, _, _, _⟩ := s0.out9; obtain ⟨_, _, _, _, _, _, _, _, _⟩ := s1.out9; obtain ⟨_, _, _, _, _, _, _, _, _⟩ := s2.out9; obtain ⟨_, _, _, _, _, _, _, _, _⟩ := s3.out9; go_simp <;> try with_reducible rfl))
      try simp only [Act.put, zA, zB, zC]
      refine rdy 42 rfl (fun K hK => ?_)
      refine take_if (by rfl) ?_
      obtain ⟨s0, s1, s2, s3, sb⟩ := hS
      go_simp
      (with_reducible refine (wk_has3 _).mono ?_)
      rintro e' g42 ⟨rfl, hb⟩
      have t0 := sb.at_ hb s0 (show w1.heap.size < w4.heap.size + 1 by omega)
      have t1 := sb.at_ hb s1 (show w2.heap.size < w4.heap.size + 1 by omega)
      have t2 := sb.at_ hb s2 (show w3.heap.size < w4.heap.size + 1 by omega)
      have t3 := sb.at_ hb s3 (show w4.heap.size < w4.heap.size + 1 by omega)
      refine hK.out _ _ ⟨t0, t1, t2, t3, (sb.step hb)⟩ (fun hS => ?_)
      clear hK K hb s0 t0 s1 t1 s2 t2 s3 t3 sb
      try simp only [Act.put, zA, zB, zC]
      (refine tk 43 ?_ rfl (Or.inl ⟨by rfl, ?_⟩) hS ?_; rotate_left; focus (intro w' hSw; obtain ⟨s0, s1, s2, s3, sb⟩ := hSw; go_simp <;> try with_reducible rfl))
      try simp only [Act.put, zA, zB, zC]
      (refine tk 44 ?_ rfl (Or.inl ⟨by rfl, ?_⟩) hS ?_; rotate_left; focus (intro w' hSw; obtain ⟨s0, s1, s2, s3, sb⟩ := hSw; go_simp <;> try with_reducible rfl))
      try simp only [Act.put, zA, zB, zC]
      (refine tk 45 ?_ rfl (Or.inl ⟨by rfl, ?_⟩) hS ?_; rotate_left; focus (intro w' hSw; obtain ⟨s0, s1, s2, s3, sb⟩ := hSw; go_simp <;> try with_reducible rfl))
      try simp only [Act.put, zA, zB, zC]
      (refine tk 46 ?_ rfl (Or.inl ⟨by rfl, ?_⟩) hS ?_; rotate_left; focus (intro w' hSw; obtain ⟨s0, s1, s2, s3, sb⟩ := hSw; obtain ⟨_, _, _, _, _, _, _, _, _⟩ := s0.out9; obtain ⟨_, _, _, _, _, _, _, _, _⟩ := s1.out9; obtain ⟨_, _, _, _, _, _, _, _, _⟩ := s2.out9; obtain ⟨_, _, _, _, _, _, _, _, _⟩ := s3.out9; go_simp <;> try with_reducible rfl))
      try simp only [Act.put, zA, zB, zC]
      (refine tk 47 ?_ rfl (Or.inl ⟨by rfl, ?_⟩) hS ?_; rotate_left; focus (intro w' hSw; obtain ⟨s0, s1, s2, s3, sb⟩ := hSw; obtain ⟨_, _, _, _, _, _, _, _, _⟩ := s0.out9; obtain ⟨_, _, _, _, _, _, _, _, _⟩ := s1.out9; obtain ⟨_, _, _, _, _, _, _, _, _⟩ := s2.out9; obtain ⟨_, _, _, _, _, _, _, _, _⟩ := s3.out9; go_simp <;> try with_reducible rfl))
      try simp only [Act.put, zA, zB, zC]
      refine rdy 48 rfl (fun K hK => ?_)
      refine take_if (by rfl) ?_
      obtain ⟨s0, s1, s2, s3, sb⟩ := hS
      go_simp
      (with_reducible refine (wk_less1 _).mono ?_)
      rintro e' g48 ⟨rfl, hb⟩
      have t0 := sb.at_ hb s0 (show w1.heap.size < w4.heap.size + 1 by omega)
      have t1 := sb.at_ hb s1 (show w2.heap.size < w4.heap.size + 1 by omega)
      have t2 := sb.at_ hb s2 (show w3.heap.size < w4.heap.size + 1 by omega)
      have t3 := sb.at_ hb s3 (show w4.heap.size < w4.heap.size + 1 by omega)
      refine hK.out _ _ ⟨t0, t1, t2, t3, (sb.step hb)⟩ (fun hS => ?_)
      clear hK K hb s0 t0 s1 t1 s2 t2 s3 t3 sb
      try simp only [Act.put, zA, zB, zC]
      (refine tk 49 ?_ rfl (Or.inl ⟨by rfl, ?_⟩) hS ?_; rotate_left; focus (intro w' hSw; obtain ⟨s0, s1, s2, s3, sb⟩ := hSw; go_simp <;> try with_reducible rfl))
      try simp only [Act.put, zA, zB, zC]
      (refine tk 50 ?_ rfl (Or.inl ⟨by rfl, ?_⟩) hS ?_; rotate_left; focus (intro w' hSw; obtain ⟨s0, s1, s2, s3, sb⟩ := hSw; go_simp <;> try with_reducible rfl))
      try simp only [Act.put, zA, zB, zC]
      (refine tk 51 ?_ rfl (Or.inl ⟨by rfl, ?_⟩) hS ?_; rotate_left; focus (intro w' hSw; obtain ⟨s0, s1, s2, s3, sb⟩ := hSw; obtain ⟨_, _, _, _, _, _, _, _, _⟩ := s0.out9; obtain ⟨_, _, _, _, _, _, _, _, _⟩ := s1.out9; obtain ⟨_, _, _, _, _, _, _, _, _⟩ := s2.out9; obtain ⟨_, _, _, _, _, _, _, _, _⟩ := s3.out9; go_simp <;> try with_reducible rfl))
      try simp only [Act.put, zA, zB, zC]
      (refine tk 52 ?_ rfl (Or.inl ⟨by rfl, ?_⟩) hS ?_; rotate_left; focus (intro w' hSw; obtain ⟨s0, s1, s2, s3, sb⟩ := hSw; obtain ⟨_, _, _, _, _, _, _, _, _⟩ := s0.out9; obtain ⟨_, _, _, _, _, _, _, _, _⟩ := s1.out9; obtain ⟨_, _, _, _, _, _, _, _, _⟩ := s2.out9; obtain ⟨_, _, _, _, _, _, _, _, _⟩ := s3.out9; go_simp <;> try with_reducible rfl))
      try simp only [Act.put, zA, zB, zC]
      refine rdy 53 rfl (fun K hK => ?_)
      refine take_if (by rfl) ?_
      obtain ⟨s0, s1, s2, s3, sb⟩ := hS
      go_simp
      (with_reducible refine (wk_less2 _).mono ?_)
      rintro e' g53 ⟨rfl, hb⟩
      have t0 := sb.at_ hb s0 (show w1.heap.size < w4.heap.size + 1 by omega)
      have t1 := sb.at_ hb s1 (show w2.heap.size < w4.heap.size + 1 by omega)
      have t2 := sb.at_ hb s2 (show w3.heap.size < w4.heap.size + 1 by omega)
      have t3 := sb.at_ hb s3 (show w4.heap.size < w4.heap.size + 1 by omega)
      refine hK.out _ _ ⟨t0, t1, t2, t3, (sb.step hb)⟩ (fun hS => ?_)
      clear hK K hb s0 t0 s1 t1 s2 t2 s3 t3 sb
      try simp only [Act.put, zA, zB, zC]
      (refine tk 54 ?_ rfl (Or.inl ⟨by rfl, ?_⟩) hS ?_; rotate_left; focus (intro w' hSw; obtain ⟨s0, s1, s2, s3, sb⟩ := hSw; go_simp <;> try with_reducible rfl))
      try simp only [Act.put, zA, zB, zC]
      (refine tk 55 ?_ rfl (Or.inl ⟨by rfl, ?_⟩) hS ?_; rotate_left; focus (intro w' hSw; obtain ⟨s0, s1, s2, s3, sb⟩ := hSw; go_simp <;> try with_reducible rfl))
      try simp only [Act.put, zA, zB, zC]
      (refine tk 56 ?_ rfl (Or.inl ⟨by rfl, ?_⟩) hS ?_; rotate_left; focus (intro w' hSw; obtain ⟨s0, s1, s2, s3, sb⟩ := hSw; go_simp <;> try with_reducible rfl))
      try simp only [Act.put, zA, zB, zC]
      refine wpAnyH_done (by kernel_rfl) ?_ _
      obtain ⟨s0, s1, s2, s3, sb⟩ := hS
      go_wp2
      go_ret
      exact ⟨rfl, sb.bl⟩
  · refine take_if (by rfl) ?_
    obtain ⟨s0, s1, s2, s3, sb⟩ := hS
    go_simp
    refine hK.out _ _ ⟨(At.alloc s0 _), (At.alloc s1 _), (At.alloc s2 _), (At.alloc s3 _), (Bl.alloc sb _)⟩ (fun hS => ?_)
    clear hK K
    try simp only [Act.put, zA, zB, zC]
    have r23 : Rd (g11.alloc (.cells #[true, .int .i64 65535, .int .i64 5, .int .i64 1, .int .i64 52, (), (), true, .int .u64 9, true, .int .i64 65535, .int .i64 262143, (), .int .i64 52, (), (), true, .int .u64 5, true, .int .i64 65535, .int .i64 262143, .int .i64 1, .int .i64 52, (), (), true, .int .u64 9] 25)) (g11.alloc (.cells #[true, .int .i64 65535, .int .i64 5, .int .i64 1, .int .i64 52, (), (), true, .int .u64 9, true, .int .i64 65535, .int .i64 262143, (), .int .i64 52, (), (), true, .int .u64 5, true, .int .i64 65535, .int .i64 262143, .int .i64 1, .int .i64 52, (), (), true, .int .u64 9] 25)).heap.size (some ⟨g11.heap.size, 0, none⟩) [kS, kR, kT] := rd_new [kS, kR, kT] g11
    generalize hgw : (g11.alloc (.cells #[true, .int .i64 65535, .int .i64 5, .int .i64 1, .int .i64 52, (), (), true, .int .u64 9, true, .int .i64 65535, .int .i64 262143, (), .int .i64 52, (), (), true, .int .u64 5, true, .int .i64 65535, .int .i64 262143, .int .i64 1, .int .i64 52, (), (), true, .int .u64 9] 25)) = g23 at hS r23 ⊢
    clear hgw
    refine rdy 18 rfl (fun K hK => ?_)
    refine take_if (by rfl) ?_
    obtain ⟨s0, s1, s2, s3, sb⟩ := hS
    go_simp
    refine hK.out _ _ ⟨(At.alloc s0 _), (At.alloc s1 _), (At.alloc s2 _), (At.alloc s3 _), (Bl.alloc sb _)⟩ (fun hS => ?_)
    clear hK K
    try simp only [Act.put, zA, zB, zC]
    have r18 : Rd (g23.alloc (.cells #[true, .int .i64 65535, .int .i64 5, .int .i64 1, .int .i64 52, (), (), true, .int .u64 9, true, .int .i64 65535, .int .i64 262143, (), .int .i64 52, (), (), true, .int .u64 5] 25)) (g23.alloc (.cells #[true, .int .i64 65535, .int .i64 5, .int .i64 1, .int .i64 52, (), (), true, .int .u64 9, true, .int .i64 65535, .int .i64 262143, (), .int .i64 52, (), (), true, .int .u64 5] 25)).heap.size (some ⟨g23.heap.size, 0, none⟩) [kS, kR] := rd_new [kS, kR] g23
    have r23 := r23.up (.cells #[true, .int .i64 65535, .int .i64 5, .int .i64 1, .int .i64 52, (), (), true, .int .u64 9, true, .int .i64 65535, .int .i64 262143, (), .int .i64 52, (), (), true, .int .u64 5] 25)
    generalize hgw : (g23.alloc (.cells #[true, .int .i64 65535, .int .i64 5, .int .i64 1, .int .i64 52, (), (), true, .int .u64 9, true, .int .i64 65535, .int .i64 262143, (), .int .i64 52, (), (), true, .int .u64 5] 25)) = g18 at hS r18 r23 ⊢
    clear hgw
    refine rdy 19 rfl (fun K hK => ?_)
    refine take_if (by rfl) ?_
    obtain ⟨s0, s1, s2, s3, sb⟩ := hS
    go_simp
    (with_reducible refine (wk_close2 _ _ _ r18).mono ?_)
    rintro e' g19 ⟨A', cap, rfl, rA, hb⟩
    have t0 := sb.at_ hb s0 (show w1.heap.size < w4.heap.size + 1 by omega)
    have t1 := sb.at_ hb s1 (show w2.heap.size < w4.heap.size + 1 by omega)
    have t2 := sb.at_ hb s2 (show w3.heap.size < w4.heap.size + 1 by omega)
    have t3 := sb.at_ hb s3 (show w4.heap.size < w4.heap.size + 1 by omega)
    have r23 := r23.below hb (Nat.le_refl _)
    have r18 := r18.below hb (Nat.le_refl _)
    refine hK.out _ _ ⟨t0, t1, t2, t3, (sb.step hb)⟩ (fun hS => ?_)
    clear hK K hb s0 t0 s1 t1 s2 t2 s3 t3 sb
    try simp only [Act.put, zA, zB, zC]
    clear r18
    refine rdy 24 rfl (fun K hK => ?_)
    refine take_if (by rfl) ?_
    obtain ⟨s0, s1, s2, s3, sb⟩ := hS
    go_simp
    (with_reducible refine (wk_same _ _ _ _ _ rA r23).mono ?_)
    rintro e' g24 ⟨rfl, hb⟩
    have t0 := sb.at_ hb s0 (show w1.heap.size < w4.heap.size + 1 by omega)
    have t1 := sb.at_ hb s1 (show w2.heap.size < w4.heap.size + 1 by omega)
    have t2 := sb.at_ hb s2 (show w3.heap.size < w4.heap.size + 1 by omega)
    have t3 := sb.at_ hb s3 (show w4.heap.size < w4.heap.size + 1 by omega)
    have r23 := r23.below hb (Nat.le_refl _)
    have rA := rA.below hb (Nat.le_refl _)
    refine hK.out _ _ ⟨t0, t1, t2, t3, (sb.step hb)⟩ (fun hS => ?_)
    clear hK K hb s0 t0 s1 t1 s2 t2 s3 t3 sb
    try simp only [Act.put, zA, zB, zC]
    clear rA
    clear r23
    (refine tk 25 ?_ rfl (Or.inl ⟨by rfl, ?_⟩) hS ?_; rotate_left; focus (intro w' hSw; obtain ⟨s0, s1, s2, s3, sb⟩ := hSw; go_simp <;> try with_reducible rfl))
    try simp only [Act.put, zA, zB, zC]
    (refine tk 26 ?_ rfl (Or.inl ⟨by rfl, ?_⟩) hS ?_; rotate_left; focus (intro w' hSw; obtain ⟨s0, s1, s2, s3, sb⟩ := hSw; go_simp <;> try with_reducible rfl))
    try simp only [Act.put, zA, zB, zC]
    (refine tk 27 ?_ rfl (Or.inl ⟨by rfl, ?_⟩) hS ?_; rotate_left; focus (intro w' hSw; obtain ⟨s0, s1, s2, s3, sb⟩ := hSw; obtain ⟨_, _, _, _, _, _, _, _, _⟩ := s0.out9; obtain ⟨_, _, _, _, _, _, _, _, _⟩ := s1.out9; obtain ⟨_, _, _, _, _, _, _, _, _⟩ := s2.out9; obtain ⟨_, _, _, _, _, _, _, _, _⟩ := s3.out9; go_simp <;> try with_reducible rfl))
    try simp only [Act.put, zA, zB, zC]
    (refine tk 28 ?_ rfl (Or.inl ⟨by rfl, ?_⟩) hS ?_; rotate_left; focus (intro w' hSw; obtain ⟨s0, s1, s2, s3, sb⟩ := hSw; obtain ⟨_, _, _, _, _, _, _, _, _⟩ := s0.out9; obtain ⟨_, _, _, _, _, _, _, _, _⟩ := s1.out9; obtain ⟨_, _, _, _, _, _, _, _, _⟩ := s2.out9; obtain ⟨_, _, _, _, _, _, _, _, _⟩ := s3.out9; go_simp <;> try with_reducible rfl))
    try simp only [Act.put, zA, zB, zC]
    (refine tk 30 ?_ rfl (Or.inl ⟨by rfl, ?_⟩) hS ?_; rotate_left; focus (intro w' hSw; obtain ⟨s0, s1, s2, s3, sb⟩ := hSw; obtain ⟨_, _, _, _, _, _, _, _, _⟩ := s0.out9; obtain ⟨_, _, _, _, _, _, _, _, _⟩ := s1.out9; obtain ⟨_, _, _, _, _, _, _, _, _⟩ := s2.out9; obtain ⟨_, _, _, _, _, _, _, _, _⟩ := s3.out9; go_simp <;> try with_reducible rfl))
    try simp only [Act.put, zA, zB, zC]
    refine rdy 29 rfl (fun K hK => ?_)
    refine take_if (by rfl) ?_
    obtain ⟨s0, s1, s2, s3, sb⟩ := hS
    go_simp
    refine hK.out _ _ ⟨(At.alloc s0 _), (At.alloc s1 _), (At.alloc s2 _), (At.alloc s3 _), (Bl.alloc sb _)⟩ (fun hS => ?_)
    clear hK K
    try simp only [Act.put, zA, zB, zC]
    have r29 : Rd (g24.alloc (.cells #[true, .int .i64 65535, .int .i64 5, .int .i64 1, .int .i64 52, (), (), true, .int .u64 9, true, .int .i64 65535, .int .i64 262143, (), .int .i64 52, (), (), true, .int .u64 5] 25)) (g24.alloc (.cells #[true, .int .i64 65535, .int .i64 5, .int .i64 1, .int .i64 52, (), (), true, .int .u64 9, true, .int .i64 65535, .int .i64 262143, (), .int .i64 52, (), (), true, .int .u64 5] 25)).heap.size (some ⟨g24.heap.size, 0, none⟩) [kS, kR] := rd_new [kS, kR] g24
    generalize hgw : (g24.alloc (.cells #[true, .int .i64 65535, .int .i64 5, .int .i64 1, .int .i64 52, (), (), true, .int .u64 9, true, .int .i64 65535, .int .i64 262143, (), .int .i64 52, (), (), true, .int .u64 5] 25)) = g29 at hS r29 ⊢
    clear hgw
    refine rdy 31 rfl (fun K hK => ?_)
    refine take_if (by rfl) ?_
    obtain ⟨s0, s1, s2, s3, sb⟩ := hS
    go_simp
    (with_reducible refine (wk_has1 _ _ _ r29).mono ?_)
    rintro e' g31 ⟨rfl, hb⟩
    have t0 := sb.at_ hb s0 (show w1.heap.size < w4.heap.size + 1 by omega)
    have t1 := sb.at_ hb s1 (show w2.heap.size < w4.heap.size + 1 by omega)
    have t2 := sb.at_ hb s2 (show w3.heap.size < w4.heap.size + 1 by omega)
    have t3 := sb.at_ hb s3 (show w4.heap.size < w4.heap.size + 1 by omega)
    have r29 := r29.below hb (Nat.le_refl _)
    refine hK.out _ _ ⟨t0, t1, t2, t3, (sb.step hb)⟩ (fun hS => ?_)
    clear hK K hb s0 t0 s1 t1 s2 t2 s3 t3 sb
    try simp only [Act.put, zA, zB, zC]
    clear r29
    (refine tk 32 ?_ rfl (Or.inl ⟨by rfl, ?_⟩) hS ?_; rotate_left; focus (intro w' hSw; obtain ⟨s0, s1, s2, s3, sb⟩ := hSw; go_simp <;> try with_reducible rfl))
    try simp only [Act.put, zA, zB, zC]
    (refine tk 33 ?_ rfl (Or.inl ⟨by rfl, ?_⟩) hS ?_; rotate_left; focus (intro w' hSw; obtain ⟨s0, s1, s2, s3, sb⟩ := hSw; go_simp <;> try with_reducible rfl))
    try simp only [Act.put, zA, zB, zC]
    (refine tk 34 ?_ rfl (Or.inl ⟨by rfl, ?_⟩) hS ?_; rotate_left; focus (intro w' hSw; obtain ⟨s0, s1, s2, s3, sb⟩ := hSw; obtain ⟨_, _, _, _, _, _, _, _, _⟩ := s0.out9; obtain ⟨_, _, _, _, _, _, _, _, _⟩ := s1.out9; obtain ⟨_, _, _, _, _, _, _, _, _⟩ := s2.out9; obtain ⟨_, _, _, _, _, _, _, _, _⟩ := s3.out9; go_simp <;> try with_reducible rfl))
    try simp only [Act.put, zA, zB, zC]
    (refine tk 36 ?_ rfl (Or.inl ⟨by rfl, ?_⟩) hS ?_; rotate_left; focus (intro w' hSw; obtain ⟨s0, s1, s2, s3, sb⟩ := hSw; obtain ⟨_, _, _, _, _, _, _, _, _⟩ := s0.out9; obtain ⟨_, _, _, _, _, _, _, _, _⟩ := s1.out9; obtain ⟨_, _, _, _, _, _, _, _, _⟩ := s2.out9; obtain ⟨_, _, _, _, _, _, _, _, _⟩ := s3.out9; go_simp <;> try with_reducible rfl))
    try simp only [Act.put, zA, zB, zC]
    refine rdy 35 rfl (fun K hK => ?_)
    refine take_if (by rfl) ?_
    obtain ⟨s0, s1, s2, s3, sb⟩ := hS
    go_simp
    refine hK.out _ _ ⟨(At.alloc s0 _), (At.alloc s1 _), (At.alloc s2 _), (At.alloc s3 _), (Bl.alloc sb _)⟩ (fun hS => ?_)
    clear hK K
    try simp only [Act.put, zA, zB, zC]
    have r35 : Rd (g31.alloc (.cells #[true, .int .i64 65535, .int .i64 5, .int .i64 1, .int .i64 52, (), (), true, .int .u64 9] 25)) (g31.alloc (.cells #[true, .int .i64 65535, .int .i64 5, .int .i64 1, .int .i64 52, (), (), true, .int .u64 9] 25)).heap.size (some ⟨g31.heap.size, 0, none⟩) [kS] := rd_new [kS] g31
    generalize hgw : (g31.alloc (.cells #[true, .int .i64 65535, .int .i64 5, .int .i64 1, .int .i64 52, (), (), true, .int .u64 9] 25)) = g35 at hS r35 ⊢
    clear hgw
    refine rdy 37 rfl (fun K hK => ?_)
    refine take_if (by rfl) ?_
    obtain ⟨s0, s1, s2, s3, sb⟩ := hS
    go_simp
    (with_reducible refine (wk_has2 _ _ _ r35).mono ?_)
    rintro e' g37 ⟨rfl, hb⟩
    have t0 := sb.at_ hb s0 (show w1.heap.size < w4.heap.size + 1 by omega)
    have t1 := sb.at_ hb s1 (show w2.heap.size < w4.heap.size + 1 by omega)
    have t2 := sb.at_ hb s2 (show w3.heap.size < w4.heap.size + 1 by omega)
    have t3 := sb.at_ hb s3 (show w4.heap.size < w4.heap.size + 1 by omega)
    have r35 := r35.below hb (Nat.le_refl _)
    refine hK.out _ _ ⟨t0, t1, t2, t3, (sb.step hb)⟩ (fun hS => ?_)
    clear hK K hb s0 t0 s1 t1 s2 t2 s3 t3 sb
    try simp only [Act.put, zA, zB, zC]
    clear r35
    (refine tk 38 ?_ rfl (Or.inl ⟨by rfl, ?_⟩) hS ?_; rotate_left; focus (intro w' hSw; obtain ⟨s0, s1, s2, s3, sb⟩ := hSw; go_simp <;> try with_reducible rfl))
    try simp only [Act.put, zA, zB, zC]
    (refine tk 39 ?_ rfl (Or.inl ⟨by rfl, ?_⟩) hS ?_; rotate_left; focus (intro w' hSw; obtain ⟨s0, s1, s2, s3, sb⟩ := hSw; go_simp <;> try with_reducible rfl))
    try simp only [Act.put, zA, zB, zC]
    (refine tk 40 ?_ rfl (Or.inl ⟨by rfl, ?_⟩) hS ?_; rotate_left; focus (intro w' hSw; obtain ⟨s0, s1, s2, s3, sb⟩ := hSw; go_simp <;> try with_reducible rfl))
    try simp only [Act.put, zA, zB, zC]
    (refine tk 41 ?_ rfl (Or.inl ⟨by rfl, ?_⟩) hS ?_; rotate_left; focus (intro w' hSw; obtain ⟨s0, s1, s2, s3, sb⟩ := hSw; obtain ⟨_, _, _, _, _, _, _, _, _⟩ := s0.out9; obtain ⟨_, _, _, _, _, _, _, _, _⟩ := s1.out9; obtain ⟨_, _, _, _, _, _, _, _, _⟩ := s2.out9; obtain ⟨_, _, _, _, _, _, _, _, _⟩ := s3.out9; go_simp <;> try with_reducible rfl))
    try simp only [Act.put, zA, zB, zC]
    refine rdy 42 rfl (fun K hK => ?_)
    refine take_if (by rfl) ?_
    obtain ⟨s0, s1, s2, s3, sb⟩ := hS
    go_simp
    (with_reducible refine (wk_has3 _).mono ?_)
    rintro e' g42 ⟨rfl, hb⟩
    have t0 := sb.at_ hb s0 (show w1.heap.size < w4.heap.size + 1 by omega)
    have t1 := sb.at_ hb s1 (show w2.heap.size < w4.heap.size + 1 by omega)
    have t2 := sb.at_ hb s2 (show w3.heap.size < w4.heap.size + 1 by omega)
    have t3 := sb.at_ hb s3 (show w4.heap.size < w4.heap.size + 1 by omega)
    refine hK.out _ _ ⟨t0, t1, t2, t3, (sb.step hb)⟩ (fun hS => ?_)
    clear hK K hb s0 t0 s1 t1 s2 t2 s3 t3 sb
    try simp only [Act.put, zA, zB, zC]
    (refine tk 43 ?_ rfl (Or.inl ⟨by rfl, ?_⟩) hS ?_; rotate_left; focus (intro w' hSw; obtain ⟨s0, s1, s2, s3, sb⟩ := hSw; go_simp <;> try with_reducible rfl))
    try simp only [Act.put, zA, zB, zC]
    (refine tk 44 ?_ rfl (Or.inl ⟨by rfl, ?_⟩) hS ?_; rotate_left; focus (intro w' hSw; obtain ⟨s0, s1, s2, s3, sb⟩ := hSw; go_simp <;> try with_reducible rfl))
    try simp only [Act.put, zA, zB, zC]
    (refine tk 45 ?_ rfl (Or.inl ⟨by rfl, ?_⟩) hS ?_; rotate_left; focus (intro w' hSw; obtain ⟨s0, s1, s2, s3, sb⟩ := hSw; go_simp <;> try with_reducible rfl))
    try simp only [Act.put, zA, zB, zC]
    (refine tk 46 ?_ rfl (Or.inl ⟨by rfl, ?_⟩) hS ?_; rotate_left; focus (intro w' hSw; obtain ⟨s0, s1, s2, s3, sb⟩ := hSw; obtain ⟨_, _, _, _, _, _, _, _, _⟩ := s0.out9; obtain ⟨_, _, _, _, _, _, _, _, _⟩ := s1.out9; obtain ⟨_, _, _, _, _, _, _, _, _⟩ := s2.out9; obtain ⟨_, _, _, _, _, _, _, _, _⟩ := s3.out9; go_simp <;> try with_reducible rfl))
    try simp only [Act.put, zA, zB, zC]
    (refine tk 47 ?_ rfl (Or.inl ⟨by rfl, ?_⟩) hS ?_; rotate_left; focus (intro w' hSw; obtain ⟨s0, s1, s2, s3, sb⟩ := hSw; obtain ⟨_, _, _, _, _, _, _, _, _⟩ := s0.out9; obtain ⟨_, _, _, _, _, _, _, _, _⟩ := s1.out9; obtain ⟨_, _, _, _, _, _, _, _, _⟩ := s2.out9; obtain ⟨_, _, _, _, _, _, _, _, _⟩ := s3.out9; go_simp <;> try with_reducible rfl))
    try simp only [Act.put, zA, zB, zC]
    refine rdy 48 rfl (fun K hK => ?_)
    refine take_if (by rfl) ?_
    obtain ⟨s0, s1, s2, s3, sb⟩ := hS
    go_simp
    (with_reducible refine (wk_less1 _).mono ?_)
    rintro e' g48 ⟨rfl, hb⟩
    have t0 := sb.at_ hb s0 (show w1.heap.size < w4.heap.size + 1 by omega)
    have t1 := sb.at_ hb s1 (show w2.heap.size < w4.heap.size + 1 by omega)
    have t2 := sb.at_ hb s2 (show w3.heap.size < w4.heap.size + 1 by omega)
    have t3 := sb.at_ hb s3 (show w4.heap.size < w4.heap.size + 1 by omega)
    refine hK.out _ _ ⟨t0, t1, t2, t3, (sb.step hb)⟩ (fun hS => ?_)
    clear hK K hb s0 t0 s1 t1 s2 t2 s3 t3 sb
    try simp only [Act.put, zA, zB, zC]
    (refine tk 49 ?_ rfl (Or.inl ⟨by rfl, ?_⟩) hS ?_; rotate_left; focus (intro w' hSw; obtain ⟨s0, s1, s2, s3, sb⟩ := hSw; go_simp <;> try with_reducible rfl))
    try simp only [Act.put, zA, zB, zC]
    (refine tk 50 ?_ rfl (Or.inl ⟨by rfl, ?_⟩) hS ?_; rotate_left; focus (intro w' hSw; obtain ⟨s0, s1, s2, s3, sb⟩ := hSw; go_simp <;> try with_reducible rfl))
    try simp only [Act.put, zA, zB, zC]
    (refine tk 51 ?_ rfl (Or.inl ⟨by rfl, ?_⟩) hS ?_; rotate_left; focus (intro w' hSw; obtain ⟨s0, s1, s2, s3, sb⟩ := hSw; obtain ⟨_, _, _, _, _, _, _, _, _⟩ := s0.out9; obtain ⟨_, _, _, _, _, _, _, _, _⟩ := s1.out9; obtain ⟨_, _, _, _, _, _, _, _, _⟩ := s2.out9; obtain ⟨_, _, _, _, _, _, _, _, _⟩ := s3.out9; go_simp <;> try with_reducible rfl))
    try simp only [Act.put, zA, zB, zC]
    (refine tk 52 ?_ rfl (Or.inl ⟨by rfl, ?_⟩) hS ?_; rotate_left; focus (intro w' hSw; obtain ⟨s0, s1, s2, s3, sb⟩ := hSw; obtain ⟨_, _, _, _, _, _, _, _, _⟩ := s0.out9; obtain ⟨_, _, _, _, _, _, _, _, _⟩ := s1.out9; obtain ⟨_, _, _, _, _, _, _, _, _⟩ := s2.out9; obtain ⟨_, _, _, _, _, _, _, _, _⟩ := s3.out9; go_simp <;> try with_reducible rfl))
    try simp only [Act.put, zA, zB, zC]
    refine rdy 53 rfl (fun K hK => ?_)
    refine take_if (by rfl) ?_
    obtain ⟨s0, s1, s2, s3, sb⟩ := hS
    go_simp
    (with_reducible refine (wk_less2 _).mono ?_)
    rintro e' g53 ⟨rfl, hb⟩
    have t0 := sb.at_ hb s0 (show w1.heap.size < w4.heap.size + 1 by omega)
    have t1 := sb.at_ hb s1 (show w2.heap.size < w4.heap.size + 1 by omega)
    have t2 := sb.at_ hb s2 (show w3.heap.size < w4.heap.size + 1 by omega)
    have t3 := sb.at_ hb s3 (show w4.heap.size < w4.heap.size + 1 by omega)
    refine hK.out _ _ ⟨t0, t1, t2, t3, (sb.step hb)⟩ (fun hS => ?_)
    clear hK K hb s0 t0 s1 t1 s2 t2 s3 t3 sb
    try simp only [Act.put, zA, zB, zC]
    (refine tk 54 ?_ rfl (Or.inl ⟨by rfl, ?_⟩) hS ?_; rotate_left; focus (intro w' hSw; obtain ⟨s0, s1, s2, s3, sb⟩ := hSw; go_simp <;> try with_reducible rfl))
    try simp only [Act.put, zA, zB, zC]
    (refine tk 55 ?_ rfl (Or.inl ⟨by rfl, ?_⟩) hS ?_; rotate_left; focus (intro w' hSw; obtain ⟨s0, s1, s2, s3, sb⟩ := hSw; go_simp <;> try with_reducible rfl))
    try simp only [Act.put, zA, zB, zC]
    (refine tk 56 ?_ rfl (Or.inl ⟨by rfl, ?_⟩) hS ?_; rotate_left; focus (intro w' hSw; obtain ⟨s0, s1, s2, s3, sb⟩ := hSw; go_simp <;> try with_reducible rfl))
    try simp only [Act.put, zA, zB, zC]
    refine wpAnyH_done (by kernel_rfl) ?_ _
    obtain ⟨s0, s1, s2, s3, sb⟩ := hS
    go_wp2
    go_ret
    exact ⟨rfl, sb.bl⟩
end Go.Proofs.Ytkddgjaflcjhiaa
