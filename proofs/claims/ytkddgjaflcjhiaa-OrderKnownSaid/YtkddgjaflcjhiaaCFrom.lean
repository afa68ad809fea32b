/-
  Contracts of capops.From, Typed and To: moved to a beginning and a number; to another one's type; how far. Bounds' fields are in their places; numbers are within their types.
-/
import Derived.Test.YtkddgjaflcjhiaaCMove
namespace Go.Proofs.Ytkddgjaflcjhiaa
open Go.ChangeShapes Go.WideShapes Go.ChangeAt Go.RowKit
set_option linter.unusedVariables false
set_option linter.unusedSimpArgs false

/-- Where From moves to. -/
def fromV (e b a n : Int) : Int := IntKind.u64.wrap (ofB e b a + n)
theorem fromV_bd (e b a n : Int) : 0 ≤ fromV e b a n ∧ fromV e b a n < 18446744073709551616 := wrap_bd _
theorem from_0 (tg : Bool) (pe ty mo e b t : Int) (g : Bool) (a : Int) (w : World) :
    Calls Try.prog 72 #[.agg #[tg, pe, ty, mo, e, b, t, g, .int .u64 a], .int .u64 0] w fun e' w' => e' = .returned (.agg #[false, (), .int .i64 262143, (), .int .i64 52, (), (), true, .int .u64 0]) ∧ Kp w w' := by
  have A0 : At (w.heap.size) [tg, pe, ty, mo, e, b, t, g, .int .u64 a] ((w.alloc (.cells #[tg, pe, ty, mo, e, b, t, g, .int .u64 a] 25)).alloc (.cells #[false, (), (), (), (), (), (), false, .int .u64 0] 25)) := ((At.new' w [tg, pe, ty, mo, e, b, t, g, .int .u64 a] 25 (by simp)).alloc _)
  have A1 : At (w.heap.size + 1) [false, (), (), (), (), (), (), false, .int .u64 0] ((w.alloc (.cells #[tg, pe, ty, mo, e, b, t, g, .int .u64 a] 25)).alloc (.cells #[false, (), (), (), (), (), (), false, .int .u64 0] 25)) := (At.new' (w.alloc (.cells #[tg, pe, ty, mo, e, b, t, g, .int .u64 a] 25)) [false, (), (), (), (), (), (), false, .int .u64 0] 25 (by simp))
  have R1 : Rm (w.heap.size + 1) 9 ((w.alloc (.cells #[tg, pe, ty, mo, e, b, t, g, .int .u64 a] 25)).alloc (.cells #[false, (), (), (), (), (), (), false, .int .u64 0] 25)) := (Rm.new' (w.alloc (.cells #[tg, pe, ty, mo, e, b, t, g, .int .u64 a] 25)) [false, (), (), (), (), (), (), false, .int .u64 0] 25 9 (by simp) (by simp))
  have kb : Bh w (w.heap.size + 2) ((w.alloc (.cells #[tg, pe, ty, mo, e, b, t, g, .int .u64 a] 25)).alloc (.cells #[false, (), (), (), (), (), (), false, .int .u64 0] 25)) := ⟨(((Kp.refl w).allocs _ _).allocs _ _), by simp, by simp⟩
  go_enter Try.func72, Try.ntmps72
  go_wp2_with (first
    | (go_at_call 6; (with_reducible refine (number_w _ _).mono ?_); rintro e' w1 ⟨rfl, qk⟩; have kbw1 : Bh w (w.heap.size + 2) w1 := Bh.step (by with_reducible assumption) qk; have Rw10 : Rm (w.heap.size + 1) 9 w1 := Rm.kp (by with_reducible assumption) qk (Nat.lt_of_lt_of_le (show w.heap.size + 1 < w.heap.size + 2 by omega) (Bh.le (W := w) (by with_reducible assumption))); obtain ⟨⟨_, _⟩, _, ⟨_, _⟩, _, ⟨_, _⟩, _, ⟨_, _⟩, _, ⟨_, _⟩, _, ⟨_, _⟩, _, ⟨_, _⟩, _, ⟨_, _⟩, _, ⟨_, _⟩, _⟩ := Rw10.out9; clear qk))
  refine bodyPost_ret (v := .agg #[false, (), .int .i64 262143, (), .int .i64 52, (), (), true, .int .u64 0]) ?_ rfl ⟨rfl, ?_⟩
  · simp [results, Try.results72, go_sem, *]
  · repeat' (first | with_reducible refine Kp.setCell ?_ ?_ _ | with_reducible refine Kp.allocs ?_ _ _)
    all_goals first | exact kbw1.kp | (dsimp only; omega)
set_option maxHeartbeats 4000000 in
set_option maxRecDepth 100000 in
theorem from_n (tg : Bool) (pe ty mo e b t : Int) (g : Bool) (a : Int) (n : Int) (h : Fld e b t a) (hn : (n == 0) = false) (v : Bool) (hv : moveT tg ty e b t g a (fromV e b a n) = v) (w : World) :
    Calls Try.prog 72 #[.agg #[tg, pe, ty, mo, e, b, t, g, .int .u64 a], .int .u64 n] w fun e' w' => e' = .returned (.agg #[v, pe, ty, mo, e, b, t, g, .int .u64 (fromV e b a n)]) ∧ Kp w w' := by
  obtain ⟨x, hx⟩ : ∃ x, fromV e b a n = x := ⟨_, rfl⟩
  have hb := fromV_bd e b a n
  rw [hx] at hv hb ⊢
  obtain ⟨x0, x1⟩ := hb
  obtain ⟨B, hB⟩ : ∃ B, ofB e b a = B := ⟨_, rfl⟩
  have cb : ∀ w : World, Calls Try.prog 91 #[.agg #[tg, pe, ty, mo, e, b, t, g, .int .u64 a]] w fun e' w' => e' = .returned (.int .u64 B) ∧ Kp w w' := fun w => by
    have c := base_w tg pe ty mo e b t g a h w
    rw [hB] at c; exact c
  have hX : IntKind.u64.wrap (B + n) = x := by rw [← hx, ← hB]; rfl
  have CB := Lib.hid cb
  have HV := Lib.hid hv
  have HF := Lib.hid h
  clear cb hv h hx hB
  have A0 : At (w.heap.size) [tg, pe, ty, mo, e, b, t, g, .int .u64 a] ((w.alloc (.cells #[tg, pe, ty, mo, e, b, t, g, .int .u64 a] 25)).alloc (.cells #[false, (), (), (), (), (), (), false, .int .u64 0] 25)) := ((At.new' w [tg, pe, ty, mo, e, b, t, g, .int .u64 a] 25 (by simp)).alloc _)
  have A1 : At (w.heap.size + 1) [false, (), (), (), (), (), (), false, .int .u64 0] ((w.alloc (.cells #[tg, pe, ty, mo, e, b, t, g, .int .u64 a] 25)).alloc (.cells #[false, (), (), (), (), (), (), false, .int .u64 0] 25)) := (At.new' (w.alloc (.cells #[tg, pe, ty, mo, e, b, t, g, .int .u64 a] 25)) [false, (), (), (), (), (), (), false, .int .u64 0] 25 (by simp))
  have R1 : Rm (w.heap.size + 1) 9 ((w.alloc (.cells #[tg, pe, ty, mo, e, b, t, g, .int .u64 a] 25)).alloc (.cells #[false, (), (), (), (), (), (), false, .int .u64 0] 25)) := (Rm.new' (w.alloc (.cells #[tg, pe, ty, mo, e, b, t, g, .int .u64 a] 25)) [false, (), (), (), (), (), (), false, .int .u64 0] 25 9 (by simp) (by simp))
  have kb : Bh w (w.heap.size + 2) ((w.alloc (.cells #[tg, pe, ty, mo, e, b, t, g, .int .u64 a] 25)).alloc (.cells #[false, (), (), (), (), (), (), false, .int .u64 0] 25)) := ⟨(((Kp.refl w).allocs _ _).allocs _ _), by simp, by simp⟩
  go_enter Try.func72, Try.ntmps72
  go_upto_region 3 with fail
  refine wp_region_held_drew (S := (fun w' => At (w.heap.size) [tg, pe, ty, mo, e, b, t, g, .int .u64 a] w' ∧ Rm (w.heap.size + 1) 9 w' ∧ Bh w (w.heap.size + 2) w')) (by kernel_rfl) ⟨At.drew (by with_reducible assumption), Rm.drew (by with_reducible assumption), Bh.drew (by with_reducible assumption)⟩ (fun hS => ?_)
  (refine tk 0 ?_ rfl (Or.inl ⟨by rfl, ?_⟩) hS ?_; rotate_left; focus (intro w' hSw; obtain ⟨s0, s1, sb⟩ := hSw; obtain ⟨_, _, _, _, _, _, _, _, _⟩ := s0.out9; go_simp <;> try with_reducible rfl))
  try simp only [Act.put, zA, zB, zC]
  (refine tk 1 ?_ rfl (Or.inl ⟨by rfl, ?_⟩) hS ?_; rotate_left; focus (intro w' hSw; obtain ⟨s0, s1, sb⟩ := hSw; obtain ⟨_, _, _, _, _, _, _, _, _⟩ := s0.out9; go_simp <;> try with_reducible rfl))
  try simp only [Act.put, zA, zB, zC]
  (refine tk 3 ?_ rfl (Or.inl ⟨by rfl, ?_⟩) hS ?_; rotate_left; focus (intro w' hSw; obtain ⟨s0, s1, sb⟩ := hSw; go_simp <;> try with_reducible rfl))
  try simp only [Act.put, zA, zB, zC]
  refine rdy 2 rfl (fun K hK => ?_)
  (refine take_if (by rfl) ?_; obtain ⟨s0, s1, sb⟩ := hS; go_simp; (with_reducible refine (CB.out _).mono ?_); rintro e' w' ⟨rfl, qk⟩; have t0 := At.kp s0 qk (Nat.lt_of_lt_of_le (show w.heap.size < w.heap.size + 2 by omega) sb.le); have t1 := Rm.kp s1 qk (Nat.lt_of_lt_of_le (show w.heap.size + 1 < w.heap.size + 2 by omega) sb.le); have tb := Bh.step sb qk; clear qk; refine hK.out _ _ ⟨t0, t1, tb⟩ (fun hS => ?_))
  clear hK K
  try simp only [Act.put, zA, zB, zC]
  (refine tk 4 ?_ rfl (Or.inl ⟨by rfl, ?_⟩) hS ?_; rotate_left; focus (intro w' hSw; obtain ⟨s0, s1, sb⟩ := hSw; go_simp <;> try with_reducible rfl))
  try simp only [Act.put, zA, zB, zC]
  refine rdy 5 rfl (fun K hK => ?_)
  (refine take_if (by rfl) ?_; obtain ⟨s0, s1, sb⟩ := hS; go_simp; (with_reducible refine (move_w _ _ _ _ _ _ _ _ _ _ HF.out (by first | omega | (rw [hX]; exact x0)) (by first | omega | (rw [hX]; exact x1)) _ (by first | exact HV.out | (rw [hX]; exact HV.out)) _).mono ?_); rintro e' w' ⟨rfl, qk⟩; have t0 := At.kp s0 qk (Nat.lt_of_lt_of_le (show w.heap.size < w.heap.size + 2 by omega) sb.le); have t1 := Rm.kp s1 qk (Nat.lt_of_lt_of_le (show w.heap.size + 1 < w.heap.size + 2 by omega) sb.le); have tb := Bh.step sb qk; clear qk; refine hK.out _ _ ⟨t0, t1, tb⟩ (fun hS => ?_))
  clear hK K
  try simp only [Act.put, zA, zB, zC]
  refine rdy 6 rfl (fun K hK => ?_)
  obtain ⟨s0, s1, sb⟩ := hS
  obtain ⟨_, _, _, _, _, _, _, _, _⟩ := s0.out9
  obtain ⟨⟨_, _⟩, _, ⟨_, _⟩, _, ⟨_, _⟩, _, ⟨_, _⟩, _, ⟨_, _⟩, _, ⟨_, _⟩, _, ⟨_, _⟩, _, ⟨_, _⟩, _, ⟨_, _⟩, _⟩ := s1.out9; 
  go_simp
  refine hK.out _ _ ⟨?_, ?_, ?_⟩ (fun hS => ?_)
  · repeat' (first | with_reducible assumption | (with_reducible refine At.set ?_ ?_ _))
    all_goals first | with_reducible assumption | (dsimp only; omega)
  · repeat' (first | with_reducible assumption | (with_reducible refine Rm.set ?_ _))
    all_goals first | with_reducible assumption | (dsimp only; omega)
  · repeat' (first | with_reducible assumption | with_reducible refine Bh.set2 ?_ ?_)
    all_goals first | with_reducible assumption | (dsimp only; omega)
  clear hK K hS
  try simp only [Act.put, zA, zB, zC]
  refine wpAnyH_done (by kernel_rfl) ?_ _
  go_wp2
  refine bodyPost_ret (v := .agg #[v, pe, ty, mo, e, b, t, g, .int .u64 x]) ?_ rfl ⟨rfl, ?_⟩
  · simp [results, Try.results72, go_sem, *]
  · repeat' (first | with_reducible refine Kp.setCell ?_ ?_ _ | with_reducible refine Kp.allocs ?_ _ _)
    all_goals first | exact sb.kp | (dsimp only; omega)
set_option maxHeartbeats 4000000 in
set_option maxRecDepth 100000 in
theorem typed_hi (ctg : Bool) (cpe cty cmo ce cb ct : Int) (cg : Bool) (ca : Int) (dtg : Bool) (dpe dty dmo de db dt : Int) (dg : Bool) (da : Int) (hd : decide (262135 < dty) = true) (w : World) :
    Calls Try.prog 71 #[.agg #[ctg, cpe, cty, cmo, ce, cb, ct, cg, .int .u64 ca], .agg #[dtg, dpe, dty, dmo, de, db, dt, dg, .int .u64 da]] w fun e' w' => e' = .returned (.agg #[false, (), .int .i64 262143, (), .int .i64 52, (), (), true, .int .u64 18446744073709551615]) ∧ Kp w w' := by
  have A0 : At (w.heap.size) [ctg, cpe, cty, cmo, ce, cb, ct, cg, .int .u64 ca] (((w.alloc (.cells #[ctg, cpe, cty, cmo, ce, cb, ct, cg, .int .u64 ca] 25)).alloc (.cells #[dtg, dpe, dty, dmo, de, db, dt, dg, .int .u64 da] 25)).alloc (.cells #[false, (), (), (), (), (), (), false, .int .u64 0] 25)) := (((At.new' w [ctg, cpe, cty, cmo, ce, cb, ct, cg, .int .u64 ca] 25 (by simp)).alloc _).alloc _)
  have A1 : At (w.heap.size + 1) [dtg, dpe, dty, dmo, de, db, dt, dg, .int .u64 da] (((w.alloc (.cells #[ctg, cpe, cty, cmo, ce, cb, ct, cg, .int .u64 ca] 25)).alloc (.cells #[dtg, dpe, dty, dmo, de, db, dt, dg, .int .u64 da] 25)).alloc (.cells #[false, (), (), (), (), (), (), false, .int .u64 0] 25)) := ((At.new' (w.alloc (.cells #[ctg, cpe, cty, cmo, ce, cb, ct, cg, .int .u64 ca] 25)) [dtg, dpe, dty, dmo, de, db, dt, dg, .int .u64 da] 25 (by simp)).alloc _)
  have A2 : At (w.heap.size + 1 + 1) [false, (), (), (), (), (), (), false, .int .u64 0] (((w.alloc (.cells #[ctg, cpe, cty, cmo, ce, cb, ct, cg, .int .u64 ca] 25)).alloc (.cells #[dtg, dpe, dty, dmo, de, db, dt, dg, .int .u64 da] 25)).alloc (.cells #[false, (), (), (), (), (), (), false, .int .u64 0] 25)) := (At.new' ((w.alloc (.cells #[ctg, cpe, cty, cmo, ce, cb, ct, cg, .int .u64 ca] 25)).alloc (.cells #[dtg, dpe, dty, dmo, de, db, dt, dg, .int .u64 da] 25)) [false, (), (), (), (), (), (), false, .int .u64 0] 25 (by simp))
  have R2 : Rm (w.heap.size + 1 + 1) 9 (((w.alloc (.cells #[ctg, cpe, cty, cmo, ce, cb, ct, cg, .int .u64 ca] 25)).alloc (.cells #[dtg, dpe, dty, dmo, de, db, dt, dg, .int .u64 da] 25)).alloc (.cells #[false, (), (), (), (), (), (), false, .int .u64 0] 25)) := (Rm.new' ((w.alloc (.cells #[ctg, cpe, cty, cmo, ce, cb, ct, cg, .int .u64 ca] 25)).alloc (.cells #[dtg, dpe, dty, dmo, de, db, dt, dg, .int .u64 da] 25)) [false, (), (), (), (), (), (), false, .int .u64 0] 25 9 (by simp) (by simp))
  have kb : Bh w (w.heap.size + 3) (((w.alloc (.cells #[ctg, cpe, cty, cmo, ce, cb, ct, cg, .int .u64 ca] 25)).alloc (.cells #[dtg, dpe, dty, dmo, de, db, dt, dg, .int .u64 da] 25)).alloc (.cells #[false, (), (), (), (), (), (), false, .int .u64 0] 25)) := ⟨((((Kp.refl w).allocs _ _).allocs _ _).allocs _ _), by simp, by simp⟩
  go_enter Try.func71, Try.ntmps71
  go_wp2_with (first
    | (go_at_call 6; (with_reducible refine (number_w _ _).mono ?_); rintro e' w1 ⟨rfl, qk⟩; have kbw1 : Bh w (w.heap.size + 3) w1 := Bh.step (by with_reducible assumption) qk; have Rw10 : Rm (w.heap.size + 1 + 1) 9 w1 := Rm.kp (by with_reducible assumption) qk (Nat.lt_of_lt_of_le (show w.heap.size + 1 + 1 < w.heap.size + 3 by omega) (Bh.le (W := w) (by with_reducible assumption))); obtain ⟨⟨_, _⟩, _, ⟨_, _⟩, _, ⟨_, _⟩, _, ⟨_, _⟩, _, ⟨_, _⟩, _, ⟨_, _⟩, _, ⟨_, _⟩, _, ⟨_, _⟩, _, ⟨_, _⟩, _⟩ := Rw10.out9; clear qk))
  refine bodyPost_ret (v := .agg #[false, (), .int .i64 262143, (), .int .i64 52, (), (), true, .int .u64 18446744073709551615]) ?_ rfl ⟨rfl, ?_⟩
  · simp [results, Try.results71, go_sem, *]
  · repeat' (first | with_reducible refine Kp.setCell ?_ ?_ _ | with_reducible refine Kp.allocs ?_ _ _)
    all_goals first | exact kbw1.kp | (dsimp only; omega)
set_option maxHeartbeats 4000000 in
set_option maxRecDepth 100000 in
theorem typed_lo (ctg : Bool) (cpe cty cmo ce cb ct : Int) (cg : Bool) (ca : Int) (dtg : Bool) (dpe dty dmo de db dt : Int) (dg : Bool) (da : Int) (h : Fld ce cb ct ca) (hd : decide (262135 < dty) = false) (d0 : 0 ≤ dty) (d1 : dty < 262144) (v : Bool) (hv : moveT ctg cty ce cb ct cg ca dty = v) (w : World) :
    Calls Try.prog 71 #[.agg #[ctg, cpe, cty, cmo, ce, cb, ct, cg, .int .u64 ca], .agg #[dtg, dpe, dty, dmo, de, db, dt, dg, .int .u64 da]] w fun e' w' => e' = .returned (.agg #[v, cpe, cty, cmo, ce, cb, ct, cg, .int .u64 dty]) ∧ Kp w w' := by
  have hw : IntKind.u64.wrap dty = dty := by rw [IntKind.wrap_u64]; omega
  have HV := Lib.hid hv
  have HF := Lib.hid h
  clear hv h
  have A0 : At (w.heap.size) [ctg, cpe, cty, cmo, ce, cb, ct, cg, .int .u64 ca] (((w.alloc (.cells #[ctg, cpe, cty, cmo, ce, cb, ct, cg, .int .u64 ca] 25)).alloc (.cells #[dtg, dpe, dty, dmo, de, db, dt, dg, .int .u64 da] 25)).alloc (.cells #[false, (), (), (), (), (), (), false, .int .u64 0] 25)) := (((At.new' w [ctg, cpe, cty, cmo, ce, cb, ct, cg, .int .u64 ca] 25 (by simp)).alloc _).alloc _)
  have A1 : At (w.heap.size + 1) [dtg, dpe, dty, dmo, de, db, dt, dg, .int .u64 da] (((w.alloc (.cells #[ctg, cpe, cty, cmo, ce, cb, ct, cg, .int .u64 ca] 25)).alloc (.cells #[dtg, dpe, dty, dmo, de, db, dt, dg, .int .u64 da] 25)).alloc (.cells #[false, (), (), (), (), (), (), false, .int .u64 0] 25)) := ((At.new' (w.alloc (.cells #[ctg, cpe, cty, cmo, ce, cb, ct, cg, .int .u64 ca] 25)) [dtg, dpe, dty, dmo, de, db, dt, dg, .int .u64 da] 25 (by simp)).alloc _)
  have A2 : At (w.heap.size + 1 + 1) [false, (), (), (), (), (), (), false, .int .u64 0] (((w.alloc (.cells #[ctg, cpe, cty, cmo, ce, cb, ct, cg, .int .u64 ca] 25)).alloc (.cells #[dtg, dpe, dty, dmo, de, db, dt, dg, .int .u64 da] 25)).alloc (.cells #[false, (), (), (), (), (), (), false, .int .u64 0] 25)) := (At.new' ((w.alloc (.cells #[ctg, cpe, cty, cmo, ce, cb, ct, cg, .int .u64 ca] 25)).alloc (.cells #[dtg, dpe, dty, dmo, de, db, dt, dg, .int .u64 da] 25)) [false, (), (), (), (), (), (), false, .int .u64 0] 25 (by simp))
  have R2 : Rm (w.heap.size + 1 + 1) 9 (((w.alloc (.cells #[ctg, cpe, cty, cmo, ce, cb, ct, cg, .int .u64 ca] 25)).alloc (.cells #[dtg, dpe, dty, dmo, de, db, dt, dg, .int .u64 da] 25)).alloc (.cells #[false, (), (), (), (), (), (), false, .int .u64 0] 25)) := (Rm.new' ((w.alloc (.cells #[ctg, cpe, cty, cmo, ce, cb, ct, cg, .int .u64 ca] 25)).alloc (.cells #[dtg, dpe, dty, dmo, de, db, dt, dg, .int .u64 da] 25)) [false, (), (), (), (), (), (), false, .int .u64 0] 25 9 (by simp) (by simp))
  have kb : Bh w (w.heap.size + 3) (((w.alloc (.cells #[ctg, cpe, cty, cmo, ce, cb, ct, cg, .int .u64 ca] 25)).alloc (.cells #[dtg, dpe, dty, dmo, de, db, dt, dg, .int .u64 da] 25)).alloc (.cells #[false, (), (), (), (), (), (), false, .int .u64 0] 25)) := ⟨((((Kp.refl w).allocs _ _).allocs _ _).allocs _ _), by simp, by simp⟩
  go_enter Try.func71, Try.ntmps71
  go_wp2_with (first
    | (go_at_call 35; (with_reducible refine (move_w _ _ _ _ _ _ _ _ _ dty HF.out (by omega) (by omega) _ HV.out _).mono ?_); rintro e' w1 ⟨rfl, qk⟩; have kbw1 : Bh w (w.heap.size + 3) w1 := Bh.step (by with_reducible assumption) qk; have Rw10 : Rm (w.heap.size + 1 + 1) 9 w1 := Rm.kp (by with_reducible assumption) qk (Nat.lt_of_lt_of_le (show w.heap.size + 1 + 1 < w.heap.size + 3 by omega) (Bh.le (W := w) (by with_reducible assumption))); obtain ⟨⟨_, _⟩, _, ⟨_, _⟩, _, ⟨_, _⟩, _, ⟨_, _⟩, _, ⟨_, _⟩, _, ⟨_, _⟩, _, ⟨_, _⟩, _, ⟨_, _⟩, _, ⟨_, _⟩, _⟩ := Rw10.out9; clear qk))
  refine bodyPost_ret (v := .agg #[v, cpe, cty, cmo, ce, cb, ct, cg, .int .u64 dty]) ?_ rfl ⟨rfl, ?_⟩
  · simp [results, Try.results71, go_sem, *]
  · repeat' (first | with_reducible refine Kp.setCell ?_ ?_ _ | with_reducible refine Kp.allocs ?_ _ _)
    all_goals first | exact kbw1.kp | (dsimp only; omega)
def toV (tg : Bool) (a e b x : Int) : Int := if tg then IntKind.u64.wrap (a - ofB e b x) else 0
end Go.Proofs.Ytkddgjaflcjhiaa
