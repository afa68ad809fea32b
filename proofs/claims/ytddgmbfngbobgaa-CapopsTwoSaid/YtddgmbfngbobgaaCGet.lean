/-
  Contracts of what can be asked of a right capability, and of capops.Get: which answer is found under which number.
-/
import Derived.Test.YtddgmbfngbobgaaCMap
import Derived.Test.YtddgmbfngbobgaaCRight
import Derived.Test.YtddgmbfngbobgaaBMask
namespace Go.Proofs.Ytddgmbfngbobgaa
open Go.ChangeShapes Go.WideShapes Go.ChangeAt Go.RowKit
set_option linter.unusedVariables false
set_option linter.unusedSimpArgs false

def kindV (ty : Int) : Int := if ty = 262143 then 18446744073709551615 else if ty = 262142 then 18446744073709551614 else ty
def topV (t : Int) (o : Bool) : Int := if o then 18446744073709551615 else t
def offV (b a : Int) : Int := IntKind.u64.wrap (a - b)
theorem mp_kp {w w' : World} {es : Array MapEntry} {n : Nat} (h : Mp w es n w') : Kp w w' := h.kp
theorem qone_w (o : Bool) (w : World) :
    Calls Try.prog 92 #[.bool o] w fun e w' => e = .returned (.int .u64 (b01 o)) ∧ w = w' := by
  cases o
  all_goals
    go_enter Try.func92, Try.ntmps92
    go_wp2
    go_ret
    exact ⟨rfl, rfl⟩
set_option maxHeartbeats 4000000 in
set_option maxRecDepth 100000 in
theorem q_0 (tg : Bool) (pe ty mo e b t : Int) (g : Bool) (a : Int) (h : Rt pe ty mo e b t a) (w : World) :
    Calls Try.prog 88 #[.agg #[.bool tg, .int .i64 pe, .int .i64 ty, .int .i64 mo, .int .i64 e, .int .i64 b, .int .i64 t, .bool g, .int .u64 a]] w fun e' w' => e' = .returned (.int .u64 pe) ∧ Kp w w' := by
  have hw : IntKind.u64.wrap pe = pe := by rw [IntKind.wrap_u64]; have := h.p0; have := h.p1; have := h.o0; have := h.o1; have := h.y0; have := h.y1; omega
  go_enter Try.func88, Try.ntmps88
  go_wp2
  go_ret
  exact ⟨rfl, (Kp.refl w).allocs _ _⟩
set_option maxHeartbeats 4000000 in
set_option maxRecDepth 100000 in
theorem q_7 (tg : Bool) (pe ty mo e b t : Int) (g : Bool) (a : Int) (h : Rt pe ty mo e b t a) (w : World) :
    Calls Try.prog 95 #[.agg #[.bool tg, .int .i64 pe, .int .i64 ty, .int .i64 mo, .int .i64 e, .int .i64 b, .int .i64 t, .bool g, .int .u64 a]] w fun e' w' => e' = .returned (.int .u64 mo) ∧ Kp w w' := by
  have hw : IntKind.u64.wrap mo = mo := by rw [IntKind.wrap_u64]; have := h.p0; have := h.p1; have := h.o0; have := h.o1; have := h.y0; have := h.y1; omega
  go_enter Try.func95, Try.ntmps95
  go_wp2
  go_ret
  exact ⟨rfl, (Kp.refl w).allocs _ _⟩
set_option maxHeartbeats 4000000 in
set_option maxRecDepth 100000 in
theorem q_15 (tg : Bool) (pe ty mo e b t : Int) (g : Bool) (a : Int) (h : Rt pe ty mo e b t a) (w : World) :
    Calls Try.prog 100 #[.agg #[.bool tg, .int .i64 pe, .int .i64 ty, .int .i64 mo, .int .i64 e, .int .i64 b, .int .i64 t, .bool g, .int .u64 a]] w fun e' w' => e' = .returned (.int .u64 a) ∧ Kp w w' := by
  go_enter Try.func100, Try.ntmps100
  go_wp2
  go_ret
  exact ⟨rfl, (Kp.refl w).allocs _ _⟩
set_option maxHeartbeats 4000000 in
set_option maxRecDepth 100000 in
theorem q_1 (tg : Bool) (pe ty mo e b t : Int) (g : Bool) (a : Int) (h : Rt pe ty mo e b t a) (w : World) :
    Calls Try.prog 89 #[.agg #[.bool tg, .int .i64 pe, .int .i64 ty, .int .i64 mo, .int .i64 e, .int .i64 b, .int .i64 t, .bool g, .int .u64 a]] w fun e' w' => e' = .returned (.int .u64 (kindV ty)) ∧ Kp w w' := by
  have hw : IntKind.u64.wrap ty = ty := by rw [IntKind.wrap_u64]; have := h.p0; have := h.p1; have := h.o0; have := h.o1; have := h.y0; have := h.y1; omega
  by_cases h1 : ty = 262143
  · subst h1
    go_enter Try.func89, Try.ntmps89
    go_wp2
    go_ret
    exact ⟨rfl, (Kp.refl w).allocs _ _⟩
  · have e1 : (ty == 262143) = false := by simp [h1]
    by_cases h2 : ty = 262142
    · subst h2
      go_enter Try.func89, Try.ntmps89
      go_wp2
      go_ret
      exact ⟨rfl, (Kp.refl w).allocs _ _⟩
    · have e2 : (ty == 262142) = false := by simp [h2]
      have hk : kindV ty = ty := by unfold kindV; rw [if_neg h1, if_neg h2]
      rw [hk]
      clear hk
      go_enter Try.func89, Try.ntmps89
      go_wp2
      go_ret
      exact ⟨rfl, (Kp.refl w).allocs _ _⟩
set_option maxHeartbeats 4000000 in
set_option maxRecDepth 100000 in
theorem q_2 (tg : Bool) (pe ty mo e b t : Int) (g : Bool) (a : Int) (h : Rt pe ty mo e b t a) (w : World) :
    Calls Try.prog 61 #[.agg #[.bool tg, .int .i64 pe, .int .i64 ty, .int .i64 mo, .int .i64 e, .int .i64 b, .int .i64 t, .bool g, .int .u64 a]] w fun e' w' => e' = .returned (.int .u64 (ofB e b a)) ∧ Kp w w' := by
  exact base_w tg pe ty mo e b t g a h.f w
set_option maxHeartbeats 4000000 in
set_option maxRecDepth 100000 in
theorem q_3 (tg : Bool) (pe ty mo e b t : Int) (g : Bool) (a : Int) (h : Rt pe ty mo e b t a) (w : World) :
    Calls Try.prog 90 #[.agg #[.bool tg, .int .i64 pe, .int .i64 ty, .int .i64 mo, .int .i64 e, .int .i64 b, .int .i64 t, .bool g, .int .u64 a]] w fun e' w' => e' = .returned (.int .u64 (lenV (ofB e b a) (ofT e b t g a) (ofO e b t g a))) ∧ Kp w w' := by
  have bt := ofT_bd e b t g a
  have bb := ofB_bd e b a
  have HF := Lib.hid h.f
  clear h
  have A0 : At (w.heap.size) [.bool tg, .int .i64 pe, .int .i64 ty, .int .i64 mo, .int .i64 e, .int .i64 b, .int .i64 t, .bool g, .int .u64 a] (w.alloc (.cells #[.bool tg, .int .i64 pe, .int .i64 ty, .int .i64 mo, .int .i64 e, .int .i64 b, .int .i64 t, .bool g, .int .u64 a] 24)) := (At.new' w [.bool tg, .int .i64 pe, .int .i64 ty, .int .i64 mo, .int .i64 e, .int .i64 b, .int .i64 t, .bool g, .int .u64 a] 24 (by simp))
  have kb : Bh w (w.heap.size + 1) (w.alloc (.cells #[.bool tg, .int .i64 pe, .int .i64 ty, .int .i64 mo, .int .i64 e, .int .i64 b, .int .i64 t, .bool g, .int .u64 a] 24)) := ⟨((Kp.refl w).allocs _ _), by simp, by simp⟩
  go_enter Try.func90, Try.ntmps90
  go_wp2_with (first
    | (go_at_call 42; (with_reducible refine (of_c _ _ _ _ _ _ _ _ _ HF.out _).mono ?_); rintro e' w1 ⟨rfl, qk⟩; have kbw1 : Bh w (w.heap.size + 1) w1 := Bh.step (by with_reducible assumption) qk; clear qk)
    | (go_at_call 44; (with_reducible refine (len_w _ _ _ bb.1 bb.2 bt.1 bt.2 _).mono ?_); rintro e' w2 ⟨rfl, qk⟩; have kbw2 : Bh w (w.heap.size + 1) w2 := Bh.step (by with_reducible assumption) qk; clear qk))
  go_ret
  exact ⟨rfl, kbw2.kp⟩
set_option maxHeartbeats 4000000 in
set_option maxRecDepth 100000 in
theorem q_4 (tg : Bool) (pe ty mo e b t : Int) (g : Bool) (a : Int) (h : Rt pe ty mo e b t a) (w : World) :
    Calls Try.prog 91 #[.agg #[.bool tg, .int .i64 pe, .int .i64 ty, .int .i64 mo, .int .i64 e, .int .i64 b, .int .i64 t, .bool g, .int .u64 a]] w fun e' w' => e' = .returned (.int .u64 (b01 tg)) ∧ Kp w w' := by
  go_enter Try.func91, Try.ntmps91
  go_wp2_with (go_at_call 92; (with_reducible refine (qone_w _ _).mono ?_); rintro e' w' ⟨rfl, rfl⟩)
  go_ret
  exact ⟨rfl, (Kp.refl w).allocs _ _⟩
set_option maxHeartbeats 4000000 in
set_option maxRecDepth 100000 in
theorem q_5 (tg : Bool) (pe ty mo e b t : Int) (g : Bool) (a : Int) (h : Rt pe ty mo e b t a) (w : World) :
    Calls Try.prog 93 #[.agg #[.bool tg, .int .i64 pe, .int .i64 ty, .int .i64 mo, .int .i64 e, .int .i64 b, .int .i64 t, .bool g, .int .u64 a]] w fun e' w' => e' = .returned (.int .u64 (b01 (sealedB ty))) ∧ Kp w w' := by
  have A0 : At (w.heap.size) [.bool tg, .int .i64 pe, .int .i64 ty, .int .i64 mo, .int .i64 e, .int .i64 b, .int .i64 t, .bool g, .int .u64 a] (w.alloc (.cells #[.bool tg, .int .i64 pe, .int .i64 ty, .int .i64 mo, .int .i64 e, .int .i64 b, .int .i64 t, .bool g, .int .u64 a] 24)) := (At.new' w [.bool tg, .int .i64 pe, .int .i64 ty, .int .i64 mo, .int .i64 e, .int .i64 b, .int .i64 t, .bool g, .int .u64 a] 24 (by simp))
  have kb : Bh w (w.heap.size + 1) (w.alloc (.cells #[.bool tg, .int .i64 pe, .int .i64 ty, .int .i64 mo, .int .i64 e, .int .i64 b, .int .i64 t, .bool g, .int .u64 a] 24)) := ⟨((Kp.refl w).allocs _ _), by simp, by simp⟩
  go_enter Try.func93, Try.ntmps93
  go_wp2_with (first
    | (go_at_call 12; (with_reducible refine (sealed_w _ _ _ _ _ _ _ _ _ _ rfl _).mono ?_); rintro e' w1 ⟨rfl, qk⟩; have kbw1 : Bh w (w.heap.size + 1) w1 := Bh.step (by with_reducible assumption) qk; clear qk)
    | (go_at_call 92; (with_reducible refine (qone_w _ _).mono ?_); rintro e' w' ⟨rfl, rfl⟩))
  go_ret
  exact ⟨rfl, kbw1.kp⟩
set_option maxHeartbeats 4000000 in
set_option maxRecDepth 100000 in
theorem q_6 (tg : Bool) (pe ty mo e b t : Int) (g : Bool) (a : Int) (h : Rt pe ty mo e b t a) (w : World) :
    Calls Try.prog 94 #[.agg #[.bool tg, .int .i64 pe, .int .i64 ty, .int .i64 mo, .int .i64 e, .int .i64 b, .int .i64 t, .bool g, .int .u64 a]] w fun e' w' => e' = .returned (.int .u64 (offV (ofB e b a) a)) ∧ Kp w w' := by
  obtain ⟨B, hB⟩ : ∃ B, ofB e b a = B := ⟨_, rfl⟩
  have cb : ∀ w : World, Calls Try.prog 61 #[.agg #[.bool tg, .int .i64 pe, .int .i64 ty, .int .i64 mo, .int .i64 e, .int .i64 b, .int .i64 t, .bool g, .int .u64 a]] w fun e' w' => e' = .returned (.int .u64 B) ∧ Kp w w' := fun w => by
    have c := base_w tg pe ty mo e b t g a h.f w
    rw [hB] at c; exact c
  have CB := Lib.hid cb
  rw [hB]
  clear cb h hB
  have A0 : At (w.heap.size) [.bool tg, .int .i64 pe, .int .i64 ty, .int .i64 mo, .int .i64 e, .int .i64 b, .int .i64 t, .bool g, .int .u64 a] (w.alloc (.cells #[.bool tg, .int .i64 pe, .int .i64 ty, .int .i64 mo, .int .i64 e, .int .i64 b, .int .i64 t, .bool g, .int .u64 a] 24)) := (At.new' w [.bool tg, .int .i64 pe, .int .i64 ty, .int .i64 mo, .int .i64 e, .int .i64 b, .int .i64 t, .bool g, .int .u64 a] 24 (by simp))
  have kb : Bh w (w.heap.size + 1) (w.alloc (.cells #[.bool tg, .int .i64 pe, .int .i64 ty, .int .i64 mo, .int .i64 e, .int .i64 b, .int .i64 t, .bool g, .int .u64 a] 24)) := ⟨((Kp.refl w).allocs _ _), by simp, by simp⟩
  go_enter Try.func94, Try.ntmps94
  go_upto_region 1 with fail
  refine wp_region_held_drew (S := (fun w' => At (w.heap.size) [.bool tg, .int .i64 pe, .int .i64 ty, .int .i64 mo, .int .i64 e, .int .i64 b, .int .i64 t, .bool g, .int .u64 a] w' ∧ Bh w (w.heap.size + 1) w')) (by kernel_rfl) ⟨At.drew (by with_reducible assumption), Bh.drew (by with_reducible assumption)⟩ (fun hS => ?_)
  (refine wpAnyH_take (i := 0) (oi := { dst := some 3, op := Op.fieldAddr 24 (Operand.tmp 1) 8, type := 0, pos := "get.go:28", after := #[], guard := none }) (v := ?_) rfl (by kernel_rfl) (by kernel_rfl) (by kernel_rfl) (fun _ _ _ h => h) (Or.inl ⟨by rfl, ?_⟩) hS ?_; rotate_left; focus (intro w' hSw; obtain ⟨s0, sb⟩ := hSw; go_simp <;> try with_reducible rfl))
  try simp only [Act.put, List.setIfInBounds_toArray, List.set_cons_zero, List.set_cons_succ]
  (refine wpAnyH_take (i := 1) (oi := { dst := some 4, op := Op.load 22 (Operand.tmp 3), type := 22, pos := "get.go:28", after := #[{ on := 0, ground := Ground.data }], guard := none }) (v := ?_) rfl (by kernel_rfl) (by kernel_rfl) (by kernel_rfl) (fun _ _ _ h => h) (Or.inl ⟨by rfl, ?_⟩) hS ?_; rotate_left; focus (intro w' hSw; obtain ⟨s0, sb⟩ := hSw; obtain ⟨_, _, _, _, _, _, _, _, _⟩ := s0.out9; go_simp <;> try with_reducible rfl))
  try simp only [Act.put, List.setIfInBounds_toArray, List.set_cons_zero, List.set_cons_succ]
  (refine wpAnyH_take (i := 2) (oi := { dst := some 5, op := Op.load 24 (Operand.tmp 1), type := 24, pos := "get.go:28", after := #[], guard := none }) (v := ?_) rfl (by kernel_rfl) (by kernel_rfl) (by kernel_rfl) (fun _ _ _ h => h) (Or.inl ⟨by rfl, ?_⟩) hS ?_; rotate_left; focus (intro w' hSw; obtain ⟨s0, sb⟩ := hSw; obtain ⟨_, _, _, _, _, _, _, _, _⟩ := s0.out9; go_simp <;> try with_reducible rfl))
  try simp only [Act.put, List.setIfInBounds_toArray, List.set_cons_zero, List.set_cons_succ]
  refine wpAnyH_ready (rs := [3]) (by kernel_rfl) (by simp) ?_
  refine AllReadyH.cons (o := { dst := some 6, op := Op.call { callee := Callee.value (Operand.func 61), args := #[Operand.tmp 5], argTypes := #[24] }, type := 22, pos := "get.go:28", after := #[{ on := 2, ground := Ground.data }], guard := none }) rfl (fun K hK => ?_) AllReadyH.nil
  (refine take_if (by rfl) ?_; obtain ⟨s0, sb⟩ := hS; go_simp; (with_reducible refine (CB.out _).mono ?_); rintro e' w' ⟨rfl, qk⟩; have t0 := At.kp s0 qk (Nat.lt_of_lt_of_le (show w.heap.size < w.heap.size + 1 by omega) sb.le); have tb := Bh.step sb qk; clear qk; refine hK.out _ _ ⟨t0, tb⟩ (fun hS => ?_))
  clear hK K
  try simp only [Act.put, List.setIfInBounds_toArray, List.set_cons_zero, List.set_cons_succ]
  (refine wpAnyH_take (i := 4) (oi := { dst := some 7, op := Op.binOp BinOp.sub 22 (Operand.tmp 4) (Operand.tmp 6) 22, type := 22, pos := "get.go:28", after := #[{ on := 1, ground := Ground.data }, { on := 3, ground := Ground.data }], guard := none }) (v := ?_) rfl (by kernel_rfl) (by kernel_rfl) (by kernel_rfl) (fun _ _ _ h => h) (Or.inl ⟨by rfl, ?_⟩) hS ?_; rotate_left; focus (intro w' hSw; obtain ⟨s0, sb⟩ := hSw; go_simp <;> try with_reducible rfl))
  try simp only [Act.put, List.setIfInBounds_toArray, List.set_cons_zero, List.set_cons_succ]
  (refine wpAnyH_take (i := 5) (oi := { dst := some 2, op := Op.assign (Operand.tmp 7), type := 22, pos := "get.go:28", after := #[{ on := 4, ground := Ground.data }, { on := 3, ground := Ground.chain }, { on := 0, ground := Ground.phase }, { on := 1, ground := Ground.phase }, { on := 2, ground := Ground.phase }, { on := 3, ground := Ground.phase }, { on := 4, ground := Ground.phase }], guard := none }) (v := ?_) rfl (by kernel_rfl) (by kernel_rfl) (by kernel_rfl) (fun _ _ _ h => h) (Or.inl ⟨by rfl, ?_⟩) hS ?_; rotate_left; focus (intro w' hSw; obtain ⟨s0, sb⟩ := hSw; go_simp <;> try with_reducible rfl))
  try simp only [Act.put, List.setIfInBounds_toArray, List.set_cons_zero, List.set_cons_succ]
  refine wpAnyH_done (by kernel_rfl) ?_ _
  obtain ⟨s0, sb⟩ := hS
  obtain ⟨_, _, _, _, _, _, _, _, _⟩ := s0.out9
  go_wp2
  go_ret
  exact ⟨rfl, sb.kp⟩
set_option maxHeartbeats 4000000 in
set_option maxRecDepth 100000 in
theorem q_9 (tg : Bool) (pe ty mo e b t : Int) (g : Bool) (a : Int) (h : Rt pe ty mo e b t a) (w : World) :
    Calls Try.prog 98 #[.agg #[.bool tg, .int .i64 pe, .int .i64 ty, .int .i64 mo, .int .i64 e, .int .i64 b, .int .i64 t, .bool g, .int .u64 a]] w fun e' w' => e' = .returned (.int .u64 (maskV a)) ∧ Kp w w' := by
  have a0 := h.f.a0
  have a1 := h.f.a1
  have A0 : At (w.heap.size) [.bool tg, .int .i64 pe, .int .i64 ty, .int .i64 mo, .int .i64 e, .int .i64 b, .int .i64 t, .bool g, .int .u64 a] (w.alloc (.cells #[.bool tg, .int .i64 pe, .int .i64 ty, .int .i64 mo, .int .i64 e, .int .i64 b, .int .i64 t, .bool g, .int .u64 a] 24)) := (At.new' w [.bool tg, .int .i64 pe, .int .i64 ty, .int .i64 mo, .int .i64 e, .int .i64 b, .int .i64 t, .bool g, .int .u64 a] 24 (by simp))
  have kb : Bh w (w.heap.size + 1) (w.alloc (.cells #[.bool tg, .int .i64 pe, .int .i64 ty, .int .i64 mo, .int .i64 e, .int .i64 b, .int .i64 t, .bool g, .int .u64 a] 24)) := ⟨((Kp.refl w).allocs _ _), by simp, by simp⟩
  go_enter Try.func98, Try.ntmps98
  go_wp2_with (first
    | (go_at_call 99; (with_reducible refine (mask_w _ a0 a1 _).mono ?_); rintro e' w1 ⟨rfl, qk⟩; have kbw1 : Bh w (w.heap.size + 1) w1 := Bh.step (by with_reducible assumption) qk; clear qk))
  go_ret
  exact ⟨rfl, kbw1.kp⟩
theorem mask_bd' (n : Int) (n0 : 0 ≤ n) (n1 : n < 18446744073709551616) : 0 ≤ maskV n ∧ maskV n < 18446744073709551616 := by
  unfold maskV
  split
  · have h := exV_bd 0 n n0 n1
    have h1 := pow_le63 (exV 0 n + 3) (by omega)
    have h2 := pow_pos' (exV 0 n + 3)
    omega
  · omega
set_option maxHeartbeats 4000000 in
set_option maxRecDepth 100000 in
theorem q_8 (tg : Bool) (pe ty mo e b t : Int) (g : Bool) (a : Int) (h : Rt pe ty mo e b t a) (w : World) :
    Calls Try.prog 96 #[.agg #[.bool tg, .int .i64 pe, .int .i64 ty, .int .i64 mo, .int .i64 e, .int .i64 b, .int .i64 t, .bool g, .int .u64 a]] w fun e' w' => e' = .returned (.int .u64 (roundV a)) ∧ Kp w w' := by
  have a0 := h.f.a0
  have a1 := h.f.a1
  have bm := mask_bd' a a0 a1
  have A0 : At (w.heap.size) [.bool tg, .int .i64 pe, .int .i64 ty, .int .i64 mo, .int .i64 e, .int .i64 b, .int .i64 t, .bool g, .int .u64 a] (w.alloc (.cells #[.bool tg, .int .i64 pe, .int .i64 ty, .int .i64 mo, .int .i64 e, .int .i64 b, .int .i64 t, .bool g, .int .u64 a] 24)) := (At.new' w [.bool tg, .int .i64 pe, .int .i64 ty, .int .i64 mo, .int .i64 e, .int .i64 b, .int .i64 t, .bool g, .int .u64 a] 24 (by simp))
  have kb : Bh w (w.heap.size + 1) (w.alloc (.cells #[.bool tg, .int .i64 pe, .int .i64 ty, .int .i64 mo, .int .i64 e, .int .i64 b, .int .i64 t, .bool g, .int .u64 a] 24)) := ⟨((Kp.refl w).allocs _ _), by simp, by simp⟩
  go_enter Try.func96, Try.ntmps96
  go_wp2_with (first
    | (go_at_call 97; (with_reducible refine (round_w _ a0 a1 bm.1 bm.2 _).mono ?_); rintro e' w1 ⟨rfl, qk⟩; have kbw1 : Bh w (w.heap.size + 1) w1 := Bh.step (by with_reducible assumption) qk; clear qk))
  go_ret
  exact ⟨rfl, kbw1.kp⟩
set_option maxHeartbeats 4000000 in
set_option maxRecDepth 100000 in
theorem q_24 (tg : Bool) (pe ty mo e b t : Int) (g : Bool) (a : Int) (h : Rt pe ty mo e b t a) (w : World) :
    Calls Try.prog 101 #[.agg #[.bool tg, .int .i64 pe, .int .i64 ty, .int .i64 mo, .int .i64 e, .int .i64 b, .int .i64 t, .bool g, .int .u64 a]] w fun e' w' => e' = .returned (.int .u64 (topV (ofT e b t g a) (ofO e b t g a))) ∧ Kp w w' := by
  have HF := Lib.hid h.f
  obtain ⟨O, hO⟩ : ∃ O, ofO e b t g a = O := ⟨_, rfl⟩
  have co : ∀ w : World, Calls Try.prog 42 #[.agg #[.bool tg, .int .i64 pe, .int .i64 ty, .int .i64 mo, .int .i64 e, .int .i64 b, .int .i64 t, .bool g, .int .u64 a]] w fun e' w' => e' = .returned (.agg #[.int .u64 (ofB e b a), .int .u64 (ofT e b t g a), .bool O]) ∧ Kp w w' := fun w => by
    have c := of_c tg pe ty mo e b t g a HF.out w
    rw [hO] at c; exact c
  have CO := Lib.hid co
  rw [hO]
  clear co h hO
  have A0 : At (w.heap.size) [.bool tg, .int .i64 pe, .int .i64 ty, .int .i64 mo, .int .i64 e, .int .i64 b, .int .i64 t, .bool g, .int .u64 a] (w.alloc (.cells #[.bool tg, .int .i64 pe, .int .i64 ty, .int .i64 mo, .int .i64 e, .int .i64 b, .int .i64 t, .bool g, .int .u64 a] 24)) := (At.new' w [.bool tg, .int .i64 pe, .int .i64 ty, .int .i64 mo, .int .i64 e, .int .i64 b, .int .i64 t, .bool g, .int .u64 a] 24 (by simp))
  have kb : Bh w (w.heap.size + 1) (w.alloc (.cells #[.bool tg, .int .i64 pe, .int .i64 ty, .int .i64 mo, .int .i64 e, .int .i64 b, .int .i64 t, .bool g, .int .u64 a] 24)) := ⟨((Kp.refl w).allocs _ _), by simp, by simp⟩
  cases O
  all_goals
    go_enter Try.func101, Try.ntmps101
    go_wp2_with (first
      | (go_at_call 42; (with_reducible refine (CO.out _).mono ?_); rintro e' w1 ⟨rfl, qk⟩; have kbw1 : Bh w (w.heap.size + 1) w1 := Bh.step (by with_reducible assumption) qk; clear qk))
    go_ret
    exact ⟨rfl, kbw1.kp.allocs _ _⟩
set_option maxHeartbeats 4000000 in
set_option maxRecDepth 100000 in
theorem get_0 (tg : Bool) (pe ty mo e b t : Int) (g : Bool) (a : Int) (h : Rt pe ty mo e b t a) (w : World) :
    Calls Try.prog 39 #[.int .i64 0, .agg #[.bool tg, .int .i64 pe, .int .i64 ty, .int .i64 mo, .int .i64 e, .int .i64 b, .int .i64 t, .bool g, .int .u64 a]] w fun e' w' => e' = .returned (.tuple #[.int .u64 pe, .bool true]) ∧ Kp w w' := by
  have HR := Lib.hid h
  clear h
  have A0 : At (w.heap.size) [.bool tg, .int .i64 pe, .int .i64 ty, .int .i64 mo, .int .i64 e, .int .i64 b, .int .i64 t, .bool g, .int .u64 a] (w.alloc (.cells #[.bool tg, .int .i64 pe, .int .i64 ty, .int .i64 mo, .int .i64 e, .int .i64 b, .int .i64 t, .bool g, .int .u64 a] 24)) := (At.new' w [.bool tg, .int .i64 pe, .int .i64 ty, .int .i64 mo, .int .i64 e, .int .i64 b, .int .i64 t, .bool g, .int .u64 a] 24 (by simp))
  have kb : Bh w (w.heap.size + 1) (w.alloc (.cells #[.bool tg, .int .i64 pe, .int .i64 ty, .int .i64 mo, .int .i64 e, .int .i64 b, .int .i64 t, .bool g, .int .u64 a] 24)) := ⟨((Kp.refl w).allocs _ _), by simp, by simp⟩
  go_enter Try.func39, Try.ntmps39
  go_wp2_with (first
    | (go_at_call 66; (with_reducible refine (questions_w _).mono ?_); rintro e' wq ⟨rfl, qm⟩; have hl := look_0 (w := wq) (r := w.heap.size + 1) (by simpa using qm.heap); have qk := qm.kp; have kbq : Bh w (w.heap.size + 1) wq := Bh.step kb qk; have Aq : At (w.heap.size) [.bool tg, .int .i64 pe, .int .i64 ty, .int .i64 mo, .int .i64 e, .int .i64 b, .int .i64 t, .bool g, .int .u64 a] wq := At.kp A0 qk (Nat.lt_of_lt_of_le (show w.heap.size < w.heap.size + 1 by omega) kb.le); obtain ⟨_, _, _, _, _, _, _, _, _⟩ := Aq.out9; clear qk qm)
    | (go_at_call 88; (with_reducible refine (q_0 _ _ _ _ _ _ _ _ _ HR.out _).mono ?_); rintro e' w1 ⟨rfl, qk⟩; have kb1 := Bh.step kbq qk; clear qk))
  go_ret2
  exact ⟨rfl, kb1.kp⟩
set_option maxHeartbeats 4000000 in
set_option maxRecDepth 100000 in
theorem get_1 (tg : Bool) (pe ty mo e b t : Int) (g : Bool) (a : Int) (h : Rt pe ty mo e b t a) (w : World) :
    Calls Try.prog 39 #[.int .i64 1, .agg #[.bool tg, .int .i64 pe, .int .i64 ty, .int .i64 mo, .int .i64 e, .int .i64 b, .int .i64 t, .bool g, .int .u64 a]] w fun e' w' => e' = .returned (.tuple #[.int .u64 (kindV ty), .bool true]) ∧ Kp w w' := by
  have HR := Lib.hid h
  clear h
  have A0 : At (w.heap.size) [.bool tg, .int .i64 pe, .int .i64 ty, .int .i64 mo, .int .i64 e, .int .i64 b, .int .i64 t, .bool g, .int .u64 a] (w.alloc (.cells #[.bool tg, .int .i64 pe, .int .i64 ty, .int .i64 mo, .int .i64 e, .int .i64 b, .int .i64 t, .bool g, .int .u64 a] 24)) := (At.new' w [.bool tg, .int .i64 pe, .int .i64 ty, .int .i64 mo, .int .i64 e, .int .i64 b, .int .i64 t, .bool g, .int .u64 a] 24 (by simp))
  have kb : Bh w (w.heap.size + 1) (w.alloc (.cells #[.bool tg, .int .i64 pe, .int .i64 ty, .int .i64 mo, .int .i64 e, .int .i64 b, .int .i64 t, .bool g, .int .u64 a] 24)) := ⟨((Kp.refl w).allocs _ _), by simp, by simp⟩
  go_enter Try.func39, Try.ntmps39
  go_wp2_with (first
    | (go_at_call 66; (with_reducible refine (questions_w _).mono ?_); rintro e' wq ⟨rfl, qm⟩; have hl := look_1 (w := wq) (r := w.heap.size + 1) (by simpa using qm.heap); have qk := qm.kp; have kbq : Bh w (w.heap.size + 1) wq := Bh.step kb qk; have Aq : At (w.heap.size) [.bool tg, .int .i64 pe, .int .i64 ty, .int .i64 mo, .int .i64 e, .int .i64 b, .int .i64 t, .bool g, .int .u64 a] wq := At.kp A0 qk (Nat.lt_of_lt_of_le (show w.heap.size < w.heap.size + 1 by omega) kb.le); obtain ⟨_, _, _, _, _, _, _, _, _⟩ := Aq.out9; clear qk qm)
    | (go_at_call 89; (with_reducible refine (q_1 _ _ _ _ _ _ _ _ _ HR.out _).mono ?_); rintro e' w1 ⟨rfl, qk⟩; have kb1 := Bh.step kbq qk; clear qk))
  go_ret2
  exact ⟨rfl, kb1.kp⟩
set_option maxHeartbeats 4000000 in
set_option maxRecDepth 100000 in
theorem get_2 (tg : Bool) (pe ty mo e b t : Int) (g : Bool) (a : Int) (h : Rt pe ty mo e b t a) (w : World) :
    Calls Try.prog 39 #[.int .i64 2, .agg #[.bool tg, .int .i64 pe, .int .i64 ty, .int .i64 mo, .int .i64 e, .int .i64 b, .int .i64 t, .bool g, .int .u64 a]] w fun e' w' => e' = .returned (.tuple #[.int .u64 (ofB e b a), .bool true]) ∧ Kp w w' := by
  have HR := Lib.hid h
  clear h
  have A0 : At (w.heap.size) [.bool tg, .int .i64 pe, .int .i64 ty, .int .i64 mo, .int .i64 e, .int .i64 b, .int .i64 t, .bool g, .int .u64 a] (w.alloc (.cells #[.bool tg, .int .i64 pe, .int .i64 ty, .int .i64 mo, .int .i64 e, .int .i64 b, .int .i64 t, .bool g, .int .u64 a] 24)) := (At.new' w [.bool tg, .int .i64 pe, .int .i64 ty, .int .i64 mo, .int .i64 e, .int .i64 b, .int .i64 t, .bool g, .int .u64 a] 24 (by simp))
  have kb : Bh w (w.heap.size + 1) (w.alloc (.cells #[.bool tg, .int .i64 pe, .int .i64 ty, .int .i64 mo, .int .i64 e, .int .i64 b, .int .i64 t, .bool g, .int .u64 a] 24)) := ⟨((Kp.refl w).allocs _ _), by simp, by simp⟩
  go_enter Try.func39, Try.ntmps39
  go_wp2_with (first
    | (go_at_call 66; (with_reducible refine (questions_w _).mono ?_); rintro e' wq ⟨rfl, qm⟩; have hl := look_2 (w := wq) (r := w.heap.size + 1) (by simpa using qm.heap); have qk := qm.kp; have kbq : Bh w (w.heap.size + 1) wq := Bh.step kb qk; have Aq : At (w.heap.size) [.bool tg, .int .i64 pe, .int .i64 ty, .int .i64 mo, .int .i64 e, .int .i64 b, .int .i64 t, .bool g, .int .u64 a] wq := At.kp A0 qk (Nat.lt_of_lt_of_le (show w.heap.size < w.heap.size + 1 by omega) kb.le); obtain ⟨_, _, _, _, _, _, _, _, _⟩ := Aq.out9; clear qk qm)
    | (go_at_call 61; (with_reducible refine (q_2 _ _ _ _ _ _ _ _ _ HR.out _).mono ?_); rintro e' w1 ⟨rfl, qk⟩; have kb1 := Bh.step kbq qk; clear qk))
  go_ret2
  exact ⟨rfl, kb1.kp⟩
set_option maxHeartbeats 4000000 in
set_option maxRecDepth 100000 in
theorem get_3 (tg : Bool) (pe ty mo e b t : Int) (g : Bool) (a : Int) (h : Rt pe ty mo e b t a) (w : World) :
    Calls Try.prog 39 #[.int .i64 3, .agg #[.bool tg, .int .i64 pe, .int .i64 ty, .int .i64 mo, .int .i64 e, .int .i64 b, .int .i64 t, .bool g, .int .u64 a]] w fun e' w' => e' = .returned (.tuple #[.int .u64 (lenV (ofB e b a) (ofT e b t g a) (ofO e b t g a)), .bool true]) ∧ Kp w w' := by
  have HR := Lib.hid h
  clear h
  have A0 : At (w.heap.size) [.bool tg, .int .i64 pe, .int .i64 ty, .int .i64 mo, .int .i64 e, .int .i64 b, .int .i64 t, .bool g, .int .u64 a] (w.alloc (.cells #[.bool tg, .int .i64 pe, .int .i64 ty, .int .i64 mo, .int .i64 e, .int .i64 b, .int .i64 t, .bool g, .int .u64 a] 24)) := (At.new' w [.bool tg, .int .i64 pe, .int .i64 ty, .int .i64 mo, .int .i64 e, .int .i64 b, .int .i64 t, .bool g, .int .u64 a] 24 (by simp))
  have kb : Bh w (w.heap.size + 1) (w.alloc (.cells #[.bool tg, .int .i64 pe, .int .i64 ty, .int .i64 mo, .int .i64 e, .int .i64 b, .int .i64 t, .bool g, .int .u64 a] 24)) := ⟨((Kp.refl w).allocs _ _), by simp, by simp⟩
  go_enter Try.func39, Try.ntmps39
  go_wp2_with (first
    | (go_at_call 66; (with_reducible refine (questions_w _).mono ?_); rintro e' wq ⟨rfl, qm⟩; have hl := look_3 (w := wq) (r := w.heap.size + 1) (by simpa using qm.heap); have qk := qm.kp; have kbq : Bh w (w.heap.size + 1) wq := Bh.step kb qk; have Aq : At (w.heap.size) [.bool tg, .int .i64 pe, .int .i64 ty, .int .i64 mo, .int .i64 e, .int .i64 b, .int .i64 t, .bool g, .int .u64 a] wq := At.kp A0 qk (Nat.lt_of_lt_of_le (show w.heap.size < w.heap.size + 1 by omega) kb.le); obtain ⟨_, _, _, _, _, _, _, _, _⟩ := Aq.out9; clear qk qm)
    | (go_at_call 90; (with_reducible refine (q_3 _ _ _ _ _ _ _ _ _ HR.out _).mono ?_); rintro e' w1 ⟨rfl, qk⟩; have kb1 := Bh.step kbq qk; clear qk))
  go_ret2
  exact ⟨rfl, kb1.kp⟩
set_option maxHeartbeats 4000000 in
set_option maxRecDepth 100000 in
theorem get_4 (tg : Bool) (pe ty mo e b t : Int) (g : Bool) (a : Int) (h : Rt pe ty mo e b t a) (w : World) :
    Calls Try.prog 39 #[.int .i64 4, .agg #[.bool tg, .int .i64 pe, .int .i64 ty, .int .i64 mo, .int .i64 e, .int .i64 b, .int .i64 t, .bool g, .int .u64 a]] w fun e' w' => e' = .returned (.tuple #[.int .u64 (b01 tg), .bool true]) ∧ Kp w w' := by
  have HR := Lib.hid h
  clear h
  have A0 : At (w.heap.size) [.bool tg, .int .i64 pe, .int .i64 ty, .int .i64 mo, .int .i64 e, .int .i64 b, .int .i64 t, .bool g, .int .u64 a] (w.alloc (.cells #[.bool tg, .int .i64 pe, .int .i64 ty, .int .i64 mo, .int .i64 e, .int .i64 b, .int .i64 t, .bool g, .int .u64 a] 24)) := (At.new' w [.bool tg, .int .i64 pe, .int .i64 ty, .int .i64 mo, .int .i64 e, .int .i64 b, .int .i64 t, .bool g, .int .u64 a] 24 (by simp))
  have kb : Bh w (w.heap.size + 1) (w.alloc (.cells #[.bool tg, .int .i64 pe, .int .i64 ty, .int .i64 mo, .int .i64 e, .int .i64 b, .int .i64 t, .bool g, .int .u64 a] 24)) := ⟨((Kp.refl w).allocs _ _), by simp, by simp⟩
  go_enter Try.func39, Try.ntmps39
  go_wp2_with (first
    | (go_at_call 66; (with_reducible refine (questions_w _).mono ?_); rintro e' wq ⟨rfl, qm⟩; have hl := look_4 (w := wq) (r := w.heap.size + 1) (by simpa using qm.heap); have qk := qm.kp; have kbq : Bh w (w.heap.size + 1) wq := Bh.step kb qk; have Aq : At (w.heap.size) [.bool tg, .int .i64 pe, .int .i64 ty, .int .i64 mo, .int .i64 e, .int .i64 b, .int .i64 t, .bool g, .int .u64 a] wq := At.kp A0 qk (Nat.lt_of_lt_of_le (show w.heap.size < w.heap.size + 1 by omega) kb.le); obtain ⟨_, _, _, _, _, _, _, _, _⟩ := Aq.out9; clear qk qm)
    | (go_at_call 91; (with_reducible refine (q_4 _ _ _ _ _ _ _ _ _ HR.out _).mono ?_); rintro e' w1 ⟨rfl, qk⟩; have kb1 := Bh.step kbq qk; clear qk))
  go_ret2
  exact ⟨rfl, kb1.kp⟩
set_option maxHeartbeats 4000000 in
set_option maxRecDepth 100000 in
theorem get_5 (tg : Bool) (pe ty mo e b t : Int) (g : Bool) (a : Int) (h : Rt pe ty mo e b t a) (w : World) :
    Calls Try.prog 39 #[.int .i64 5, .agg #[.bool tg, .int .i64 pe, .int .i64 ty, .int .i64 mo, .int .i64 e, .int .i64 b, .int .i64 t, .bool g, .int .u64 a]] w fun e' w' => e' = .returned (.tuple #[.int .u64 (b01 (sealedB ty)), .bool true]) ∧ Kp w w' := by
  have HR := Lib.hid h
  clear h
  have A0 : At (w.heap.size) [.bool tg, .int .i64 pe, .int .i64 ty, .int .i64 mo, .int .i64 e, .int .i64 b, .int .i64 t, .bool g, .int .u64 a] (w.alloc (.cells #[.bool tg, .int .i64 pe, .int .i64 ty, .int .i64 mo, .int .i64 e, .int .i64 b, .int .i64 t, .bool g, .int .u64 a] 24)) := (At.new' w [.bool tg, .int .i64 pe, .int .i64 ty, .int .i64 mo, .int .i64 e, .int .i64 b, .int .i64 t, .bool g, .int .u64 a] 24 (by simp))
  have kb : Bh w (w.heap.size + 1) (w.alloc (.cells #[.bool tg, .int .i64 pe, .int .i64 ty, .int .i64 mo, .int .i64 e, .int .i64 b, .int .i64 t, .bool g, .int .u64 a] 24)) := ⟨((Kp.refl w).allocs _ _), by simp, by simp⟩
  go_enter Try.func39, Try.ntmps39
  go_wp2_with (first
    | (go_at_call 66; (with_reducible refine (questions_w _).mono ?_); rintro e' wq ⟨rfl, qm⟩; have hl := look_5 (w := wq) (r := w.heap.size + 1) (by simpa using qm.heap); have qk := qm.kp; have kbq : Bh w (w.heap.size + 1) wq := Bh.step kb qk; have Aq : At (w.heap.size) [.bool tg, .int .i64 pe, .int .i64 ty, .int .i64 mo, .int .i64 e, .int .i64 b, .int .i64 t, .bool g, .int .u64 a] wq := At.kp A0 qk (Nat.lt_of_lt_of_le (show w.heap.size < w.heap.size + 1 by omega) kb.le); obtain ⟨_, _, _, _, _, _, _, _, _⟩ := Aq.out9; clear qk qm)
    | (go_at_call 93; (with_reducible refine (q_5 _ _ _ _ _ _ _ _ _ HR.out _).mono ?_); rintro e' w1 ⟨rfl, qk⟩; have kb1 := Bh.step kbq qk; clear qk))
  go_ret2
  exact ⟨rfl, kb1.kp⟩
set_option maxHeartbeats 4000000 in
set_option maxRecDepth 100000 in
theorem get_6 (tg : Bool) (pe ty mo e b t : Int) (g : Bool) (a : Int) (h : Rt pe ty mo e b t a) (w : World) :
    Calls Try.prog 39 #[.int .i64 6, .agg #[.bool tg, .int .i64 pe, .int .i64 ty, .int .i64 mo, .int .i64 e, .int .i64 b, .int .i64 t, .bool g, .int .u64 a]] w fun e' w' => e' = .returned (.tuple #[.int .u64 (offV (ofB e b a) a), .bool true]) ∧ Kp w w' := by
  have HR := Lib.hid h
  clear h
  have A0 : At (w.heap.size) [.bool tg, .int .i64 pe, .int .i64 ty, .int .i64 mo, .int .i64 e, .int .i64 b, .int .i64 t, .bool g, .int .u64 a] (w.alloc (.cells #[.bool tg, .int .i64 pe, .int .i64 ty, .int .i64 mo, .int .i64 e, .int .i64 b, .int .i64 t, .bool g, .int .u64 a] 24)) := (At.new' w [.bool tg, .int .i64 pe, .int .i64 ty, .int .i64 mo, .int .i64 e, .int .i64 b, .int .i64 t, .bool g, .int .u64 a] 24 (by simp))
  have kb : Bh w (w.heap.size + 1) (w.alloc (.cells #[.bool tg, .int .i64 pe, .int .i64 ty, .int .i64 mo, .int .i64 e, .int .i64 b, .int .i64 t, .bool g, .int .u64 a] 24)) := ⟨((Kp.refl w).allocs _ _), by simp, by simp⟩
  go_enter Try.func39, Try.ntmps39
  go_wp2_with (first
    | (go_at_call 66; (with_reducible refine (questions_w _).mono ?_); rintro e' wq ⟨rfl, qm⟩; have hl := look_6 (w := wq) (r := w.heap.size + 1) (by simpa using qm.heap); have qk := qm.kp; have kbq : Bh w (w.heap.size + 1) wq := Bh.step kb qk; have Aq : At (w.heap.size) [.bool tg, .int .i64 pe, .int .i64 ty, .int .i64 mo, .int .i64 e, .int .i64 b, .int .i64 t, .bool g, .int .u64 a] wq := At.kp A0 qk (Nat.lt_of_lt_of_le (show w.heap.size < w.heap.size + 1 by omega) kb.le); obtain ⟨_, _, _, _, _, _, _, _, _⟩ := Aq.out9; clear qk qm)
    | (go_at_call 94; (with_reducible refine (q_6 _ _ _ _ _ _ _ _ _ HR.out _).mono ?_); rintro e' w1 ⟨rfl, qk⟩; have kb1 := Bh.step kbq qk; clear qk))
  go_ret2
  exact ⟨rfl, kb1.kp⟩
set_option maxHeartbeats 4000000 in
set_option maxRecDepth 100000 in
theorem get_7 (tg : Bool) (pe ty mo e b t : Int) (g : Bool) (a : Int) (h : Rt pe ty mo e b t a) (w : World) :
    Calls Try.prog 39 #[.int .i64 7, .agg #[.bool tg, .int .i64 pe, .int .i64 ty, .int .i64 mo, .int .i64 e, .int .i64 b, .int .i64 t, .bool g, .int .u64 a]] w fun e' w' => e' = .returned (.tuple #[.int .u64 mo, .bool true]) ∧ Kp w w' := by
  have HR := Lib.hid h
  clear h
  have A0 : At (w.heap.size) [.bool tg, .int .i64 pe, .int .i64 ty, .int .i64 mo, .int .i64 e, .int .i64 b, .int .i64 t, .bool g, .int .u64 a] (w.alloc (.cells #[.bool tg, .int .i64 pe, .int .i64 ty, .int .i64 mo, .int .i64 e, .int .i64 b, .int .i64 t, .bool g, .int .u64 a] 24)) := (At.new' w [.bool tg, .int .i64 pe, .int .i64 ty, .int .i64 mo, .int .i64 e, .int .i64 b, .int .i64 t, .bool g, .int .u64 a] 24 (by simp))
  have kb : Bh w (w.heap.size + 1) (w.alloc (.cells #[.bool tg, .int .i64 pe, .int .i64 ty, .int .i64 mo, .int .i64 e, .int .i64 b, .int .i64 t, .bool g, .int .u64 a] 24)) := ⟨((Kp.refl w).allocs _ _), by simp, by simp⟩
  go_enter Try.func39, Try.ntmps39
  go_wp2_with (first
    | (go_at_call 66; (with_reducible refine (questions_w _).mono ?_); rintro e' wq ⟨rfl, qm⟩; have hl := look_7 (w := wq) (r := w.heap.size + 1) (by simpa using qm.heap); have qk := qm.kp; have kbq : Bh w (w.heap.size + 1) wq := Bh.step kb qk; have Aq : At (w.heap.size) [.bool tg, .int .i64 pe, .int .i64 ty, .int .i64 mo, .int .i64 e, .int .i64 b, .int .i64 t, .bool g, .int .u64 a] wq := At.kp A0 qk (Nat.lt_of_lt_of_le (show w.heap.size < w.heap.size + 1 by omega) kb.le); obtain ⟨_, _, _, _, _, _, _, _, _⟩ := Aq.out9; clear qk qm)
    | (go_at_call 95; (with_reducible refine (q_7 _ _ _ _ _ _ _ _ _ HR.out _).mono ?_); rintro e' w1 ⟨rfl, qk⟩; have kb1 := Bh.step kbq qk; clear qk))
  go_ret2
  exact ⟨rfl, kb1.kp⟩
set_option maxHeartbeats 4000000 in
set_option maxRecDepth 100000 in
theorem get_8 (tg : Bool) (pe ty mo e b t : Int) (g : Bool) (a : Int) (h : Rt pe ty mo e b t a) (w : World) :
    Calls Try.prog 39 #[.int .i64 8, .agg #[.bool tg, .int .i64 pe, .int .i64 ty, .int .i64 mo, .int .i64 e, .int .i64 b, .int .i64 t, .bool g, .int .u64 a]] w fun e' w' => e' = .returned (.tuple #[.int .u64 (roundV a), .bool true]) ∧ Kp w w' := by
  have HR := Lib.hid h
  clear h
  have A0 : At (w.heap.size) [.bool tg, .int .i64 pe, .int .i64 ty, .int .i64 mo, .int .i64 e, .int .i64 b, .int .i64 t, .bool g, .int .u64 a] (w.alloc (.cells #[.bool tg, .int .i64 pe, .int .i64 ty, .int .i64 mo, .int .i64 e, .int .i64 b, .int .i64 t, .bool g, .int .u64 a] 24)) := (At.new' w [.bool tg, .int .i64 pe, .int .i64 ty, .int .i64 mo, .int .i64 e, .int .i64 b, .int .i64 t, .bool g, .int .u64 a] 24 (by simp))
  have kb : Bh w (w.heap.size + 1) (w.alloc (.cells #[.bool tg, .int .i64 pe, .int .i64 ty, .int .i64 mo, .int .i64 e, .int .i64 b, .int .i64 t, .bool g, .int .u64 a] 24)) := ⟨((Kp.refl w).allocs _ _), by simp, by simp⟩
  go_enter Try.func39, Try.ntmps39
  go_wp2_with (first
    | (go_at_call 66; (with_reducible refine (questions_w _).mono ?_); rintro e' wq ⟨rfl, qm⟩; have hl := look_8 (w := wq) (r := w.heap.size + 1) (by simpa using qm.heap); have qk := qm.kp; have kbq : Bh w (w.heap.size + 1) wq := Bh.step kb qk; have Aq : At (w.heap.size) [.bool tg, .int .i64 pe, .int .i64 ty, .int .i64 mo, .int .i64 e, .int .i64 b, .int .i64 t, .bool g, .int .u64 a] wq := At.kp A0 qk (Nat.lt_of_lt_of_le (show w.heap.size < w.heap.size + 1 by omega) kb.le); obtain ⟨_, _, _, _, _, _, _, _, _⟩ := Aq.out9; clear qk qm)
    | (go_at_call 96; (with_reducible refine (q_8 _ _ _ _ _ _ _ _ _ HR.out _).mono ?_); rintro e' w1 ⟨rfl, qk⟩; have kb1 := Bh.step kbq qk; clear qk))
  go_ret2
  exact ⟨rfl, kb1.kp⟩
set_option maxHeartbeats 4000000 in
set_option maxRecDepth 100000 in
theorem get_9 (tg : Bool) (pe ty mo e b t : Int) (g : Bool) (a : Int) (h : Rt pe ty mo e b t a) (w : World) :
    Calls Try.prog 39 #[.int .i64 9, .agg #[.bool tg, .int .i64 pe, .int .i64 ty, .int .i64 mo, .int .i64 e, .int .i64 b, .int .i64 t, .bool g, .int .u64 a]] w fun e' w' => e' = .returned (.tuple #[.int .u64 (maskV a), .bool true]) ∧ Kp w w' := by
  have HR := Lib.hid h
  clear h
  have A0 : At (w.heap.size) [.bool tg, .int .i64 pe, .int .i64 ty, .int .i64 mo, .int .i64 e, .int .i64 b, .int .i64 t, .bool g, .int .u64 a] (w.alloc (.cells #[.bool tg, .int .i64 pe, .int .i64 ty, .int .i64 mo, .int .i64 e, .int .i64 b, .int .i64 t, .bool g, .int .u64 a] 24)) := (At.new' w [.bool tg, .int .i64 pe, .int .i64 ty, .int .i64 mo, .int .i64 e, .int .i64 b, .int .i64 t, .bool g, .int .u64 a] 24 (by simp))
  have kb : Bh w (w.heap.size + 1) (w.alloc (.cells #[.bool tg, .int .i64 pe, .int .i64 ty, .int .i64 mo, .int .i64 e, .int .i64 b, .int .i64 t, .bool g, .int .u64 a] 24)) := ⟨((Kp.refl w).allocs _ _), by simp, by simp⟩
  go_enter Try.func39, Try.ntmps39
  go_wp2_with (first
    | (go_at_call 66; (with_reducible refine (questions_w _).mono ?_); rintro e' wq ⟨rfl, qm⟩; have hl := look_9 (w := wq) (r := w.heap.size + 1) (by simpa using qm.heap); have qk := qm.kp; have kbq : Bh w (w.heap.size + 1) wq := Bh.step kb qk; have Aq : At (w.heap.size) [.bool tg, .int .i64 pe, .int .i64 ty, .int .i64 mo, .int .i64 e, .int .i64 b, .int .i64 t, .bool g, .int .u64 a] wq := At.kp A0 qk (Nat.lt_of_lt_of_le (show w.heap.size < w.heap.size + 1 by omega) kb.le); obtain ⟨_, _, _, _, _, _, _, _, _⟩ := Aq.out9; clear qk qm)
    | (go_at_call 98; (with_reducible refine (q_9 _ _ _ _ _ _ _ _ _ HR.out _).mono ?_); rintro e' w1 ⟨rfl, qk⟩; have kb1 := Bh.step kbq qk; clear qk))
  go_ret2
  exact ⟨rfl, kb1.kp⟩
set_option maxHeartbeats 4000000 in
set_option maxRecDepth 100000 in
theorem get_15 (tg : Bool) (pe ty mo e b t : Int) (g : Bool) (a : Int) (h : Rt pe ty mo e b t a) (w : World) :
    Calls Try.prog 39 #[.int .i64 15, .agg #[.bool tg, .int .i64 pe, .int .i64 ty, .int .i64 mo, .int .i64 e, .int .i64 b, .int .i64 t, .bool g, .int .u64 a]] w fun e' w' => e' = .returned (.tuple #[.int .u64 a, .bool true]) ∧ Kp w w' := by
  have HR := Lib.hid h
  clear h
  have A0 : At (w.heap.size) [.bool tg, .int .i64 pe, .int .i64 ty, .int .i64 mo, .int .i64 e, .int .i64 b, .int .i64 t, .bool g, .int .u64 a] (w.alloc (.cells #[.bool tg, .int .i64 pe, .int .i64 ty, .int .i64 mo, .int .i64 e, .int .i64 b, .int .i64 t, .bool g, .int .u64 a] 24)) := (At.new' w [.bool tg, .int .i64 pe, .int .i64 ty, .int .i64 mo, .int .i64 e, .int .i64 b, .int .i64 t, .bool g, .int .u64 a] 24 (by simp))
  have kb : Bh w (w.heap.size + 1) (w.alloc (.cells #[.bool tg, .int .i64 pe, .int .i64 ty, .int .i64 mo, .int .i64 e, .int .i64 b, .int .i64 t, .bool g, .int .u64 a] 24)) := ⟨((Kp.refl w).allocs _ _), by simp, by simp⟩
  go_enter Try.func39, Try.ntmps39
  go_wp2_with (first
    | (go_at_call 66; (with_reducible refine (questions_w _).mono ?_); rintro e' wq ⟨rfl, qm⟩; have hl := look_15 (w := wq) (r := w.heap.size + 1) (by simpa using qm.heap); have qk := qm.kp; have kbq : Bh w (w.heap.size + 1) wq := Bh.step kb qk; have Aq : At (w.heap.size) [.bool tg, .int .i64 pe, .int .i64 ty, .int .i64 mo, .int .i64 e, .int .i64 b, .int .i64 t, .bool g, .int .u64 a] wq := At.kp A0 qk (Nat.lt_of_lt_of_le (show w.heap.size < w.heap.size + 1 by omega) kb.le); obtain ⟨_, _, _, _, _, _, _, _, _⟩ := Aq.out9; clear qk qm)
    | (go_at_call 100; (with_reducible refine (q_15 _ _ _ _ _ _ _ _ _ HR.out _).mono ?_); rintro e' w1 ⟨rfl, qk⟩; have kb1 := Bh.step kbq qk; clear qk))
  go_ret2
  exact ⟨rfl, kb1.kp⟩
set_option maxHeartbeats 4000000 in
set_option maxRecDepth 100000 in
theorem get_24 (tg : Bool) (pe ty mo e b t : Int) (g : Bool) (a : Int) (h : Rt pe ty mo e b t a) (w : World) :
    Calls Try.prog 39 #[.int .i64 24, .agg #[.bool tg, .int .i64 pe, .int .i64 ty, .int .i64 mo, .int .i64 e, .int .i64 b, .int .i64 t, .bool g, .int .u64 a]] w fun e' w' => e' = .returned (.tuple #[.int .u64 (topV (ofT e b t g a) (ofO e b t g a)), .bool true]) ∧ Kp w w' := by
  have HR := Lib.hid h
  clear h
  have A0 : At (w.heap.size) [.bool tg, .int .i64 pe, .int .i64 ty, .int .i64 mo, .int .i64 e, .int .i64 b, .int .i64 t, .bool g, .int .u64 a] (w.alloc (.cells #[.bool tg, .int .i64 pe, .int .i64 ty, .int .i64 mo, .int .i64 e, .int .i64 b, .int .i64 t, .bool g, .int .u64 a] 24)) := (At.new' w [.bool tg, .int .i64 pe, .int .i64 ty, .int .i64 mo, .int .i64 e, .int .i64 b, .int .i64 t, .bool g, .int .u64 a] 24 (by simp))
  have kb : Bh w (w.heap.size + 1) (w.alloc (.cells #[.bool tg, .int .i64 pe, .int .i64 ty, .int .i64 mo, .int .i64 e, .int .i64 b, .int .i64 t, .bool g, .int .u64 a] 24)) := ⟨((Kp.refl w).allocs _ _), by simp, by simp⟩
  go_enter Try.func39, Try.ntmps39
  go_wp2_with (first
    | (go_at_call 66; (with_reducible refine (questions_w _).mono ?_); rintro e' wq ⟨rfl, qm⟩; have hl := look_24 (w := wq) (r := w.heap.size + 1) (by simpa using qm.heap); have qk := qm.kp; have kbq : Bh w (w.heap.size + 1) wq := Bh.step kb qk; have Aq : At (w.heap.size) [.bool tg, .int .i64 pe, .int .i64 ty, .int .i64 mo, .int .i64 e, .int .i64 b, .int .i64 t, .bool g, .int .u64 a] wq := At.kp A0 qk (Nat.lt_of_lt_of_le (show w.heap.size < w.heap.size + 1 by omega) kb.le); obtain ⟨_, _, _, _, _, _, _, _, _⟩ := Aq.out9; clear qk qm)
    | (go_at_call 101; (with_reducible refine (q_24 _ _ _ _ _ _ _ _ _ HR.out _).mono ?_); rintro e' w1 ⟨rfl, qk⟩; have kb1 := Bh.step kbq qk; clear qk))
  go_ret2
  exact ⟨rfl, kb1.kp⟩
theorem get_no (tg : Bool) (pe ty mo e b t : Int) (g : Bool) (a : Int) (n : Int) (h0 : n ≠ 0) (h1 : n ≠ 1) (h2 : n ≠ 2) (h3 : n ≠ 3) (h4 : n ≠ 4) (h5 : n ≠ 5) (h6 : n ≠ 6) (h7 : n ≠ 7) (h8 : n ≠ 8) (h9 : n ≠ 9) (h15 : n ≠ 15) (h24 : n ≠ 24) (w : World) :
    Calls Try.prog 39 #[.int .i64 n, .agg #[.bool tg, .int .i64 pe, .int .i64 ty, .int .i64 mo, .int .i64 e, .int .i64 b, .int .i64 t, .bool g, .int .u64 a]] w fun e' w' => e' = .returned (.tuple #[.int .u64 0, .bool false]) ∧ Kp w w' := by
  have A0 : At (w.heap.size) [.bool tg, .int .i64 pe, .int .i64 ty, .int .i64 mo, .int .i64 e, .int .i64 b, .int .i64 t, .bool g, .int .u64 a] (w.alloc (.cells #[.bool tg, .int .i64 pe, .int .i64 ty, .int .i64 mo, .int .i64 e, .int .i64 b, .int .i64 t, .bool g, .int .u64 a] 24)) := (At.new' w [.bool tg, .int .i64 pe, .int .i64 ty, .int .i64 mo, .int .i64 e, .int .i64 b, .int .i64 t, .bool g, .int .u64 a] 24 (by simp))
  have kb : Bh w (w.heap.size + 1) (w.alloc (.cells #[.bool tg, .int .i64 pe, .int .i64 ty, .int .i64 mo, .int .i64 e, .int .i64 b, .int .i64 t, .bool g, .int .u64 a] 24)) := ⟨((Kp.refl w).allocs _ _), by simp, by simp⟩
  go_enter Try.func39, Try.ntmps39
  go_wp2_with (first
    | (go_at_call 66; (with_reducible refine (questions_w _).mono ?_); rintro e' wq ⟨rfl, qm⟩; have hl := look_no (w := wq) (r := w.heap.size + 1) (by simpa using qm.heap) n h0 h1 h2 h3 h4 h5 h6 h7 h8 h9 h15 h24; have kbq : Bh w (w.heap.size + 1) wq := Bh.step kb qm.kp; clear qm))
  go_ret2
  exact ⟨rfl, kbq.kp⟩
end Go.Proofs.Ytddgmbfngbobgaa
