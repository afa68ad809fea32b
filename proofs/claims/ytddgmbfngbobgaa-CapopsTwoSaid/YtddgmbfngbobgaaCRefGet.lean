/-
  Contracts of the document's answer for what is asked of a capability (ravelinref05: one, Sealed, Get). A right capability.
-/
import Derived.Test.YtddgmbfngbobgaaCRefFits
import Derived.Test.YtddgmbfngbobgaaBRefAll
import Derived.Test.YtddgmbfngbobgaaCGet
namespace Go.Proofs.Ytddgmbfngbobgaa
open Go.ChangeShapes Go.WideShapes Go.ChangeAt Go.RowKit
set_option linter.unusedVariables false
set_option linter.unusedSimpArgs false

theorem rone_w (o : Bool) (w : World) :
    Calls Try.prog 68 #[.bool o] w fun e w' => e = .returned (.int .u64 (b01 o)) ∧ w = w' := by
  cases o
  all_goals
    go_enter Try.func68, Try.ntmps68
    go_wp2
    go_ret
    exact ⟨rfl, rfl⟩
theorem rsealed_w (tg : Bool) (pe ty mo e b t : Int) (g : Bool) (a : Int) (v : Bool) (hv : sealedB ty = v) (w : World) :
    Calls Try.prog 13 #[.agg #[.bool tg, .int .i64 pe, .int .i64 ty, .int .i64 mo, .int .i64 e, .int .i64 b, .int .i64 t, .bool g, .int .u64 a]] w fun e' w' => e' = .returned (.bool v) ∧ Kp w w' := by
  subst hv
  go_enter Try.func13, Try.ntmps13
  go_wp2
  go_ret
  exact ⟨ret_bool (by simp [sealedB] <;> rfl), (Kp.refl w).allocs _ _⟩
set_option maxHeartbeats 4000000 in
set_option maxRecDepth 100000 in
theorem rget_0 (tg : Bool) (pe ty mo e b t : Int) (g : Bool) (a : Int) (h : Rt pe ty mo e b t a)  (w : World) :
    Calls Try.prog 40 #[.int .i64 0, .agg #[.bool tg, .int .i64 pe, .int .i64 ty, .int .i64 mo, .int .i64 e, .int .i64 b, .int .i64 t, .bool g, .int .u64 a]] w fun e' w' => e' = .returned (.tuple #[.int .u64 pe, .bool true]) ∧ Kp w w' := by
  obtain ⟨B, hB⟩ : ∃ B, ofB e b a = B := ⟨_, rfl⟩
  obtain ⟨T, hT⟩ : ∃ T, ofT e b t g a = T := ⟨_, rfl⟩
  obtain ⟨O, hO⟩ : ∃ O, ofO e b t g a = O := ⟨_, rfl⟩
  have bb := ofB_bd e b a
  have bt := ofT_bd e b t g a
  have co : ∀ w : World, Calls Try.prog 57 #[.agg #[.bool tg, .int .i64 pe, .int .i64 ty, .int .i64 mo, .int .i64 e, .int .i64 b, .int .i64 t, .bool g, .int .u64 a]] w fun e' w' => e' = .returned (.agg #[.int .u64 B, .int .u64 T, .bool O]) ∧ Kp w w' := fun w => by
    have c := refOf_w tg pe ty mo e b t g a h.f w
    rw [hB, hT, hO] at c; exact c
  (try rw [hB])
  (try rw [hT])
  (try rw [hO])
  rw [hB] at bb
  rw [hT] at bt
  have CO := Lib.hid co
  have w1 : IntKind.u64.wrap pe = pe := by rw [IntKind.wrap_u64]; have := h.p0; have := h.p1; omega
  have w2 : IntKind.u64.wrap mo = mo := by rw [IntKind.wrap_u64]; have := h.o0; have := h.o1; omega
  have w3 : IntKind.u64.wrap ty = ty := by rw [IntKind.wrap_u64]; have := h.y0; have := h.y1; omega
  have a0 := h.f.a0
  have a1 := h.f.a1
  clear co h hB hT hO
  have A0 : At (w.heap.size) [.bool tg, .int .i64 pe, .int .i64 ty, .int .i64 mo, .int .i64 e, .int .i64 b, .int .i64 t, .bool g, .int .u64 a] (w.alloc (.cells #[.bool tg, .int .i64 pe, .int .i64 ty, .int .i64 mo, .int .i64 e, .int .i64 b, .int .i64 t, .bool g, .int .u64 a] 24)) := (At.new' w [.bool tg, .int .i64 pe, .int .i64 ty, .int .i64 mo, .int .i64 e, .int .i64 b, .int .i64 t, .bool g, .int .u64 a] 24 (by simp))
  have kb : Bh w (w.heap.size + 1) (w.alloc (.cells #[.bool tg, .int .i64 pe, .int .i64 ty, .int .i64 mo, .int .i64 e, .int .i64 b, .int .i64 t, .bool g, .int .u64 a] 24)) := ⟨((Kp.refl w).allocs _ _), by simp, by simp⟩
  go_enter Try.func40, Try.ntmps40
  go_wp2_with (first
    | (go_at_call 57; (with_reducible refine (CO.out _).mono ?_); rintro e' w1 ⟨rfl, qk⟩; have kbw1 : Bh w (w.heap.size + 1) w1 := Bh.step kb qk; have Aw10 := At.kp A0 qk (Nat.lt_of_lt_of_le (show w.heap.size < w.heap.size + 1 by omega) (Bh.le (W := w) kb)); obtain ⟨_, _, _, _, _, _, _, _, _⟩ := Aw10.out9; have lw1 := kbw1.le; have qa0 : w.heap.size < w1.heap.size := (by omega); have qa1 : ¬ w.heap.size = w1.heap.size := (by omega); have qa2 : ¬ w1.heap.size = w.heap.size := (by omega); clear qk))
  go_ret2
  exact ⟨rfl, kbw1.kp.allocs _ _⟩
set_option maxHeartbeats 4000000 in
set_option maxRecDepth 100000 in
theorem rget_1 (tg : Bool) (pe ty mo e b t : Int) (g : Bool) (a : Int) (h : Rt pe ty mo e b t a)  (w : World) :
    Calls Try.prog 40 #[.int .i64 1, .agg #[.bool tg, .int .i64 pe, .int .i64 ty, .int .i64 mo, .int .i64 e, .int .i64 b, .int .i64 t, .bool g, .int .u64 a]] w fun e' w' => e' = .returned (.tuple #[.int .u64 (kindV ty), .bool true]) ∧ Kp w w' := by
  obtain ⟨B, hB⟩ : ∃ B, ofB e b a = B := ⟨_, rfl⟩
  obtain ⟨T, hT⟩ : ∃ T, ofT e b t g a = T := ⟨_, rfl⟩
  obtain ⟨O, hO⟩ : ∃ O, ofO e b t g a = O := ⟨_, rfl⟩
  have bb := ofB_bd e b a
  have bt := ofT_bd e b t g a
  have co : ∀ w : World, Calls Try.prog 57 #[.agg #[.bool tg, .int .i64 pe, .int .i64 ty, .int .i64 mo, .int .i64 e, .int .i64 b, .int .i64 t, .bool g, .int .u64 a]] w fun e' w' => e' = .returned (.agg #[.int .u64 B, .int .u64 T, .bool O]) ∧ Kp w w' := fun w => by
    have c := refOf_w tg pe ty mo e b t g a h.f w
    rw [hB, hT, hO] at c; exact c
  (try rw [hB])
  (try rw [hT])
  (try rw [hO])
  rw [hB] at bb
  rw [hT] at bt
  have CO := Lib.hid co
  have w1 : IntKind.u64.wrap pe = pe := by rw [IntKind.wrap_u64]; have := h.p0; have := h.p1; omega
  have w2 : IntKind.u64.wrap mo = mo := by rw [IntKind.wrap_u64]; have := h.o0; have := h.o1; omega
  have w3 : IntKind.u64.wrap ty = ty := by rw [IntKind.wrap_u64]; have := h.y0; have := h.y1; omega
  have a0 := h.f.a0
  have a1 := h.f.a1
  clear co h hB hT hO
  have A0 : At (w.heap.size) [.bool tg, .int .i64 pe, .int .i64 ty, .int .i64 mo, .int .i64 e, .int .i64 b, .int .i64 t, .bool g, .int .u64 a] (w.alloc (.cells #[.bool tg, .int .i64 pe, .int .i64 ty, .int .i64 mo, .int .i64 e, .int .i64 b, .int .i64 t, .bool g, .int .u64 a] 24)) := (At.new' w [.bool tg, .int .i64 pe, .int .i64 ty, .int .i64 mo, .int .i64 e, .int .i64 b, .int .i64 t, .bool g, .int .u64 a] 24 (by simp))
  have kb : Bh w (w.heap.size + 1) (w.alloc (.cells #[.bool tg, .int .i64 pe, .int .i64 ty, .int .i64 mo, .int .i64 e, .int .i64 b, .int .i64 t, .bool g, .int .u64 a] 24)) := ⟨((Kp.refl w).allocs _ _), by simp, by simp⟩
  by_cases y1 : ty = 262143
  · subst y1
    go_enter Try.func40, Try.ntmps40
    go_wp2_with (first
      | (go_at_call 57; (with_reducible refine (CO.out _).mono ?_); rintro e' w1 ⟨rfl, qk⟩; have kbw1 : Bh w (w.heap.size + 1) w1 := Bh.step kb qk; have Aw10 := At.kp A0 qk (Nat.lt_of_lt_of_le (show w.heap.size < w.heap.size + 1 by omega) (Bh.le (W := w) kb)); obtain ⟨_, _, _, _, _, _, _, _, _⟩ := Aw10.out9; have lw1 := kbw1.le; have qa0 : w.heap.size < w1.heap.size := (by omega); have qa1 : ¬ w.heap.size = w1.heap.size := (by omega); have qa2 : ¬ w1.heap.size = w.heap.size := (by omega); clear qk))
    go_ret2
    exact ⟨rfl, kbw1.kp.allocs _ _⟩
  · have e1 : (ty == 262143) = false := by simp [y1]
    by_cases y2 : ty = 262142
    · subst y2
      go_enter Try.func40, Try.ntmps40
      go_wp2_with (first
        | (go_at_call 57; (with_reducible refine (CO.out _).mono ?_); rintro e' w1 ⟨rfl, qk⟩; have kbw1 : Bh w (w.heap.size + 1) w1 := Bh.step kb qk; have Aw10 := At.kp A0 qk (Nat.lt_of_lt_of_le (show w.heap.size < w.heap.size + 1 by omega) (Bh.le (W := w) kb)); obtain ⟨_, _, _, _, _, _, _, _, _⟩ := Aw10.out9; have lw1 := kbw1.le; have qa0 : w.heap.size < w1.heap.size := (by omega); have qa1 : ¬ w.heap.size = w1.heap.size := (by omega); have qa2 : ¬ w1.heap.size = w.heap.size := (by omega); clear qk))
      go_ret2
      exact ⟨rfl, kbw1.kp.allocs _ _⟩
    · have e2 : (ty == 262142) = false := by simp [y2]
      have hk : kindV ty = ty := by unfold kindV; rw [if_neg y1, if_neg y2]
      rw [hk]
      clear hk
      go_enter Try.func40, Try.ntmps40
      go_wp2_with (first
        | (go_at_call 57; (with_reducible refine (CO.out _).mono ?_); rintro e' w1 ⟨rfl, qk⟩; have kbw1 : Bh w (w.heap.size + 1) w1 := Bh.step kb qk; have Aw10 := At.kp A0 qk (Nat.lt_of_lt_of_le (show w.heap.size < w.heap.size + 1 by omega) (Bh.le (W := w) kb)); obtain ⟨_, _, _, _, _, _, _, _, _⟩ := Aw10.out9; have lw1 := kbw1.le; have qa0 : w.heap.size < w1.heap.size := (by omega); have qa1 : ¬ w.heap.size = w1.heap.size := (by omega); have qa2 : ¬ w1.heap.size = w.heap.size := (by omega); clear qk))
      go_ret2
      exact ⟨rfl, kbw1.kp.allocs _ _⟩
set_option maxHeartbeats 4000000 in
set_option maxRecDepth 100000 in
theorem rget_2 (tg : Bool) (pe ty mo e b t : Int) (g : Bool) (a : Int) (h : Rt pe ty mo e b t a)  (w : World) :
    Calls Try.prog 40 #[.int .i64 2, .agg #[.bool tg, .int .i64 pe, .int .i64 ty, .int .i64 mo, .int .i64 e, .int .i64 b, .int .i64 t, .bool g, .int .u64 a]] w fun e' w' => e' = .returned (.tuple #[.int .u64 (ofB e b a), .bool true]) ∧ Kp w w' := by
  obtain ⟨B, hB⟩ : ∃ B, ofB e b a = B := ⟨_, rfl⟩
  obtain ⟨T, hT⟩ : ∃ T, ofT e b t g a = T := ⟨_, rfl⟩
  obtain ⟨O, hO⟩ : ∃ O, ofO e b t g a = O := ⟨_, rfl⟩
  have bb := ofB_bd e b a
  have bt := ofT_bd e b t g a
  have co : ∀ w : World, Calls Try.prog 57 #[.agg #[.bool tg, .int .i64 pe, .int .i64 ty, .int .i64 mo, .int .i64 e, .int .i64 b, .int .i64 t, .bool g, .int .u64 a]] w fun e' w' => e' = .returned (.agg #[.int .u64 B, .int .u64 T, .bool O]) ∧ Kp w w' := fun w => by
    have c := refOf_w tg pe ty mo e b t g a h.f w
    rw [hB, hT, hO] at c; exact c
  (try rw [hB])
  (try rw [hT])
  (try rw [hO])
  rw [hB] at bb
  rw [hT] at bt
  have CO := Lib.hid co
  have w1 : IntKind.u64.wrap pe = pe := by rw [IntKind.wrap_u64]; have := h.p0; have := h.p1; omega
  have w2 : IntKind.u64.wrap mo = mo := by rw [IntKind.wrap_u64]; have := h.o0; have := h.o1; omega
  have w3 : IntKind.u64.wrap ty = ty := by rw [IntKind.wrap_u64]; have := h.y0; have := h.y1; omega
  have a0 := h.f.a0
  have a1 := h.f.a1
  clear co h hB hT hO
  have A0 : At (w.heap.size) [.bool tg, .int .i64 pe, .int .i64 ty, .int .i64 mo, .int .i64 e, .int .i64 b, .int .i64 t, .bool g, .int .u64 a] (w.alloc (.cells #[.bool tg, .int .i64 pe, .int .i64 ty, .int .i64 mo, .int .i64 e, .int .i64 b, .int .i64 t, .bool g, .int .u64 a] 24)) := (At.new' w [.bool tg, .int .i64 pe, .int .i64 ty, .int .i64 mo, .int .i64 e, .int .i64 b, .int .i64 t, .bool g, .int .u64 a] 24 (by simp))
  have kb : Bh w (w.heap.size + 1) (w.alloc (.cells #[.bool tg, .int .i64 pe, .int .i64 ty, .int .i64 mo, .int .i64 e, .int .i64 b, .int .i64 t, .bool g, .int .u64 a] 24)) := ⟨((Kp.refl w).allocs _ _), by simp, by simp⟩
  go_enter Try.func40, Try.ntmps40
  go_wp2_with (first
    | (go_at_call 57; (with_reducible refine (CO.out _).mono ?_); rintro e' w1 ⟨rfl, qk⟩; have kbw1 : Bh w (w.heap.size + 1) w1 := Bh.step kb qk; have Aw10 := At.kp A0 qk (Nat.lt_of_lt_of_le (show w.heap.size < w.heap.size + 1 by omega) (Bh.le (W := w) kb)); obtain ⟨_, _, _, _, _, _, _, _, _⟩ := Aw10.out9; have lw1 := kbw1.le; have qa0 : w.heap.size < w1.heap.size := (by omega); have qa1 : ¬ w.heap.size = w1.heap.size := (by omega); have qa2 : ¬ w1.heap.size = w.heap.size := (by omega); clear qk))
  go_ret2
  exact ⟨rfl, kbw1.kp.allocs _ _⟩
set_option maxHeartbeats 4000000 in
set_option maxRecDepth 100000 in
theorem rget_3 (tg : Bool) (pe ty mo e b t : Int) (g : Bool) (a : Int) (h : Rt pe ty mo e b t a)  (w : World) :
    Calls Try.prog 40 #[.int .i64 3, .agg #[.bool tg, .int .i64 pe, .int .i64 ty, .int .i64 mo, .int .i64 e, .int .i64 b, .int .i64 t, .bool g, .int .u64 a]] w fun e' w' => e' = .returned (.tuple #[.int .u64 (lenV (ofB e b a) (ofT e b t g a) (ofO e b t g a)), .bool true]) ∧ Kp w w' := by
  obtain ⟨B, hB⟩ : ∃ B, ofB e b a = B := ⟨_, rfl⟩
  obtain ⟨T, hT⟩ : ∃ T, ofT e b t g a = T := ⟨_, rfl⟩
  obtain ⟨O, hO⟩ : ∃ O, ofO e b t g a = O := ⟨_, rfl⟩
  have bb := ofB_bd e b a
  have bt := ofT_bd e b t g a
  have co : ∀ w : World, Calls Try.prog 57 #[.agg #[.bool tg, .int .i64 pe, .int .i64 ty, .int .i64 mo, .int .i64 e, .int .i64 b, .int .i64 t, .bool g, .int .u64 a]] w fun e' w' => e' = .returned (.agg #[.int .u64 B, .int .u64 T, .bool O]) ∧ Kp w w' := fun w => by
    have c := refOf_w tg pe ty mo e b t g a h.f w
    rw [hB, hT, hO] at c; exact c
  (try rw [hB])
  (try rw [hT])
  (try rw [hO])
  rw [hB] at bb
  rw [hT] at bt
  have CO := Lib.hid co
  have w1 : IntKind.u64.wrap pe = pe := by rw [IntKind.wrap_u64]; have := h.p0; have := h.p1; omega
  have w2 : IntKind.u64.wrap mo = mo := by rw [IntKind.wrap_u64]; have := h.o0; have := h.o1; omega
  have w3 : IntKind.u64.wrap ty = ty := by rw [IntKind.wrap_u64]; have := h.y0; have := h.y1; omega
  have a0 := h.f.a0
  have a1 := h.f.a1
  clear co h hB hT hO
  have A0 : At (w.heap.size) [.bool tg, .int .i64 pe, .int .i64 ty, .int .i64 mo, .int .i64 e, .int .i64 b, .int .i64 t, .bool g, .int .u64 a] (w.alloc (.cells #[.bool tg, .int .i64 pe, .int .i64 ty, .int .i64 mo, .int .i64 e, .int .i64 b, .int .i64 t, .bool g, .int .u64 a] 24)) := (At.new' w [.bool tg, .int .i64 pe, .int .i64 ty, .int .i64 mo, .int .i64 e, .int .i64 b, .int .i64 t, .bool g, .int .u64 a] 24 (by simp))
  have kb : Bh w (w.heap.size + 1) (w.alloc (.cells #[.bool tg, .int .i64 pe, .int .i64 ty, .int .i64 mo, .int .i64 e, .int .i64 b, .int .i64 t, .bool g, .int .u64 a] 24)) := ⟨((Kp.refl w).allocs _ _), by simp, by simp⟩
  go_enter Try.func40, Try.ntmps40
  go_wp2_with (first
    | (go_at_call 57; (with_reducible refine (CO.out _).mono ?_); rintro e' w1 ⟨rfl, qk⟩; have kbw1 : Bh w (w.heap.size + 1) w1 := Bh.step kb qk; have Aw10 := At.kp A0 qk (Nat.lt_of_lt_of_le (show w.heap.size < w.heap.size + 1 by omega) (Bh.le (W := w) kb)); obtain ⟨_, _, _, _, _, _, _, _, _⟩ := Aw10.out9; have lw1 := kbw1.le; have qa0 : w.heap.size < w1.heap.size := (by omega); have qa1 : ¬ w.heap.size = w1.heap.size := (by omega); have qa2 : ¬ w1.heap.size = w.heap.size := (by omega); clear qk)
    | (go_at_call 67; (with_reducible refine (rlen_w B T O bb.1 bb.2 bt.1 bt.2 _).mono ?_); rintro e' w2 ⟨rfl, qk⟩; have kbw2 : Bh w (w1.heap.size + 1) w2 := Bh.step (⟨kbw1.kp.allocs _ _, by omega, by simp⟩ : Bh w (w1.heap.size + 1) (w1.alloc (.cells #[.int .u64 B, .int .u64 T, .bool O] 40))) qk; clear qk))
  go_ret2
  exact ⟨rfl, kbw2.kp⟩
set_option maxHeartbeats 4000000 in
set_option maxRecDepth 100000 in
theorem rget_4 (tg : Bool) (pe ty mo e b t : Int) (g : Bool) (a : Int) (h : Rt pe ty mo e b t a)  (w : World) :
    Calls Try.prog 40 #[.int .i64 4, .agg #[.bool tg, .int .i64 pe, .int .i64 ty, .int .i64 mo, .int .i64 e, .int .i64 b, .int .i64 t, .bool g, .int .u64 a]] w fun e' w' => e' = .returned (.tuple #[.int .u64 (b01 tg), .bool true]) ∧ Kp w w' := by
  obtain ⟨B, hB⟩ : ∃ B, ofB e b a = B := ⟨_, rfl⟩
  obtain ⟨T, hT⟩ : ∃ T, ofT e b t g a = T := ⟨_, rfl⟩
  obtain ⟨O, hO⟩ : ∃ O, ofO e b t g a = O := ⟨_, rfl⟩
  have bb := ofB_bd e b a
  have bt := ofT_bd e b t g a
  have co : ∀ w : World, Calls Try.prog 57 #[.agg #[.bool tg, .int .i64 pe, .int .i64 ty, .int .i64 mo, .int .i64 e, .int .i64 b, .int .i64 t, .bool g, .int .u64 a]] w fun e' w' => e' = .returned (.agg #[.int .u64 B, .int .u64 T, .bool O]) ∧ Kp w w' := fun w => by
    have c := refOf_w tg pe ty mo e b t g a h.f w
    rw [hB, hT, hO] at c; exact c
  (try rw [hB])
  (try rw [hT])
  (try rw [hO])
  rw [hB] at bb
  rw [hT] at bt
  have CO := Lib.hid co
  have w1 : IntKind.u64.wrap pe = pe := by rw [IntKind.wrap_u64]; have := h.p0; have := h.p1; omega
  have w2 : IntKind.u64.wrap mo = mo := by rw [IntKind.wrap_u64]; have := h.o0; have := h.o1; omega
  have w3 : IntKind.u64.wrap ty = ty := by rw [IntKind.wrap_u64]; have := h.y0; have := h.y1; omega
  have a0 := h.f.a0
  have a1 := h.f.a1
  clear co h hB hT hO
  have A0 : At (w.heap.size) [.bool tg, .int .i64 pe, .int .i64 ty, .int .i64 mo, .int .i64 e, .int .i64 b, .int .i64 t, .bool g, .int .u64 a] (w.alloc (.cells #[.bool tg, .int .i64 pe, .int .i64 ty, .int .i64 mo, .int .i64 e, .int .i64 b, .int .i64 t, .bool g, .int .u64 a] 24)) := (At.new' w [.bool tg, .int .i64 pe, .int .i64 ty, .int .i64 mo, .int .i64 e, .int .i64 b, .int .i64 t, .bool g, .int .u64 a] 24 (by simp))
  have kb : Bh w (w.heap.size + 1) (w.alloc (.cells #[.bool tg, .int .i64 pe, .int .i64 ty, .int .i64 mo, .int .i64 e, .int .i64 b, .int .i64 t, .bool g, .int .u64 a] 24)) := ⟨((Kp.refl w).allocs _ _), by simp, by simp⟩
  go_enter Try.func40, Try.ntmps40
  go_wp2_with (first
    | (go_at_call 57; (with_reducible refine (CO.out _).mono ?_); rintro e' w1 ⟨rfl, qk⟩; have kbw1 : Bh w (w.heap.size + 1) w1 := Bh.step kb qk; have Aw10 := At.kp A0 qk (Nat.lt_of_lt_of_le (show w.heap.size < w.heap.size + 1 by omega) (Bh.le (W := w) kb)); obtain ⟨_, _, _, _, _, _, _, _, _⟩ := Aw10.out9; have lw1 := kbw1.le; have qa0 : w.heap.size < w1.heap.size := (by omega); have qa1 : ¬ w.heap.size = w1.heap.size := (by omega); have qa2 : ¬ w1.heap.size = w.heap.size := (by omega); clear qk)
    | (go_at_call 68; (with_reducible refine (rone_w _ _).mono ?_); rintro e' w' ⟨rfl, rfl⟩))
  go_ret2
  exact ⟨rfl, kbw1.kp.allocs _ _⟩
set_option maxHeartbeats 4000000 in
set_option maxRecDepth 100000 in
theorem rget_5 (tg : Bool) (pe ty mo e b t : Int) (g : Bool) (a : Int) (h : Rt pe ty mo e b t a)  (w : World) :
    Calls Try.prog 40 #[.int .i64 5, .agg #[.bool tg, .int .i64 pe, .int .i64 ty, .int .i64 mo, .int .i64 e, .int .i64 b, .int .i64 t, .bool g, .int .u64 a]] w fun e' w' => e' = .returned (.tuple #[.int .u64 (b01 (sealedB ty)), .bool true]) ∧ Kp w w' := by
  obtain ⟨B, hB⟩ : ∃ B, ofB e b a = B := ⟨_, rfl⟩
  obtain ⟨T, hT⟩ : ∃ T, ofT e b t g a = T := ⟨_, rfl⟩
  obtain ⟨O, hO⟩ : ∃ O, ofO e b t g a = O := ⟨_, rfl⟩
  have bb := ofB_bd e b a
  have bt := ofT_bd e b t g a
  have co : ∀ w : World, Calls Try.prog 57 #[.agg #[.bool tg, .int .i64 pe, .int .i64 ty, .int .i64 mo, .int .i64 e, .int .i64 b, .int .i64 t, .bool g, .int .u64 a]] w fun e' w' => e' = .returned (.agg #[.int .u64 B, .int .u64 T, .bool O]) ∧ Kp w w' := fun w => by
    have c := refOf_w tg pe ty mo e b t g a h.f w
    rw [hB, hT, hO] at c; exact c
  (try rw [hB])
  (try rw [hT])
  (try rw [hO])
  rw [hB] at bb
  rw [hT] at bt
  have CO := Lib.hid co
  have w1 : IntKind.u64.wrap pe = pe := by rw [IntKind.wrap_u64]; have := h.p0; have := h.p1; omega
  have w2 : IntKind.u64.wrap mo = mo := by rw [IntKind.wrap_u64]; have := h.o0; have := h.o1; omega
  have w3 : IntKind.u64.wrap ty = ty := by rw [IntKind.wrap_u64]; have := h.y0; have := h.y1; omega
  have a0 := h.f.a0
  have a1 := h.f.a1
  clear co h hB hT hO
  have A0 : At (w.heap.size) [.bool tg, .int .i64 pe, .int .i64 ty, .int .i64 mo, .int .i64 e, .int .i64 b, .int .i64 t, .bool g, .int .u64 a] (w.alloc (.cells #[.bool tg, .int .i64 pe, .int .i64 ty, .int .i64 mo, .int .i64 e, .int .i64 b, .int .i64 t, .bool g, .int .u64 a] 24)) := (At.new' w [.bool tg, .int .i64 pe, .int .i64 ty, .int .i64 mo, .int .i64 e, .int .i64 b, .int .i64 t, .bool g, .int .u64 a] 24 (by simp))
  have kb : Bh w (w.heap.size + 1) (w.alloc (.cells #[.bool tg, .int .i64 pe, .int .i64 ty, .int .i64 mo, .int .i64 e, .int .i64 b, .int .i64 t, .bool g, .int .u64 a] 24)) := ⟨((Kp.refl w).allocs _ _), by simp, by simp⟩
  go_enter Try.func40, Try.ntmps40
  go_wp2_with (first
    | (go_at_call 57; (with_reducible refine (CO.out _).mono ?_); rintro e' w1 ⟨rfl, qk⟩; have kbw1 : Bh w (w.heap.size + 1) w1 := Bh.step kb qk; have Aw10 := At.kp A0 qk (Nat.lt_of_lt_of_le (show w.heap.size < w.heap.size + 1 by omega) (Bh.le (W := w) kb)); obtain ⟨_, _, _, _, _, _, _, _, _⟩ := Aw10.out9; have lw1 := kbw1.le; have qa0 : w.heap.size < w1.heap.size := (by omega); have qa1 : ¬ w.heap.size = w1.heap.size := (by omega); have qa2 : ¬ w1.heap.size = w.heap.size := (by omega); clear qk)
    | (go_at_call 13; (with_reducible refine (rsealed_w _ _ _ _ _ _ _ _ _ _ rfl _).mono ?_); rintro e' w2 ⟨rfl, qk⟩; have kbw2 : Bh w (w1.heap.size + 1) w2 := Bh.step (⟨kbw1.kp.allocs _ _, by omega, by simp⟩ : Bh w (w1.heap.size + 1) (w1.alloc (.cells #[.int .u64 B, .int .u64 T, .bool O] 40))) qk; clear qk)
    | (go_at_call 68; (with_reducible refine (rone_w _ _).mono ?_); rintro e' w' ⟨rfl, rfl⟩))
  go_ret2
  exact ⟨rfl, kbw2.kp⟩
set_option maxHeartbeats 4000000 in
set_option maxRecDepth 100000 in
theorem rget_6 (tg : Bool) (pe ty mo e b t : Int) (g : Bool) (a : Int) (h : Rt pe ty mo e b t a)  (w : World) :
    Calls Try.prog 40 #[.int .i64 6, .agg #[.bool tg, .int .i64 pe, .int .i64 ty, .int .i64 mo, .int .i64 e, .int .i64 b, .int .i64 t, .bool g, .int .u64 a]] w fun e' w' => e' = .returned (.tuple #[.int .u64 (offV (ofB e b a) a), .bool true]) ∧ Kp w w' := by
  obtain ⟨B, hB⟩ : ∃ B, ofB e b a = B := ⟨_, rfl⟩
  obtain ⟨T, hT⟩ : ∃ T, ofT e b t g a = T := ⟨_, rfl⟩
  obtain ⟨O, hO⟩ : ∃ O, ofO e b t g a = O := ⟨_, rfl⟩
  have bb := ofB_bd e b a
  have bt := ofT_bd e b t g a
  have co : ∀ w : World, Calls Try.prog 57 #[.agg #[.bool tg, .int .i64 pe, .int .i64 ty, .int .i64 mo, .int .i64 e, .int .i64 b, .int .i64 t, .bool g, .int .u64 a]] w fun e' w' => e' = .returned (.agg #[.int .u64 B, .int .u64 T, .bool O]) ∧ Kp w w' := fun w => by
    have c := refOf_w tg pe ty mo e b t g a h.f w
    rw [hB, hT, hO] at c; exact c
  (try rw [hB])
  (try rw [hT])
  (try rw [hO])
  rw [hB] at bb
  rw [hT] at bt
  have CO := Lib.hid co
  have w1 : IntKind.u64.wrap pe = pe := by rw [IntKind.wrap_u64]; have := h.p0; have := h.p1; omega
  have w2 : IntKind.u64.wrap mo = mo := by rw [IntKind.wrap_u64]; have := h.o0; have := h.o1; omega
  have w3 : IntKind.u64.wrap ty = ty := by rw [IntKind.wrap_u64]; have := h.y0; have := h.y1; omega
  have a0 := h.f.a0
  have a1 := h.f.a1
  clear co h hB hT hO
  have A0 : At (w.heap.size) [.bool tg, .int .i64 pe, .int .i64 ty, .int .i64 mo, .int .i64 e, .int .i64 b, .int .i64 t, .bool g, .int .u64 a] (w.alloc (.cells #[.bool tg, .int .i64 pe, .int .i64 ty, .int .i64 mo, .int .i64 e, .int .i64 b, .int .i64 t, .bool g, .int .u64 a] 24)) := (At.new' w [.bool tg, .int .i64 pe, .int .i64 ty, .int .i64 mo, .int .i64 e, .int .i64 b, .int .i64 t, .bool g, .int .u64 a] 24 (by simp))
  have kb : Bh w (w.heap.size + 1) (w.alloc (.cells #[.bool tg, .int .i64 pe, .int .i64 ty, .int .i64 mo, .int .i64 e, .int .i64 b, .int .i64 t, .bool g, .int .u64 a] 24)) := ⟨((Kp.refl w).allocs _ _), by simp, by simp⟩
  go_enter Try.func40, Try.ntmps40
  go_wp2_with (first
    | (go_at_call 57; (with_reducible refine (CO.out _).mono ?_); rintro e' w1 ⟨rfl, qk⟩; have kbw1 : Bh w (w.heap.size + 1) w1 := Bh.step kb qk; have Aw10 := At.kp A0 qk (Nat.lt_of_lt_of_le (show w.heap.size < w.heap.size + 1 by omega) (Bh.le (W := w) kb)); obtain ⟨_, _, _, _, _, _, _, _, _⟩ := Aw10.out9; have lw1 := kbw1.le; have qa0 : w.heap.size < w1.heap.size := (by omega); have qa1 : ¬ w.heap.size = w1.heap.size := (by omega); have qa2 : ¬ w1.heap.size = w.heap.size := (by omega); clear qk))
  go_ret2
  exact ⟨rfl, kbw1.kp.allocs _ _⟩
set_option maxHeartbeats 4000000 in
set_option maxRecDepth 100000 in
theorem rget_7 (tg : Bool) (pe ty mo e b t : Int) (g : Bool) (a : Int) (h : Rt pe ty mo e b t a)  (w : World) :
    Calls Try.prog 40 #[.int .i64 7, .agg #[.bool tg, .int .i64 pe, .int .i64 ty, .int .i64 mo, .int .i64 e, .int .i64 b, .int .i64 t, .bool g, .int .u64 a]] w fun e' w' => e' = .returned (.tuple #[.int .u64 mo, .bool true]) ∧ Kp w w' := by
  obtain ⟨B, hB⟩ : ∃ B, ofB e b a = B := ⟨_, rfl⟩
  obtain ⟨T, hT⟩ : ∃ T, ofT e b t g a = T := ⟨_, rfl⟩
  obtain ⟨O, hO⟩ : ∃ O, ofO e b t g a = O := ⟨_, rfl⟩
  have bb := ofB_bd e b a
  have bt := ofT_bd e b t g a
  have co : ∀ w : World, Calls Try.prog 57 #[.agg #[.bool tg, .int .i64 pe, .int .i64 ty, .int .i64 mo, .int .i64 e, .int .i64 b, .int .i64 t, .bool g, .int .u64 a]] w fun e' w' => e' = .returned (.agg #[.int .u64 B, .int .u64 T, .bool O]) ∧ Kp w w' := fun w => by
    have c := refOf_w tg pe ty mo e b t g a h.f w
    rw [hB, hT, hO] at c; exact c
  (try rw [hB])
  (try rw [hT])
  (try rw [hO])
  rw [hB] at bb
  rw [hT] at bt
  have CO := Lib.hid co
  have w1 : IntKind.u64.wrap pe = pe := by rw [IntKind.wrap_u64]; have := h.p0; have := h.p1; omega
  have w2 : IntKind.u64.wrap mo = mo := by rw [IntKind.wrap_u64]; have := h.o0; have := h.o1; omega
  have w3 : IntKind.u64.wrap ty = ty := by rw [IntKind.wrap_u64]; have := h.y0; have := h.y1; omega
  have a0 := h.f.a0
  have a1 := h.f.a1
  clear co h hB hT hO
  have A0 : At (w.heap.size) [.bool tg, .int .i64 pe, .int .i64 ty, .int .i64 mo, .int .i64 e, .int .i64 b, .int .i64 t, .bool g, .int .u64 a] (w.alloc (.cells #[.bool tg, .int .i64 pe, .int .i64 ty, .int .i64 mo, .int .i64 e, .int .i64 b, .int .i64 t, .bool g, .int .u64 a] 24)) := (At.new' w [.bool tg, .int .i64 pe, .int .i64 ty, .int .i64 mo, .int .i64 e, .int .i64 b, .int .i64 t, .bool g, .int .u64 a] 24 (by simp))
  have kb : Bh w (w.heap.size + 1) (w.alloc (.cells #[.bool tg, .int .i64 pe, .int .i64 ty, .int .i64 mo, .int .i64 e, .int .i64 b, .int .i64 t, .bool g, .int .u64 a] 24)) := ⟨((Kp.refl w).allocs _ _), by simp, by simp⟩
  go_enter Try.func40, Try.ntmps40
  go_wp2_with (first
    | (go_at_call 57; (with_reducible refine (CO.out _).mono ?_); rintro e' w1 ⟨rfl, qk⟩; have kbw1 : Bh w (w.heap.size + 1) w1 := Bh.step kb qk; have Aw10 := At.kp A0 qk (Nat.lt_of_lt_of_le (show w.heap.size < w.heap.size + 1 by omega) (Bh.le (W := w) kb)); obtain ⟨_, _, _, _, _, _, _, _, _⟩ := Aw10.out9; have lw1 := kbw1.le; have qa0 : w.heap.size < w1.heap.size := (by omega); have qa1 : ¬ w.heap.size = w1.heap.size := (by omega); have qa2 : ¬ w1.heap.size = w.heap.size := (by omega); clear qk))
  go_ret2
  exact ⟨rfl, kbw1.kp.allocs _ _⟩
set_option maxHeartbeats 4000000 in
set_option maxRecDepth 100000 in
theorem rget_8 (tg : Bool) (pe ty mo e b t : Int) (g : Bool) (a : Int) (h : Rt pe ty mo e b t a)  (w : World) :
    Calls Try.prog 40 #[.int .i64 8, .agg #[.bool tg, .int .i64 pe, .int .i64 ty, .int .i64 mo, .int .i64 e, .int .i64 b, .int .i64 t, .bool g, .int .u64 a]] w fun e' w' => e' = .returned (.tuple #[.int .u64 (roundV a), .bool true]) ∧ Kp w w' := by
  obtain ⟨B, hB⟩ : ∃ B, ofB e b a = B := ⟨_, rfl⟩
  obtain ⟨T, hT⟩ : ∃ T, ofT e b t g a = T := ⟨_, rfl⟩
  obtain ⟨O, hO⟩ : ∃ O, ofO e b t g a = O := ⟨_, rfl⟩
  have bb := ofB_bd e b a
  have bt := ofT_bd e b t g a
  have co : ∀ w : World, Calls Try.prog 57 #[.agg #[.bool tg, .int .i64 pe, .int .i64 ty, .int .i64 mo, .int .i64 e, .int .i64 b, .int .i64 t, .bool g, .int .u64 a]] w fun e' w' => e' = .returned (.agg #[.int .u64 B, .int .u64 T, .bool O]) ∧ Kp w w' := fun w => by
    have c := refOf_w tg pe ty mo e b t g a h.f w
    rw [hB, hT, hO] at c; exact c
  (try rw [hB])
  (try rw [hT])
  (try rw [hO])
  rw [hB] at bb
  rw [hT] at bt
  have CO := Lib.hid co
  have w1 : IntKind.u64.wrap pe = pe := by rw [IntKind.wrap_u64]; have := h.p0; have := h.p1; omega
  have w2 : IntKind.u64.wrap mo = mo := by rw [IntKind.wrap_u64]; have := h.o0; have := h.o1; omega
  have w3 : IntKind.u64.wrap ty = ty := by rw [IntKind.wrap_u64]; have := h.y0; have := h.y1; omega
  have a0 := h.f.a0
  have a1 := h.f.a1
  clear co h hB hT hO
  have A0 : At (w.heap.size) [.bool tg, .int .i64 pe, .int .i64 ty, .int .i64 mo, .int .i64 e, .int .i64 b, .int .i64 t, .bool g, .int .u64 a] (w.alloc (.cells #[.bool tg, .int .i64 pe, .int .i64 ty, .int .i64 mo, .int .i64 e, .int .i64 b, .int .i64 t, .bool g, .int .u64 a] 24)) := (At.new' w [.bool tg, .int .i64 pe, .int .i64 ty, .int .i64 mo, .int .i64 e, .int .i64 b, .int .i64 t, .bool g, .int .u64 a] 24 (by simp))
  have kb : Bh w (w.heap.size + 1) (w.alloc (.cells #[.bool tg, .int .i64 pe, .int .i64 ty, .int .i64 mo, .int .i64 e, .int .i64 b, .int .i64 t, .bool g, .int .u64 a] 24)) := ⟨((Kp.refl w).allocs _ _), by simp, by simp⟩
  go_enter Try.func40, Try.ntmps40
  go_wp2_with (first
    | (go_at_call 57; (with_reducible refine (CO.out _).mono ?_); rintro e' w1 ⟨rfl, qk⟩; have kbw1 : Bh w (w.heap.size + 1) w1 := Bh.step kb qk; have Aw10 := At.kp A0 qk (Nat.lt_of_lt_of_le (show w.heap.size < w.heap.size + 1 by omega) (Bh.le (W := w) kb)); obtain ⟨_, _, _, _, _, _, _, _, _⟩ := Aw10.out9; have lw1 := kbw1.le; have qa0 : w.heap.size < w1.heap.size := (by omega); have qa1 : ¬ w.heap.size = w1.heap.size := (by omega); have qa2 : ¬ w1.heap.size = w.heap.size := (by omega); clear qk)
    | (go_at_call 69; (with_reducible refine (refRound_w a a0 a1 _).mono ?_); rintro e' w2 ⟨rfl, qk⟩; have kbw2 : Bh w (w1.heap.size + 1) w2 := Bh.step (⟨kbw1.kp.allocs _ _, by omega, by simp⟩ : Bh w (w1.heap.size + 1) (w1.alloc (.cells #[.int .u64 B, .int .u64 T, .bool O] 40))) qk; clear qk))
  go_ret2
  exact ⟨rfl, kbw2.kp⟩
set_option maxHeartbeats 4000000 in
set_option maxRecDepth 100000 in
theorem rget_9 (tg : Bool) (pe ty mo e b t : Int) (g : Bool) (a : Int) (h : Rt pe ty mo e b t a)  (w : World) :
    Calls Try.prog 40 #[.int .i64 9, .agg #[.bool tg, .int .i64 pe, .int .i64 ty, .int .i64 mo, .int .i64 e, .int .i64 b, .int .i64 t, .bool g, .int .u64 a]] w fun e' w' => e' = .returned (.tuple #[.int .u64 (maskV a), .bool true]) ∧ Kp w w' := by
  obtain ⟨B, hB⟩ : ∃ B, ofB e b a = B := ⟨_, rfl⟩
  obtain ⟨T, hT⟩ : ∃ T, ofT e b t g a = T := ⟨_, rfl⟩
  obtain ⟨O, hO⟩ : ∃ O, ofO e b t g a = O := ⟨_, rfl⟩
  have bb := ofB_bd e b a
  have bt := ofT_bd e b t g a
  have co : ∀ w : World, Calls Try.prog 57 #[.agg #[.bool tg, .int .i64 pe, .int .i64 ty, .int .i64 mo, .int .i64 e, .int .i64 b, .int .i64 t, .bool g, .int .u64 a]] w fun e' w' => e' = .returned (.agg #[.int .u64 B, .int .u64 T, .bool O]) ∧ Kp w w' := fun w => by
    have c := refOf_w tg pe ty mo e b t g a h.f w
    rw [hB, hT, hO] at c; exact c
  (try rw [hB])
  (try rw [hT])
  (try rw [hO])
  rw [hB] at bb
  rw [hT] at bt
  have CO := Lib.hid co
  have w1 : IntKind.u64.wrap pe = pe := by rw [IntKind.wrap_u64]; have := h.p0; have := h.p1; omega
  have w2 : IntKind.u64.wrap mo = mo := by rw [IntKind.wrap_u64]; have := h.o0; have := h.o1; omega
  have w3 : IntKind.u64.wrap ty = ty := by rw [IntKind.wrap_u64]; have := h.y0; have := h.y1; omega
  have a0 := h.f.a0
  have a1 := h.f.a1
  clear co h hB hT hO
  have A0 : At (w.heap.size) [.bool tg, .int .i64 pe, .int .i64 ty, .int .i64 mo, .int .i64 e, .int .i64 b, .int .i64 t, .bool g, .int .u64 a] (w.alloc (.cells #[.bool tg, .int .i64 pe, .int .i64 ty, .int .i64 mo, .int .i64 e, .int .i64 b, .int .i64 t, .bool g, .int .u64 a] 24)) := (At.new' w [.bool tg, .int .i64 pe, .int .i64 ty, .int .i64 mo, .int .i64 e, .int .i64 b, .int .i64 t, .bool g, .int .u64 a] 24 (by simp))
  have kb : Bh w (w.heap.size + 1) (w.alloc (.cells #[.bool tg, .int .i64 pe, .int .i64 ty, .int .i64 mo, .int .i64 e, .int .i64 b, .int .i64 t, .bool g, .int .u64 a] 24)) := ⟨((Kp.refl w).allocs _ _), by simp, by simp⟩
  go_enter Try.func40, Try.ntmps40
  go_wp2_with (first
    | (go_at_call 57; (with_reducible refine (CO.out _).mono ?_); rintro e' w1 ⟨rfl, qk⟩; have kbw1 : Bh w (w.heap.size + 1) w1 := Bh.step kb qk; have Aw10 := At.kp A0 qk (Nat.lt_of_lt_of_le (show w.heap.size < w.heap.size + 1 by omega) (Bh.le (W := w) kb)); obtain ⟨_, _, _, _, _, _, _, _, _⟩ := Aw10.out9; have lw1 := kbw1.le; have qa0 : w.heap.size < w1.heap.size := (by omega); have qa1 : ¬ w.heap.size = w1.heap.size := (by omega); have qa2 : ¬ w1.heap.size = w.heap.size := (by omega); clear qk)
    | (go_at_call 70; (with_reducible refine (refMask_w a a0 a1 _).mono ?_); rintro e' w2 ⟨rfl, qk⟩; have kbw2 : Bh w (w1.heap.size + 1) w2 := Bh.step (⟨kbw1.kp.allocs _ _, by omega, by simp⟩ : Bh w (w1.heap.size + 1) (w1.alloc (.cells #[.int .u64 B, .int .u64 T, .bool O] 40))) qk; clear qk))
  go_ret2
  exact ⟨rfl, kbw2.kp⟩
set_option maxHeartbeats 4000000 in
set_option maxRecDepth 100000 in
theorem rget_15 (tg : Bool) (pe ty mo e b t : Int) (g : Bool) (a : Int) (h : Rt pe ty mo e b t a)  (w : World) :
    Calls Try.prog 40 #[.int .i64 15, .agg #[.bool tg, .int .i64 pe, .int .i64 ty, .int .i64 mo, .int .i64 e, .int .i64 b, .int .i64 t, .bool g, .int .u64 a]] w fun e' w' => e' = .returned (.tuple #[.int .u64 a, .bool true]) ∧ Kp w w' := by
  obtain ⟨B, hB⟩ : ∃ B, ofB e b a = B := ⟨_, rfl⟩
  obtain ⟨T, hT⟩ : ∃ T, ofT e b t g a = T := ⟨_, rfl⟩
  obtain ⟨O, hO⟩ : ∃ O, ofO e b t g a = O := ⟨_, rfl⟩
  have bb := ofB_bd e b a
  have bt := ofT_bd e b t g a
  have co : ∀ w : World, Calls Try.prog 57 #[.agg #[.bool tg, .int .i64 pe, .int .i64 ty, .int .i64 mo, .int .i64 e, .int .i64 b, .int .i64 t, .bool g, .int .u64 a]] w fun e' w' => e' = .returned (.agg #[.int .u64 B, .int .u64 T, .bool O]) ∧ Kp w w' := fun w => by
    have c := refOf_w tg pe ty mo e b t g a h.f w
    rw [hB, hT, hO] at c; exact c
  (try rw [hB])
  (try rw [hT])
  (try rw [hO])
  rw [hB] at bb
  rw [hT] at bt
  have CO := Lib.hid co
  have w1 : IntKind.u64.wrap pe = pe := by rw [IntKind.wrap_u64]; have := h.p0; have := h.p1; omega
  have w2 : IntKind.u64.wrap mo = mo := by rw [IntKind.wrap_u64]; have := h.o0; have := h.o1; omega
  have w3 : IntKind.u64.wrap ty = ty := by rw [IntKind.wrap_u64]; have := h.y0; have := h.y1; omega
  have a0 := h.f.a0
  have a1 := h.f.a1
  clear co h hB hT hO
  have A0 : At (w.heap.size) [.bool tg, .int .i64 pe, .int .i64 ty, .int .i64 mo, .int .i64 e, .int .i64 b, .int .i64 t, .bool g, .int .u64 a] (w.alloc (.cells #[.bool tg, .int .i64 pe, .int .i64 ty, .int .i64 mo, .int .i64 e, .int .i64 b, .int .i64 t, .bool g, .int .u64 a] 24)) := (At.new' w [.bool tg, .int .i64 pe, .int .i64 ty, .int .i64 mo, .int .i64 e, .int .i64 b, .int .i64 t, .bool g, .int .u64 a] 24 (by simp))
  have kb : Bh w (w.heap.size + 1) (w.alloc (.cells #[.bool tg, .int .i64 pe, .int .i64 ty, .int .i64 mo, .int .i64 e, .int .i64 b, .int .i64 t, .bool g, .int .u64 a] 24)) := ⟨((Kp.refl w).allocs _ _), by simp, by simp⟩
  go_enter Try.func40, Try.ntmps40
  go_wp2_with (first
    | (go_at_call 57; (with_reducible refine (CO.out _).mono ?_); rintro e' w1 ⟨rfl, qk⟩; have kbw1 : Bh w (w.heap.size + 1) w1 := Bh.step kb qk; have Aw10 := At.kp A0 qk (Nat.lt_of_lt_of_le (show w.heap.size < w.heap.size + 1 by omega) (Bh.le (W := w) kb)); obtain ⟨_, _, _, _, _, _, _, _, _⟩ := Aw10.out9; have lw1 := kbw1.le; have qa0 : w.heap.size < w1.heap.size := (by omega); have qa1 : ¬ w.heap.size = w1.heap.size := (by omega); have qa2 : ¬ w1.heap.size = w.heap.size := (by omega); clear qk))
  go_ret2
  exact ⟨rfl, kbw1.kp.allocs _ _⟩
set_option maxHeartbeats 4000000 in
set_option maxRecDepth 100000 in
theorem rget_24 (tg : Bool) (pe ty mo e b t : Int) (g : Bool) (a : Int) (h : Rt pe ty mo e b t a)  (w : World) :
    Calls Try.prog 40 #[.int .i64 24, .agg #[.bool tg, .int .i64 pe, .int .i64 ty, .int .i64 mo, .int .i64 e, .int .i64 b, .int .i64 t, .bool g, .int .u64 a]] w fun e' w' => e' = .returned (.tuple #[.int .u64 (topV (ofT e b t g a) (ofO e b t g a)), .bool true]) ∧ Kp w w' := by
  obtain ⟨B, hB⟩ : ∃ B, ofB e b a = B := ⟨_, rfl⟩
  obtain ⟨T, hT⟩ : ∃ T, ofT e b t g a = T := ⟨_, rfl⟩
  obtain ⟨O, hO⟩ : ∃ O, ofO e b t g a = O := ⟨_, rfl⟩
  have bb := ofB_bd e b a
  have bt := ofT_bd e b t g a
  have co : ∀ w : World, Calls Try.prog 57 #[.agg #[.bool tg, .int .i64 pe, .int .i64 ty, .int .i64 mo, .int .i64 e, .int .i64 b, .int .i64 t, .bool g, .int .u64 a]] w fun e' w' => e' = .returned (.agg #[.int .u64 B, .int .u64 T, .bool O]) ∧ Kp w w' := fun w => by
    have c := refOf_w tg pe ty mo e b t g a h.f w
    rw [hB, hT, hO] at c; exact c
  (try rw [hB])
  (try rw [hT])
  (try rw [hO])
  rw [hB] at bb
  rw [hT] at bt
  have CO := Lib.hid co
  have w1 : IntKind.u64.wrap pe = pe := by rw [IntKind.wrap_u64]; have := h.p0; have := h.p1; omega
  have w2 : IntKind.u64.wrap mo = mo := by rw [IntKind.wrap_u64]; have := h.o0; have := h.o1; omega
  have w3 : IntKind.u64.wrap ty = ty := by rw [IntKind.wrap_u64]; have := h.y0; have := h.y1; omega
  have a0 := h.f.a0
  have a1 := h.f.a1
  clear co h hB hT hO
  have A0 : At (w.heap.size) [.bool tg, .int .i64 pe, .int .i64 ty, .int .i64 mo, .int .i64 e, .int .i64 b, .int .i64 t, .bool g, .int .u64 a] (w.alloc (.cells #[.bool tg, .int .i64 pe, .int .i64 ty, .int .i64 mo, .int .i64 e, .int .i64 b, .int .i64 t, .bool g, .int .u64 a] 24)) := (At.new' w [.bool tg, .int .i64 pe, .int .i64 ty, .int .i64 mo, .int .i64 e, .int .i64 b, .int .i64 t, .bool g, .int .u64 a] 24 (by simp))
  have kb : Bh w (w.heap.size + 1) (w.alloc (.cells #[.bool tg, .int .i64 pe, .int .i64 ty, .int .i64 mo, .int .i64 e, .int .i64 b, .int .i64 t, .bool g, .int .u64 a] 24)) := ⟨((Kp.refl w).allocs _ _), by simp, by simp⟩
  cases O
  all_goals
    go_enter Try.func40, Try.ntmps40
    go_wp2_with (first
      | (go_at_call 57; (with_reducible refine (CO.out _).mono ?_); rintro e' w1 ⟨rfl, qk⟩; have kbw1 : Bh w (w.heap.size + 1) w1 := Bh.step kb qk; have Aw10 := At.kp A0 qk (Nat.lt_of_lt_of_le (show w.heap.size < w.heap.size + 1 by omega) (Bh.le (W := w) kb)); obtain ⟨_, _, _, _, _, _, _, _, _⟩ := Aw10.out9; have lw1 := kbw1.le; have qa0 : w.heap.size < w1.heap.size := (by omega); have qa1 : ¬ w.heap.size = w1.heap.size := (by omega); have qa2 : ¬ w1.heap.size = w.heap.size := (by omega); clear qk))
    go_ret2
    exact ⟨rfl, kbw1.kp.allocs _ _⟩
set_option maxHeartbeats 4000000 in
set_option maxRecDepth 100000 in
theorem rget_no (tg : Bool) (pe ty mo e b t : Int) (g : Bool) (a : Int) (h : Rt pe ty mo e b t a) (n : Int) (h0 : (n == 0) = false) (h1 : (n == 1) = false) (h2 : (n == 2) = false) (h3 : (n == 3) = false) (h4 : (n == 4) = false) (h5 : (n == 5) = false) (h6 : (n == 6) = false) (h7 : (n == 7) = false) (h8 : (n == 8) = false) (h9 : (n == 9) = false) (h15 : (n == 15) = false) (h24 : (n == 24) = false) (w : World) :
    Calls Try.prog 40 #[.int .i64 n, .agg #[.bool tg, .int .i64 pe, .int .i64 ty, .int .i64 mo, .int .i64 e, .int .i64 b, .int .i64 t, .bool g, .int .u64 a]] w fun e' w' => e' = .returned (.tuple #[.int .u64 0, .bool false]) ∧ Kp w w' := by
  obtain ⟨B, hB⟩ : ∃ B, ofB e b a = B := ⟨_, rfl⟩
  obtain ⟨T, hT⟩ : ∃ T, ofT e b t g a = T := ⟨_, rfl⟩
  obtain ⟨O, hO⟩ : ∃ O, ofO e b t g a = O := ⟨_, rfl⟩
  have bb := ofB_bd e b a
  have bt := ofT_bd e b t g a
  have co : ∀ w : World, Calls Try.prog 57 #[.agg #[.bool tg, .int .i64 pe, .int .i64 ty, .int .i64 mo, .int .i64 e, .int .i64 b, .int .i64 t, .bool g, .int .u64 a]] w fun e' w' => e' = .returned (.agg #[.int .u64 B, .int .u64 T, .bool O]) ∧ Kp w w' := fun w => by
    have c := refOf_w tg pe ty mo e b t g a h.f w
    rw [hB, hT, hO] at c; exact c
  (try rw [hB])
  (try rw [hT])
  (try rw [hO])
  rw [hB] at bb
  rw [hT] at bt
  have CO := Lib.hid co
  have w1 : IntKind.u64.wrap pe = pe := by rw [IntKind.wrap_u64]; have := h.p0; have := h.p1; omega
  have w2 : IntKind.u64.wrap mo = mo := by rw [IntKind.wrap_u64]; have := h.o0; have := h.o1; omega
  have w3 : IntKind.u64.wrap ty = ty := by rw [IntKind.wrap_u64]; have := h.y0; have := h.y1; omega
  have a0 := h.f.a0
  have a1 := h.f.a1
  clear co h hB hT hO
  have A0 : At (w.heap.size) [.bool tg, .int .i64 pe, .int .i64 ty, .int .i64 mo, .int .i64 e, .int .i64 b, .int .i64 t, .bool g, .int .u64 a] (w.alloc (.cells #[.bool tg, .int .i64 pe, .int .i64 ty, .int .i64 mo, .int .i64 e, .int .i64 b, .int .i64 t, .bool g, .int .u64 a] 24)) := (At.new' w [.bool tg, .int .i64 pe, .int .i64 ty, .int .i64 mo, .int .i64 e, .int .i64 b, .int .i64 t, .bool g, .int .u64 a] 24 (by simp))
  have kb : Bh w (w.heap.size + 1) (w.alloc (.cells #[.bool tg, .int .i64 pe, .int .i64 ty, .int .i64 mo, .int .i64 e, .int .i64 b, .int .i64 t, .bool g, .int .u64 a] 24)) := ⟨((Kp.refl w).allocs _ _), by simp, by simp⟩
  go_enter Try.func40, Try.ntmps40
  go_wp2_with (first
    | (go_at_call 57; (with_reducible refine (CO.out _).mono ?_); rintro e' w1 ⟨rfl, qk⟩; have kbw1 : Bh w (w.heap.size + 1) w1 := Bh.step kb qk; have Aw10 := At.kp A0 qk (Nat.lt_of_lt_of_le (show w.heap.size < w.heap.size + 1 by omega) (Bh.le (W := w) kb)); obtain ⟨_, _, _, _, _, _, _, _, _⟩ := Aw10.out9; have lw1 := kbw1.le; have qa0 : w.heap.size < w1.heap.size := (by omega); have qa1 : ¬ w.heap.size = w1.heap.size := (by omega); have qa2 : ¬ w1.heap.size = w.heap.size := (by omega); clear qk))
  go_ret2
  exact ⟨rfl, kbw1.kp.allocs _ _⟩
end Go.Proofs.Ytddgmbfngbobgaa
