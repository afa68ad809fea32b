/-
  Contracts of ravelinkit.Pick, the third layer's May and the law's own Right: of any capability a right one. Numbers are within their types.
-/
import Derived.Test.YtikibfpfieoabaaCPerm
import Derived.Test.YtikibfpfieoabaaCAt
namespace Go.Proofs.Ytikibfpfieoabaa
open Go.ChangeShapes Go.WideShapes Go.ChangeAt Go.RowKit
set_option linter.unusedVariables false
set_option linter.unusedSimpArgs false

theorem tmod_of (k n : Int) (hn : 0 < n) : (0 ≤ k ∧ k.tmod n = k % n) ∨ (k < 0 ∧ k.tmod n = -((-k) % n)) := by
  by_cases h : 0 ≤ k
  · exact Or.inl ⟨h, Int.tmod_eq_emod_of_nonneg h⟩
  · refine Or.inr ⟨by omega, ?_⟩
    have e : k = -(-k) := by omega
    rw [e, Int.neg_tmod, Int.tmod_eq_emod_of_nonneg (by omega)]
    simp
theorem pick_16384 (k : Int) (k0 : -9223372036854775808 ≤ k) (k1 : k < 9223372036854775808) (w : World) :
    Calls Try.prog 18 #[.int .i64 k, .int .i64 16384] w fun e w' => e = .returned (.int .i64 (k % 16384)) ∧ w = w' := by
  have h := tmod_of k 16384 (by omega)
  obtain ⟨r, hr⟩ : ∃ r, k.tmod 16384 = r := ⟨_, rfl⟩
  rw [hr] at h
  have H := Lib.hid h
  cases hd : decide (r < 0)
  all_goals
    have hd' := hd
    simp only [decide_eq_true_eq, decide_eq_false_iff_not] at hd'
    have HD := Lib.hid hd'
    clear hd' h
    go_enter Try.func18, Try.ntmps18
    go_wp2
    go_ret
    refine ⟨ret_int ?_, rfl⟩
    have h := H.out
    have hd' := HD.out
    (try simp only [IntKind.wrap_i64, wrap64])
    omega
theorem pick_4096 (k : Int) (k0 : -9223372036854775808 ≤ k) (k1 : k < 9223372036854775808) (w : World) :
    Calls Try.prog 18 #[.int .i64 k, .int .i64 4096] w fun e w' => e = .returned (.int .i64 (k % 4096)) ∧ w = w' := by
  have h := tmod_of k 4096 (by omega)
  obtain ⟨r, hr⟩ : ∃ r, k.tmod 4096 = r := ⟨_, rfl⟩
  rw [hr] at h
  have H := Lib.hid h
  cases hd : decide (r < 0)
  all_goals
    have hd' := hd
    simp only [decide_eq_true_eq, decide_eq_false_iff_not] at hd'
    have HD := Lib.hid hd'
    clear hd' h
    go_enter Try.func18, Try.ntmps18
    go_wp2
    go_ret
    refine ⟨ret_int ?_, rfl⟩
    have h := H.out
    have hd' := HD.out
    (try simp only [IntKind.wrap_i64, wrap64])
    omega
theorem pick_53 (k : Int) (k0 : -9223372036854775808 ≤ k) (k1 : k < 9223372036854775808) (w : World) :
    Calls Try.prog 18 #[.int .i64 k, .int .i64 53] w fun e w' => e = .returned (.int .i64 (k % 53)) ∧ w = w' := by
  have h := tmod_of k 53 (by omega)
  obtain ⟨r, hr⟩ : ∃ r, k.tmod 53 = r := ⟨_, rfl⟩
  rw [hr] at h
  have H := Lib.hid h
  cases hd : decide (r < 0)
  all_goals
    have hd' := hd
    simp only [decide_eq_true_eq, decide_eq_false_iff_not] at hd'
    have HD := Lib.hid hd'
    clear hd' h
    go_enter Try.func18, Try.ntmps18
    go_wp2
    go_ret
    refine ⟨ret_int ?_, rfl⟩
    have h := H.out
    have hd' := HD.out
    (try simp only [IntKind.wrap_i64, wrap64])
    omega
theorem pick_65536 (k : Int) (k0 : -9223372036854775808 ≤ k) (k1 : k < 9223372036854775808) (w : World) :
    Calls Try.prog 18 #[.int .i64 k, .int .i64 65536] w fun e w' => e = .returned (.int .i64 (k % 65536)) ∧ w = w' := by
  have h := tmod_of k 65536 (by omega)
  obtain ⟨r, hr⟩ : ∃ r, k.tmod 65536 = r := ⟨_, rfl⟩
  rw [hr] at h
  have H := Lib.hid h
  cases hd : decide (r < 0)
  all_goals
    have hd' := hd
    simp only [decide_eq_true_eq, decide_eq_false_iff_not] at hd'
    have HD := Lib.hid hd'
    clear hd' h
    go_enter Try.func18, Try.ntmps18
    go_wp2
    go_ret
    refine ⟨ret_int ?_, rfl⟩
    have h := H.out
    have hd' := HD.out
    (try simp only [IntKind.wrap_i64, wrap64])
    omega
theorem pick_262144 (k : Int) (k0 : -9223372036854775808 ≤ k) (k1 : k < 9223372036854775808) (w : World) :
    Calls Try.prog 18 #[.int .i64 k, .int .i64 262144] w fun e w' => e = .returned (.int .i64 (k % 262144)) ∧ w = w' := by
  have h := tmod_of k 262144 (by omega)
  obtain ⟨r, hr⟩ : ∃ r, k.tmod 262144 = r := ⟨_, rfl⟩
  rw [hr] at h
  have H := Lib.hid h
  cases hd : decide (r < 0)
  all_goals
    have hd' := hd
    simp only [decide_eq_true_eq, decide_eq_false_iff_not] at hd'
    have HD := Lib.hid hd'
    clear hd' h
    go_enter Try.func18, Try.ntmps18
    go_wp2
    go_ret
    refine ⟨ret_int ?_, rfl⟩
    have h := H.out
    have hd' := HD.out
    (try simp only [IntKind.wrap_i64, wrap64])
    omega
theorem pick_2 (k : Int) (k0 : -9223372036854775808 ≤ k) (k1 : k < 9223372036854775808) (w : World) :
    Calls Try.prog 18 #[.int .i64 k, .int .i64 2] w fun e w' => e = .returned (.int .i64 (k % 2)) ∧ w = w' := by
  have h := tmod_of k 2 (by omega)
  obtain ⟨r, hr⟩ : ∃ r, k.tmod 2 = r := ⟨_, rfl⟩
  rw [hr] at h
  have H := Lib.hid h
  cases hd : decide (r < 0)
  all_goals
    have hd' := hd
    simp only [decide_eq_true_eq, decide_eq_false_iff_not] at hd'
    have HD := Lib.hid hd'
    clear hd' h
    go_enter Try.func18, Try.ntmps18
    go_wp2
    go_ret
    refine ⟨ret_int ?_, rfl⟩
    have h := H.out
    have hd' := HD.out
    (try simp only [IntKind.wrap_i64, wrap64])
    omega
/-- The bounds' fields that May lays. -/
def mayE (e : Int) (g : Bool) : Int := if g then e % 53 else 0
set_option maxHeartbeats 4000000 in
set_option maxRecDepth 100000 in
theorem may_false (tg : Bool) (pe ty mo e b t : Int) (a : Int) (b0 : -9223372036854775808 ≤ b) (b1 : b < 9223372036854775808) (t0 : -9223372036854775808 ≤ t) (t1 : t < 9223372036854775808) (e0 : -9223372036854775808 ≤ e) (e1 : e < 9223372036854775808) (w : World) :
    Calls Try.prog 17 #[.agg #[.bool tg, .int .i64 pe, .int .i64 ty, .int .i64 mo, .int .i64 e, .int .i64 b, .int .i64 t, .bool false, .int .u64 a]] w fun e' w' => e' = .returned (.agg #[.bool tg, .int .i64 pe, .int .i64 ty, .int .i64 mo, .int .i64 0, .int .i64 (b % 16384), .int .i64 (t % 4096), .bool false, .int .u64 a]) ∧ Kp w w' := by
  have A0 : At (w.heap.size) [.bool tg, .int .i64 pe, .int .i64 ty, .int .i64 mo, .int .i64 e, .int .i64 b, .int .i64 t, .bool false, .int .u64 a] ((w.alloc (.cells #[.bool tg, .int .i64 pe, .int .i64 ty, .int .i64 mo, .int .i64 e, .int .i64 b, .int .i64 t, .bool false, .int .u64 a] 24)).alloc (.cells #[.bool false, .int .i64 0, .int .i64 0, .int .i64 0, .int .i64 0, .int .i64 0, .int .i64 0, .bool false, .int .u64 0] 24)) := ((At.new' w [.bool tg, .int .i64 pe, .int .i64 ty, .int .i64 mo, .int .i64 e, .int .i64 b, .int .i64 t, .bool false, .int .u64 a] 24 (by simp)).alloc _)
  have A1 : At (w.heap.size + 1) [.bool false, .int .i64 0, .int .i64 0, .int .i64 0, .int .i64 0, .int .i64 0, .int .i64 0, .bool false, .int .u64 0] ((w.alloc (.cells #[.bool tg, .int .i64 pe, .int .i64 ty, .int .i64 mo, .int .i64 e, .int .i64 b, .int .i64 t, .bool false, .int .u64 a] 24)).alloc (.cells #[.bool false, .int .i64 0, .int .i64 0, .int .i64 0, .int .i64 0, .int .i64 0, .int .i64 0, .bool false, .int .u64 0] 24)) := (At.new' (w.alloc (.cells #[.bool tg, .int .i64 pe, .int .i64 ty, .int .i64 mo, .int .i64 e, .int .i64 b, .int .i64 t, .bool false, .int .u64 a] 24)) [.bool false, .int .i64 0, .int .i64 0, .int .i64 0, .int .i64 0, .int .i64 0, .int .i64 0, .bool false, .int .u64 0] 24 (by simp))
  have kb : Bh w (w.heap.size + 2) ((w.alloc (.cells #[.bool tg, .int .i64 pe, .int .i64 ty, .int .i64 mo, .int .i64 e, .int .i64 b, .int .i64 t, .bool false, .int .u64 a] 24)).alloc (.cells #[.bool false, .int .i64 0, .int .i64 0, .int .i64 0, .int .i64 0, .int .i64 0, .int .i64 0, .bool false, .int .u64 0] 24)) := ⟨(((Kp.refl w).allocs _ _).allocs _ _), by simp, by simp⟩
  go_enter Try.func17, Try.ntmps17
  go_wp2_with (first
    | (go_at_call 18; (with_reducible refine (pick_16384 _ b0 b1 _).mono ?_); rintro e' w' ⟨rfl, rfl⟩)
    | (go_at_call 18; (with_reducible refine (pick_4096 _ t0 t1 _).mono ?_); rintro e' w' ⟨rfl, rfl⟩)
    | (go_at_call 18; (with_reducible refine (pick_53 _ e0 e1 _).mono ?_); rintro e' w' ⟨rfl, rfl⟩))
  refine bodyPost_ret (v := .agg #[.bool tg, .int .i64 pe, .int .i64 ty, .int .i64 mo, .int .i64 0, .int .i64 (b % 16384), .int .i64 (t % 4096), .bool false, .int .u64 a]) ?_ rfl ⟨rfl, ?_⟩
  · simp [results, Try.results17, go_sem, *]
  · repeat' (first | with_reducible refine Kp.setCell ?_ ?_ _ | with_reducible refine Kp.allocs ?_ _ _)
    all_goals first | exact Kp.refl w | (dsimp only; omega) | (simp; done)
set_option maxHeartbeats 4000000 in
set_option maxRecDepth 100000 in
theorem may_true (tg : Bool) (pe ty mo e b t : Int) (a : Int) (b0 : -9223372036854775808 ≤ b) (b1 : b < 9223372036854775808) (t0 : -9223372036854775808 ≤ t) (t1 : t < 9223372036854775808) (e0 : -9223372036854775808 ≤ e) (e1 : e < 9223372036854775808) (w : World) :
    Calls Try.prog 17 #[.agg #[.bool tg, .int .i64 pe, .int .i64 ty, .int .i64 mo, .int .i64 e, .int .i64 b, .int .i64 t, .bool true, .int .u64 a]] w fun e' w' => e' = .returned (.agg #[.bool tg, .int .i64 pe, .int .i64 ty, .int .i64 mo, .int .i64 (e % 53), .int .i64 (b % 16384), .int .i64 (t % 4096), .bool true, .int .u64 a]) ∧ Kp w w' := by
  have A0 : At (w.heap.size) [.bool tg, .int .i64 pe, .int .i64 ty, .int .i64 mo, .int .i64 e, .int .i64 b, .int .i64 t, .bool true, .int .u64 a] ((w.alloc (.cells #[.bool tg, .int .i64 pe, .int .i64 ty, .int .i64 mo, .int .i64 e, .int .i64 b, .int .i64 t, .bool true, .int .u64 a] 24)).alloc (.cells #[.bool false, .int .i64 0, .int .i64 0, .int .i64 0, .int .i64 0, .int .i64 0, .int .i64 0, .bool false, .int .u64 0] 24)) := ((At.new' w [.bool tg, .int .i64 pe, .int .i64 ty, .int .i64 mo, .int .i64 e, .int .i64 b, .int .i64 t, .bool true, .int .u64 a] 24 (by simp)).alloc _)
  have A1 : At (w.heap.size + 1) [.bool false, .int .i64 0, .int .i64 0, .int .i64 0, .int .i64 0, .int .i64 0, .int .i64 0, .bool false, .int .u64 0] ((w.alloc (.cells #[.bool tg, .int .i64 pe, .int .i64 ty, .int .i64 mo, .int .i64 e, .int .i64 b, .int .i64 t, .bool true, .int .u64 a] 24)).alloc (.cells #[.bool false, .int .i64 0, .int .i64 0, .int .i64 0, .int .i64 0, .int .i64 0, .int .i64 0, .bool false, .int .u64 0] 24)) := (At.new' (w.alloc (.cells #[.bool tg, .int .i64 pe, .int .i64 ty, .int .i64 mo, .int .i64 e, .int .i64 b, .int .i64 t, .bool true, .int .u64 a] 24)) [.bool false, .int .i64 0, .int .i64 0, .int .i64 0, .int .i64 0, .int .i64 0, .int .i64 0, .bool false, .int .u64 0] 24 (by simp))
  have kb : Bh w (w.heap.size + 2) ((w.alloc (.cells #[.bool tg, .int .i64 pe, .int .i64 ty, .int .i64 mo, .int .i64 e, .int .i64 b, .int .i64 t, .bool true, .int .u64 a] 24)).alloc (.cells #[.bool false, .int .i64 0, .int .i64 0, .int .i64 0, .int .i64 0, .int .i64 0, .int .i64 0, .bool false, .int .u64 0] 24)) := ⟨(((Kp.refl w).allocs _ _).allocs _ _), by simp, by simp⟩
  go_enter Try.func17, Try.ntmps17
  go_wp2_with (first
    | (go_at_call 18; (with_reducible refine (pick_16384 _ b0 b1 _).mono ?_); rintro e' w' ⟨rfl, rfl⟩)
    | (go_at_call 18; (with_reducible refine (pick_4096 _ t0 t1 _).mono ?_); rintro e' w' ⟨rfl, rfl⟩)
    | (go_at_call 18; (with_reducible refine (pick_53 _ e0 e1 _).mono ?_); rintro e' w' ⟨rfl, rfl⟩))
  refine bodyPost_ret (v := .agg #[.bool tg, .int .i64 pe, .int .i64 ty, .int .i64 mo, .int .i64 (e % 53), .int .i64 (b % 16384), .int .i64 (t % 4096), .bool true, .int .u64 a]) ?_ rfl ⟨rfl, ?_⟩
  · simp [results, Try.results17, go_sem, *]
  · repeat' (first | with_reducible refine Kp.setCell ?_ ?_ _ | with_reducible refine Kp.allocs ?_ _ _)
    all_goals first | exact Kp.refl w | (dsimp only; omega) | (simp; done)
theorem may_w (tg : Bool) (pe ty mo e b t : Int) (g : Bool) (a : Int) (b0 : -9223372036854775808 ≤ b) (b1 : b < 9223372036854775808) (t0 : -9223372036854775808 ≤ t) (t1 : t < 9223372036854775808) (e0 : -9223372036854775808 ≤ e) (e1 : e < 9223372036854775808) (w : World) :
    Calls Try.prog 17 #[.agg #[.bool tg, .int .i64 pe, .int .i64 ty, .int .i64 mo, .int .i64 e, .int .i64 b, .int .i64 t, .bool g, .int .u64 a]] w fun e' w' => e' = .returned (.agg #[.bool tg, .int .i64 pe, .int .i64 ty, .int .i64 mo, .int .i64 (mayE e g), .int .i64 (b % 16384), .int .i64 (t % 4096), .bool g, .int .u64 a]) ∧ Kp w w' := by
  cases g
  · exact may_false tg pe ty mo e b t a b0 b1 t0 t1 e0 e1 w
  · exact may_true tg pe ty mo e b t a b0 b1 t0 t1 e0 e1 w
/-- Right: of 16, 18 bits, a bit; bounds' fields in their places. -/
structure Rt (pe ty mo e b t a : Int) : Prop where
  p0 : 0 ≤ pe
  p1 : pe < 65536
  y0 : 0 ≤ ty
  y1 : ty < 262144
  o0 : 0 ≤ mo
  o1 : mo < 2
  f : Fld e b t a
set_option maxHeartbeats 4000000 in
set_option maxRecDepth 100000 in
theorem right_false (tg : Bool) (pe ty mo e b t : Int) (a : Int) (p0 : -9223372036854775808 ≤ pe) (p1 : pe < 9223372036854775808) (y0 : -9223372036854775808 ≤ ty) (y1 : ty < 9223372036854775808) (o0 : -9223372036854775808 ≤ mo) (o1 : mo < 9223372036854775808) (e0 : -9223372036854775808 ≤ e) (e1 : e < 9223372036854775808) (b0 : -9223372036854775808 ≤ b) (b1 : b < 9223372036854775808) (t0 : -9223372036854775808 ≤ t) (t1 : t < 9223372036854775808) (E : Int) (hE : mayE e false = E) (w : World) :
    Calls Try.prog 6 #[.agg #[.bool tg, .int .i64 pe, .int .i64 ty, .int .i64 mo, .int .i64 e, .int .i64 b, .int .i64 t, .bool false, .int .u64 a]] w fun e' w' => e' = .returned (.agg #[.bool tg, .int .i64 (pe % 65536), .int .i64 (ty % 262144), .int .i64 (mo % 2), .int .i64 E, .int .i64 (b % 16384), .int .i64 (t % 4096), .bool false, .int .u64 a]) ∧ Kp w w' := by
  have cm : ∀ w : World, Calls Try.prog 17 #[.agg #[.bool tg, .int .i64 pe, .int .i64 ty, .int .i64 mo, .int .i64 e, .int .i64 b, .int .i64 t, .bool false, .int .u64 a]] w fun e' w' => e' = .returned (.agg #[.bool tg, .int .i64 pe, .int .i64 ty, .int .i64 mo, .int .i64 E, .int .i64 (b % 16384), .int .i64 (t % 4096), .bool false, .int .u64 a]) ∧ Kp w w' := fun w => by
    have c := may_w tg pe ty mo e b t false a b0 b1 t0 t1 e0 e1 w
    rw [hE] at c; exact c
  have CM := Lib.hid cm
  clear cm hE
  have A0 : At (w.heap.size) [.bool tg, .int .i64 pe, .int .i64 ty, .int .i64 mo, .int .i64 e, .int .i64 b, .int .i64 t, .bool false, .int .u64 a] ((w.alloc (.cells #[.bool tg, .int .i64 pe, .int .i64 ty, .int .i64 mo, .int .i64 e, .int .i64 b, .int .i64 t, .bool false, .int .u64 a] 24)).alloc (.cells #[.bool false, .int .i64 0, .int .i64 0, .int .i64 0, .int .i64 0, .int .i64 0, .int .i64 0, .bool false, .int .u64 0] 24)) := ((At.new' w [.bool tg, .int .i64 pe, .int .i64 ty, .int .i64 mo, .int .i64 e, .int .i64 b, .int .i64 t, .bool false, .int .u64 a] 24 (by simp)).alloc _)
  have R0 : Rm (w.heap.size) 9 ((w.alloc (.cells #[.bool tg, .int .i64 pe, .int .i64 ty, .int .i64 mo, .int .i64 e, .int .i64 b, .int .i64 t, .bool false, .int .u64 a] 24)).alloc (.cells #[.bool false, .int .i64 0, .int .i64 0, .int .i64 0, .int .i64 0, .int .i64 0, .int .i64 0, .bool false, .int .u64 0] 24)) := ((Rm.new' w [.bool tg, .int .i64 pe, .int .i64 ty, .int .i64 mo, .int .i64 e, .int .i64 b, .int .i64 t, .bool false, .int .u64 a] 24 9 (by simp) (by simp)).alloc _ _)
  have A1 : At (w.heap.size + 1) [.bool false, .int .i64 0, .int .i64 0, .int .i64 0, .int .i64 0, .int .i64 0, .int .i64 0, .bool false, .int .u64 0] ((w.alloc (.cells #[.bool tg, .int .i64 pe, .int .i64 ty, .int .i64 mo, .int .i64 e, .int .i64 b, .int .i64 t, .bool false, .int .u64 a] 24)).alloc (.cells #[.bool false, .int .i64 0, .int .i64 0, .int .i64 0, .int .i64 0, .int .i64 0, .int .i64 0, .bool false, .int .u64 0] 24)) := (At.new' (w.alloc (.cells #[.bool tg, .int .i64 pe, .int .i64 ty, .int .i64 mo, .int .i64 e, .int .i64 b, .int .i64 t, .bool false, .int .u64 a] 24)) [.bool false, .int .i64 0, .int .i64 0, .int .i64 0, .int .i64 0, .int .i64 0, .int .i64 0, .bool false, .int .u64 0] 24 (by simp))
  have R1 : Rm (w.heap.size + 1) 9 ((w.alloc (.cells #[.bool tg, .int .i64 pe, .int .i64 ty, .int .i64 mo, .int .i64 e, .int .i64 b, .int .i64 t, .bool false, .int .u64 a] 24)).alloc (.cells #[.bool false, .int .i64 0, .int .i64 0, .int .i64 0, .int .i64 0, .int .i64 0, .int .i64 0, .bool false, .int .u64 0] 24)) := (Rm.new' (w.alloc (.cells #[.bool tg, .int .i64 pe, .int .i64 ty, .int .i64 mo, .int .i64 e, .int .i64 b, .int .i64 t, .bool false, .int .u64 a] 24)) [.bool false, .int .i64 0, .int .i64 0, .int .i64 0, .int .i64 0, .int .i64 0, .int .i64 0, .bool false, .int .u64 0] 24 9 (by simp) (by simp))
  have kb : Bh w (w.heap.size + 2) ((w.alloc (.cells #[.bool tg, .int .i64 pe, .int .i64 ty, .int .i64 mo, .int .i64 e, .int .i64 b, .int .i64 t, .bool false, .int .u64 a] 24)).alloc (.cells #[.bool false, .int .i64 0, .int .i64 0, .int .i64 0, .int .i64 0, .int .i64 0, .int .i64 0, .bool false, .int .u64 0] 24)) := ⟨(((Kp.refl w).allocs _ _).allocs _ _), by simp, by simp⟩
  go_enter Try.func6, Try.ntmps6
  go_upto_region 2 with (first
    | (go_at_call 17; (with_reducible refine (CM.out _).mono ?_); rintro e' w1 ⟨rfl, qk⟩; have kbw1 : Bh w (w.heap.size + 2) w1 := Bh.step (by with_reducible assumption) qk; have Rw10 : Rm (w.heap.size) 9 w1 := Rm.kp (by with_reducible assumption) qk (Nat.lt_of_lt_of_le (show w.heap.size < w.heap.size + 2 by omega) (Bh.le (W := w) (by with_reducible assumption))); obtain ⟨⟨_, _⟩, _, ⟨_, _⟩, _, ⟨_, _⟩, _, ⟨_, _⟩, _, ⟨_, _⟩, _, ⟨_, _⟩, _, ⟨_, _⟩, _, ⟨_, _⟩, _, ⟨_, _⟩, _⟩ := Rw10.out9; have Rw11 : Rm (w.heap.size + 1) 9 w1 := Rm.kp (by with_reducible assumption) qk (Nat.lt_of_lt_of_le (show w.heap.size + 1 < w.heap.size + 2 by omega) (Bh.le (W := w) (by with_reducible assumption))); obtain ⟨⟨_, _⟩, _, ⟨_, _⟩, _, ⟨_, _⟩, _, ⟨_, _⟩, _, ⟨_, _⟩, _, ⟨_, _⟩, _, ⟨_, _⟩, _, ⟨_, _⟩, _, ⟨_, _⟩, _⟩ := Rw11.out9; clear qk))
  have AX : At (w.heap.size) [.bool tg, .int .i64 pe, .int .i64 ty, .int .i64 mo, .int .i64 E, .int .i64 (b % 16384), .int .i64 (t % 4096), .bool false, .int .u64 a] (((((((((w1.setCell ⟨w.heap.size, 0, none⟩ (.bool tg)).setCell ⟨w.heap.size, 1, none⟩ (.int .i64 pe)).setCell ⟨w.heap.size, 2, none⟩ (.int .i64 ty)).setCell ⟨w.heap.size, 3, none⟩ (.int .i64 mo)).setCell ⟨w.heap.size, 4, none⟩ (.int .i64 E)).setCell ⟨w.heap.size, 5, none⟩ (.int .i64 (b % 16384))).setCell ⟨w.heap.size, 6, none⟩ (.int .i64 (t % 4096))).setCell ⟨w.heap.size, 7, none⟩ (.bool false)).setCell ⟨w.heap.size, 8, none⟩ (.int .u64 a)) := At.put9 Rw10
  have RX0 : Rm (w.heap.size) 9 (((((((((w1.setCell ⟨w.heap.size, 0, none⟩ (.bool tg)).setCell ⟨w.heap.size, 1, none⟩ (.int .i64 pe)).setCell ⟨w.heap.size, 2, none⟩ (.int .i64 ty)).setCell ⟨w.heap.size, 3, none⟩ (.int .i64 mo)).setCell ⟨w.heap.size, 4, none⟩ (.int .i64 E)).setCell ⟨w.heap.size, 5, none⟩ (.int .i64 (b % 16384))).setCell ⟨w.heap.size, 6, none⟩ (.int .i64 (t % 4096))).setCell ⟨w.heap.size, 7, none⟩ (.bool false)).setCell ⟨w.heap.size, 8, none⟩ (.int .u64 a)) := (Rm.set (Rm.set (Rm.set (Rm.set (Rm.set (Rm.set (Rm.set (Rm.set (Rm.set Rw10 _) _) _) _) _) _) _) _) _)
  have RX1 : Rm (w.heap.size + 1) 9 (((((((((w1.setCell ⟨w.heap.size, 0, none⟩ (.bool tg)).setCell ⟨w.heap.size, 1, none⟩ (.int .i64 pe)).setCell ⟨w.heap.size, 2, none⟩ (.int .i64 ty)).setCell ⟨w.heap.size, 3, none⟩ (.int .i64 mo)).setCell ⟨w.heap.size, 4, none⟩ (.int .i64 E)).setCell ⟨w.heap.size, 5, none⟩ (.int .i64 (b % 16384))).setCell ⟨w.heap.size, 6, none⟩ (.int .i64 (t % 4096))).setCell ⟨w.heap.size, 7, none⟩ (.bool false)).setCell ⟨w.heap.size, 8, none⟩ (.int .u64 a)) := (Rm.set (Rm.set (Rm.set (Rm.set (Rm.set (Rm.set (Rm.set (Rm.set (Rm.set Rw11 _) _) _) _) _) _) _) _) _)
  have kX : Bh w (w.heap.size + 2) (((((((((w1.setCell ⟨w.heap.size, 0, none⟩ (.bool tg)).setCell ⟨w.heap.size, 1, none⟩ (.int .i64 pe)).setCell ⟨w.heap.size, 2, none⟩ (.int .i64 ty)).setCell ⟨w.heap.size, 3, none⟩ (.int .i64 mo)).setCell ⟨w.heap.size, 4, none⟩ (.int .i64 E)).setCell ⟨w.heap.size, 5, none⟩ (.int .i64 (b % 16384))).setCell ⟨w.heap.size, 6, none⟩ (.int .i64 (t % 4096))).setCell ⟨w.heap.size, 7, none⟩ (.bool false)).setCell ⟨w.heap.size, 8, none⟩ (.int .u64 a)) := (Bh.set2 (Bh.set2 (Bh.set2 (Bh.set2 (Bh.set2 (Bh.set2 (Bh.set2 (Bh.set2 (Bh.set2 kbw1 (Nat.le_refl _)) (Nat.le_refl _)) (Nat.le_refl _)) (Nat.le_refl _)) (Nat.le_refl _)) (Nat.le_refl _)) (Nat.le_refl _)) (Nat.le_refl _)) (Nat.le_refl _))
  generalize (((((((((w1.setCell ⟨w.heap.size, 0, none⟩ (.bool tg)).setCell ⟨w.heap.size, 1, none⟩ (.int .i64 pe)).setCell ⟨w.heap.size, 2, none⟩ (.int .i64 ty)).setCell ⟨w.heap.size, 3, none⟩ (.int .i64 mo)).setCell ⟨w.heap.size, 4, none⟩ (.int .i64 E)).setCell ⟨w.heap.size, 5, none⟩ (.int .i64 (b % 16384))).setCell ⟨w.heap.size, 6, none⟩ (.int .i64 (t % 4096))).setCell ⟨w.heap.size, 7, none⟩ (.bool false)).setCell ⟨w.heap.size, 8, none⟩ (.int .u64 a)) = w2 at AX RX0 RX1 kX ⊢
  obtain ⟨_, _, _, _, _, _, _, _, _⟩ := AX.out9
  obtain ⟨⟨_, _⟩, _, ⟨_, _⟩, _, ⟨_, _⟩, _, ⟨_, _⟩, _, ⟨_, _⟩, _, ⟨_, _⟩, _, ⟨_, _⟩, _, ⟨_, _⟩, _, ⟨_, _⟩, _⟩ := RX0.out9
  obtain ⟨⟨_, _⟩, _, ⟨_, _⟩, _, ⟨_, _⟩, _, ⟨_, _⟩, _, ⟨_, _⟩, _, ⟨_, _⟩, _, ⟨_, _⟩, _, ⟨_, _⟩, _, ⟨_, _⟩, _⟩ := RX1.out9
  clear kbw1 Rw10 Rw11
  go_wp2_with (first
    | (go_at_call 18; (with_reducible refine (pick_65536 _ p0 p1 _).mono ?_); rintro e' w' ⟨rfl, rfl⟩)
    | (go_at_call 18; (with_reducible refine (pick_262144 _ y0 y1 _).mono ?_); rintro e' w' ⟨rfl, rfl⟩)
    | (go_at_call 18; (with_reducible refine (pick_2 _ o0 o1 _).mono ?_); rintro e' w' ⟨rfl, rfl⟩))
  refine bodyPost_ret (v := .agg #[.bool tg, .int .i64 (pe % 65536), .int .i64 (ty % 262144), .int .i64 (mo % 2), .int .i64 E, .int .i64 (b % 16384), .int .i64 (t % 4096), .bool false, .int .u64 a]) ?_ rfl ⟨rfl, ?_⟩
  · simp [results, Try.results6, go_sem, *]
  · repeat' (first | with_reducible refine Kp.setCell ?_ ?_ _ | with_reducible refine Kp.allocs ?_ _ _)
    all_goals first | exact kX.kp | (dsimp only; omega)
set_option maxHeartbeats 4000000 in
set_option maxRecDepth 100000 in
theorem right_true (tg : Bool) (pe ty mo e b t : Int) (a : Int) (p0 : -9223372036854775808 ≤ pe) (p1 : pe < 9223372036854775808) (y0 : -9223372036854775808 ≤ ty) (y1 : ty < 9223372036854775808) (o0 : -9223372036854775808 ≤ mo) (o1 : mo < 9223372036854775808) (e0 : -9223372036854775808 ≤ e) (e1 : e < 9223372036854775808) (b0 : -9223372036854775808 ≤ b) (b1 : b < 9223372036854775808) (t0 : -9223372036854775808 ≤ t) (t1 : t < 9223372036854775808) (E : Int) (hE : mayE e true = E) (w : World) :
    Calls Try.prog 6 #[.agg #[.bool tg, .int .i64 pe, .int .i64 ty, .int .i64 mo, .int .i64 e, .int .i64 b, .int .i64 t, .bool true, .int .u64 a]] w fun e' w' => e' = .returned (.agg #[.bool tg, .int .i64 (pe % 65536), .int .i64 (ty % 262144), .int .i64 (mo % 2), .int .i64 E, .int .i64 (bits .andNot .i64 (b % 16384) 7), .int .i64 (bits .andNot .i64 (t % 4096) 7), .bool true, .int .u64 a]) ∧ Kp w w' := by
  have cm : ∀ w : World, Calls Try.prog 17 #[.agg #[.bool tg, .int .i64 pe, .int .i64 ty, .int .i64 mo, .int .i64 e, .int .i64 b, .int .i64 t, .bool true, .int .u64 a]] w fun e' w' => e' = .returned (.agg #[.bool tg, .int .i64 pe, .int .i64 ty, .int .i64 mo, .int .i64 E, .int .i64 (b % 16384), .int .i64 (t % 4096), .bool true, .int .u64 a]) ∧ Kp w w' := fun w => by
    have c := may_w tg pe ty mo e b t true a b0 b1 t0 t1 e0 e1 w
    rw [hE] at c; exact c
  have CM := Lib.hid cm
  clear cm hE
  have A0 : At (w.heap.size) [.bool tg, .int .i64 pe, .int .i64 ty, .int .i64 mo, .int .i64 e, .int .i64 b, .int .i64 t, .bool true, .int .u64 a] ((w.alloc (.cells #[.bool tg, .int .i64 pe, .int .i64 ty, .int .i64 mo, .int .i64 e, .int .i64 b, .int .i64 t, .bool true, .int .u64 a] 24)).alloc (.cells #[.bool false, .int .i64 0, .int .i64 0, .int .i64 0, .int .i64 0, .int .i64 0, .int .i64 0, .bool false, .int .u64 0] 24)) := ((At.new' w [.bool tg, .int .i64 pe, .int .i64 ty, .int .i64 mo, .int .i64 e, .int .i64 b, .int .i64 t, .bool true, .int .u64 a] 24 (by simp)).alloc _)
  have R0 : Rm (w.heap.size) 9 ((w.alloc (.cells #[.bool tg, .int .i64 pe, .int .i64 ty, .int .i64 mo, .int .i64 e, .int .i64 b, .int .i64 t, .bool true, .int .u64 a] 24)).alloc (.cells #[.bool false, .int .i64 0, .int .i64 0, .int .i64 0, .int .i64 0, .int .i64 0, .int .i64 0, .bool false, .int .u64 0] 24)) := ((Rm.new' w [.bool tg, .int .i64 pe, .int .i64 ty, .int .i64 mo, .int .i64 e, .int .i64 b, .int .i64 t, .bool true, .int .u64 a] 24 9 (by simp) (by simp)).alloc _ _)
  have A1 : At (w.heap.size + 1) [.bool false, .int .i64 0, .int .i64 0, .int .i64 0, .int .i64 0, .int .i64 0, .int .i64 0, .bool false, .int .u64 0] ((w.alloc (.cells #[.bool tg, .int .i64 pe, .int .i64 ty, .int .i64 mo, .int .i64 e, .int .i64 b, .int .i64 t, .bool true, .int .u64 a] 24)).alloc (.cells #[.bool false, .int .i64 0, .int .i64 0, .int .i64 0, .int .i64 0, .int .i64 0, .int .i64 0, .bool false, .int .u64 0] 24)) := (At.new' (w.alloc (.cells #[.bool tg, .int .i64 pe, .int .i64 ty, .int .i64 mo, .int .i64 e, .int .i64 b, .int .i64 t, .bool true, .int .u64 a] 24)) [.bool false, .int .i64 0, .int .i64 0, .int .i64 0, .int .i64 0, .int .i64 0, .int .i64 0, .bool false, .int .u64 0] 24 (by simp))
  have R1 : Rm (w.heap.size + 1) 9 ((w.alloc (.cells #[.bool tg, .int .i64 pe, .int .i64 ty, .int .i64 mo, .int .i64 e, .int .i64 b, .int .i64 t, .bool true, .int .u64 a] 24)).alloc (.cells #[.bool false, .int .i64 0, .int .i64 0, .int .i64 0, .int .i64 0, .int .i64 0, .int .i64 0, .bool false, .int .u64 0] 24)) := (Rm.new' (w.alloc (.cells #[.bool tg, .int .i64 pe, .int .i64 ty, .int .i64 mo, .int .i64 e, .int .i64 b, .int .i64 t, .bool true, .int .u64 a] 24)) [.bool false, .int .i64 0, .int .i64 0, .int .i64 0, .int .i64 0, .int .i64 0, .int .i64 0, .bool false, .int .u64 0] 24 9 (by simp) (by simp))
  have kb : Bh w (w.heap.size + 2) ((w.alloc (.cells #[.bool tg, .int .i64 pe, .int .i64 ty, .int .i64 mo, .int .i64 e, .int .i64 b, .int .i64 t, .bool true, .int .u64 a] 24)).alloc (.cells #[.bool false, .int .i64 0, .int .i64 0, .int .i64 0, .int .i64 0, .int .i64 0, .int .i64 0, .bool false, .int .u64 0] 24)) := ⟨(((Kp.refl w).allocs _ _).allocs _ _), by simp, by simp⟩
  go_enter Try.func6, Try.ntmps6
  go_upto_region 2 with (first
    | (go_at_call 17; (with_reducible refine (CM.out _).mono ?_); rintro e' w1 ⟨rfl, qk⟩; have kbw1 : Bh w (w.heap.size + 2) w1 := Bh.step (by with_reducible assumption) qk; have Rw10 : Rm (w.heap.size) 9 w1 := Rm.kp (by with_reducible assumption) qk (Nat.lt_of_lt_of_le (show w.heap.size < w.heap.size + 2 by omega) (Bh.le (W := w) (by with_reducible assumption))); obtain ⟨⟨_, _⟩, _, ⟨_, _⟩, _, ⟨_, _⟩, _, ⟨_, _⟩, _, ⟨_, _⟩, _, ⟨_, _⟩, _, ⟨_, _⟩, _, ⟨_, _⟩, _, ⟨_, _⟩, _⟩ := Rw10.out9; have Rw11 : Rm (w.heap.size + 1) 9 w1 := Rm.kp (by with_reducible assumption) qk (Nat.lt_of_lt_of_le (show w.heap.size + 1 < w.heap.size + 2 by omega) (Bh.le (W := w) (by with_reducible assumption))); obtain ⟨⟨_, _⟩, _, ⟨_, _⟩, _, ⟨_, _⟩, _, ⟨_, _⟩, _, ⟨_, _⟩, _, ⟨_, _⟩, _, ⟨_, _⟩, _, ⟨_, _⟩, _, ⟨_, _⟩, _⟩ := Rw11.out9; clear qk))
  have AX : At (w.heap.size) [.bool tg, .int .i64 pe, .int .i64 ty, .int .i64 mo, .int .i64 E, .int .i64 (b % 16384), .int .i64 (t % 4096), .bool true, .int .u64 a] (((((((((w1.setCell ⟨w.heap.size, 0, none⟩ (.bool tg)).setCell ⟨w.heap.size, 1, none⟩ (.int .i64 pe)).setCell ⟨w.heap.size, 2, none⟩ (.int .i64 ty)).setCell ⟨w.heap.size, 3, none⟩ (.int .i64 mo)).setCell ⟨w.heap.size, 4, none⟩ (.int .i64 E)).setCell ⟨w.heap.size, 5, none⟩ (.int .i64 (b % 16384))).setCell ⟨w.heap.size, 6, none⟩ (.int .i64 (t % 4096))).setCell ⟨w.heap.size, 7, none⟩ (.bool true)).setCell ⟨w.heap.size, 8, none⟩ (.int .u64 a)) := At.put9 Rw10
  have RX0 : Rm (w.heap.size) 9 (((((((((w1.setCell ⟨w.heap.size, 0, none⟩ (.bool tg)).setCell ⟨w.heap.size, 1, none⟩ (.int .i64 pe)).setCell ⟨w.heap.size, 2, none⟩ (.int .i64 ty)).setCell ⟨w.heap.size, 3, none⟩ (.int .i64 mo)).setCell ⟨w.heap.size, 4, none⟩ (.int .i64 E)).setCell ⟨w.heap.size, 5, none⟩ (.int .i64 (b % 16384))).setCell ⟨w.heap.size, 6, none⟩ (.int .i64 (t % 4096))).setCell ⟨w.heap.size, 7, none⟩ (.bool true)).setCell ⟨w.heap.size, 8, none⟩ (.int .u64 a)) := (Rm.set (Rm.set (Rm.set (Rm.set (Rm.set (Rm.set (Rm.set (Rm.set (Rm.set Rw10 _) _) _) _) _) _) _) _) _)
  have RX1 : Rm (w.heap.size + 1) 9 (((((((((w1.setCell ⟨w.heap.size, 0, none⟩ (.bool tg)).setCell ⟨w.heap.size, 1, none⟩ (.int .i64 pe)).setCell ⟨w.heap.size, 2, none⟩ (.int .i64 ty)).setCell ⟨w.heap.size, 3, none⟩ (.int .i64 mo)).setCell ⟨w.heap.size, 4, none⟩ (.int .i64 E)).setCell ⟨w.heap.size, 5, none⟩ (.int .i64 (b % 16384))).setCell ⟨w.heap.size, 6, none⟩ (.int .i64 (t % 4096))).setCell ⟨w.heap.size, 7, none⟩ (.bool true)).setCell ⟨w.heap.size, 8, none⟩ (.int .u64 a)) := (Rm.set (Rm.set (Rm.set (Rm.set (Rm.set (Rm.set (Rm.set (Rm.set (Rm.set Rw11 _) _) _) _) _) _) _) _) _)
  have kX : Bh w (w.heap.size + 2) (((((((((w1.setCell ⟨w.heap.size, 0, none⟩ (.bool tg)).setCell ⟨w.heap.size, 1, none⟩ (.int .i64 pe)).setCell ⟨w.heap.size, 2, none⟩ (.int .i64 ty)).setCell ⟨w.heap.size, 3, none⟩ (.int .i64 mo)).setCell ⟨w.heap.size, 4, none⟩ (.int .i64 E)).setCell ⟨w.heap.size, 5, none⟩ (.int .i64 (b % 16384))).setCell ⟨w.heap.size, 6, none⟩ (.int .i64 (t % 4096))).setCell ⟨w.heap.size, 7, none⟩ (.bool true)).setCell ⟨w.heap.size, 8, none⟩ (.int .u64 a)) := (Bh.set2 (Bh.set2 (Bh.set2 (Bh.set2 (Bh.set2 (Bh.set2 (Bh.set2 (Bh.set2 (Bh.set2 kbw1 (Nat.le_refl _)) (Nat.le_refl _)) (Nat.le_refl _)) (Nat.le_refl _)) (Nat.le_refl _)) (Nat.le_refl _)) (Nat.le_refl _)) (Nat.le_refl _)) (Nat.le_refl _))
  generalize (((((((((w1.setCell ⟨w.heap.size, 0, none⟩ (.bool tg)).setCell ⟨w.heap.size, 1, none⟩ (.int .i64 pe)).setCell ⟨w.heap.size, 2, none⟩ (.int .i64 ty)).setCell ⟨w.heap.size, 3, none⟩ (.int .i64 mo)).setCell ⟨w.heap.size, 4, none⟩ (.int .i64 E)).setCell ⟨w.heap.size, 5, none⟩ (.int .i64 (b % 16384))).setCell ⟨w.heap.size, 6, none⟩ (.int .i64 (t % 4096))).setCell ⟨w.heap.size, 7, none⟩ (.bool true)).setCell ⟨w.heap.size, 8, none⟩ (.int .u64 a)) = w2 at AX RX0 RX1 kX ⊢
  obtain ⟨_, _, _, _, _, _, _, _, _⟩ := AX.out9
  obtain ⟨⟨_, _⟩, _, ⟨_, _⟩, _, ⟨_, _⟩, _, ⟨_, _⟩, _, ⟨_, _⟩, _, ⟨_, _⟩, _, ⟨_, _⟩, _, ⟨_, _⟩, _, ⟨_, _⟩, _⟩ := RX0.out9
  obtain ⟨⟨_, _⟩, _, ⟨_, _⟩, _, ⟨_, _⟩, _, ⟨_, _⟩, _, ⟨_, _⟩, _, ⟨_, _⟩, _, ⟨_, _⟩, _, ⟨_, _⟩, _, ⟨_, _⟩, _⟩ := RX1.out9
  clear kbw1 Rw10 Rw11
  go_wp2_with (first
    | (go_at_call 18; (with_reducible refine (pick_65536 _ p0 p1 _).mono ?_); rintro e' w' ⟨rfl, rfl⟩)
    | (go_at_call 18; (with_reducible refine (pick_262144 _ y0 y1 _).mono ?_); rintro e' w' ⟨rfl, rfl⟩)
    | (go_at_call 18; (with_reducible refine (pick_2 _ o0 o1 _).mono ?_); rintro e' w' ⟨rfl, rfl⟩))
  refine bodyPost_ret (v := .agg #[.bool tg, .int .i64 (pe % 65536), .int .i64 (ty % 262144), .int .i64 (mo % 2), .int .i64 E, .int .i64 (bits .andNot .i64 (b % 16384) 7), .int .i64 (bits .andNot .i64 (t % 4096) 7), .bool true, .int .u64 a]) ?_ rfl ⟨rfl, ?_⟩
  · simp [results, Try.results6, go_sem, *]
  · repeat' (first | with_reducible refine Kp.setCell ?_ ?_ _ | with_reducible refine Kp.allocs ?_ _ _)
    all_goals first | exact kX.kp | (dsimp only; omega)
theorem right_ex (tg : Bool) (pe ty mo e b t : Int) (g : Bool) (a : Int) (p0 : -9223372036854775808 ≤ pe) (p1 : pe < 9223372036854775808) (y0 : -9223372036854775808 ≤ ty) (y1 : ty < 9223372036854775808) (o0 : -9223372036854775808 ≤ mo) (o1 : mo < 9223372036854775808) (e0 : -9223372036854775808 ≤ e) (e1 : e < 9223372036854775808) (b0 : -9223372036854775808 ≤ b) (b1 : b < 9223372036854775808) (t0 : -9223372036854775808 ≤ t) (t1 : t < 9223372036854775808) (a0 : 0 ≤ a) (a1 : a < 18446744073709551616) :
    ∃ P Y O E B T : Int, Rt P Y O E B T a ∧ ∀ w : World, Calls Try.prog 6 #[.agg #[.bool tg, .int .i64 pe, .int .i64 ty, .int .i64 mo, .int .i64 e, .int .i64 b, .int .i64 t, .bool g, .int .u64 a]] w fun e' w' => e' = .returned (.agg #[.bool tg, .int .i64 P, .int .i64 Y, .int .i64 O, .int .i64 E, .int .i64 B, .int .i64 T, .bool g, .int .u64 a]) ∧ Kp w w' := by
  cases g
  · exact ⟨pe % 65536, ty % 262144, mo % 2, 0, b % 16384, t % 4096, ⟨by omega, by omega, by omega, by omega, by omega, by omega, ⟨by omega, by omega, by omega, by omega, by omega, by omega, a0, a1⟩⟩, fun w => right_false tg pe ty mo e b t a p0 p1 y0 y1 o0 o1 e0 e1 b0 b1 t0 t1 0 rfl w⟩
  · have hb := andNot_bd (b % 16384) 7 (by omega) 14 (by omega) (by simp; omega)
    have ht := andNot_bd (t % 4096) 7 (by omega) 12 (by omega) (by simp; omega)
    simp only [show ((2 ^ 14 : Nat) : Int) = 16384 from rfl, show ((2 ^ 12 : Nat) : Int) = 4096 from rfl] at hb ht
    exact ⟨pe % 65536, ty % 262144, mo % 2, e % 53, bits .andNot .i64 (b % 16384) 7, bits .andNot .i64 (t % 4096) 7, ⟨by omega, by omega, by omega, by omega, by omega, by omega, ⟨by omega, by omega, hb.1, hb.2, ht.1, ht.2, a0, a1⟩⟩, fun w => right_true tg pe ty mo e b t a p0 p1 y0 y1 o0 o1 e0 e1 b0 b1 t0 t1 (e % 53) rfl w⟩
end Go.Proofs.Ytikibfpfieoabaa
