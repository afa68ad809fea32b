/-
  Contracts of capops' small functions: Sealed, open, taggedIf, permits, base, span, inOrder, one; and of capenc's Number and Root, as layer 5 calls them. Bounds' fields are in their places; numbers are within their types.
-/
import Derived.Test.YtkddgjaflcjhiaaBFits
import Derived.Test.YtkddgjaflcjhiaaCapEq
namespace Go.Proofs.Ytkddgjaflcjhiaa
open Go.ChangeShapes Go.WideShapes Go.ChangeAt Go.RowKit
set_option linter.unusedVariables false
set_option linter.unusedSimpArgs false

/-- Bounds' fields in their places. -/
structure Fld (e b t a : Int) : Prop where
  e0 : 0 ≤ e
  e1 : e ≤ 52
  b0 : 0 ≤ b
  b1 : b < 16384
  t0 : 0 ≤ t
  t1 : t < 4096
  a0 : 0 ≤ a
  a1 : a < 18446744073709551616
theorem Fld.at {e b t a x : Int} (h : Fld e b t a) (x0 : 0 ≤ x) (x1 : x < 18446744073709551616) : Fld e b t x := ⟨h.e0, h.e1, h.b0, h.b1, h.t0, h.t1, x0, x1⟩
def sealedB (ty : Int) : Bool := !(ty == 262143)
def openB (tg : Bool) (ty : Int) : Bool := tg && (ty == 262143)
/-- Are all of k's permissions pe's? -/
def perB (pe k : Int) : Bool := bits .andNot .i64 k pe == 0
def spT (a n : Int) : Int := (a + n) % 18446744073709551616
def spO (a n : Int) : Bool := decide (18446744073709551616 ≤ a + n)
def ordB (b t : Int) (o : Bool) : Bool := o || decide (b ≤ t)

theorem fld_base (b t : Int) (o : Bool) (w : World) : (Instr.field 39 (.agg #[.int .u64 b, .int .u64 t, o]) 0).run Try.prog w = .ok (.int .u64 b) w := by
  simp [Instr.field, run_underlying Try.underlying39, part, go_sem, Result.andThen, asAgg]
theorem fld_tag (a0 : Bool) (a1 a2 a3 a4 a5 a6 : Int) (a7 : Bool) (a8 : Int) (w : World) : (Instr.field 25 (.agg #[a0, a1, a2, a3, a4, a5, a6, a7, .int .u64 a8]) 0).run Try.prog w = .ok (.bool a0) w := by
  simp [Instr.field, run_underlying Try.underlying25, part, go_sem, Result.andThen, asAgg]
theorem of_c (tg : Bool) (pe ty mo e b t : Int) (g : Bool) (a : Int) (h : Fld e b t a) (w : World) :
    Calls Try.prog 16 #[.agg #[tg, pe, ty, mo, e, b, t, g, .int .u64 a]] w fun e' w' => e' = .returned (.agg #[.int .u64 (ofB e b a), .int .u64 (ofT e b t g a), .bool (ofO e b t g a)]) ∧ Kp w w' :=
  of_w tg pe ty mo e b t g a h.e0 h.e1 h.b0 h.b1 h.t0 h.t1 h.a0 h.a1 w
theorem fits_c (tg : Bool) (pe ty mo e b t : Int) (g : Bool) (a : Int) (x : Int) (h : Fld e b t a) (x0 : 0 ≤ x) (x1 : x < 18446744073709551616) (v : Bool) (hv : fitsV e b t g a x = v) (w : World) :
    Calls Try.prog 73 #[.agg #[tg, pe, ty, mo, e, b, t, g, .int .u64 a], .int .u64 x] w fun e' w' => e' = .returned (.bool v) ∧ Kp w w' :=
  fitsC_w tg pe ty mo e b t g a x h.e0 h.e1 h.b0 h.b1 h.t0 h.t1 h.a0 h.a1 x0 x1 v hv w
theorem within_c (b t : Int) (o : Bool) (c u : Int) (p : Bool) (t0 : 0 ≤ t) (t1 : t < 18446744073709551616) (u0 : 0 ≤ u) (u1 : u < 18446744073709551616) (x : Bool) (h : withinB b t o c u p = x) (w : World) :
    Calls Try.prog 17 #[.agg #[.int .u64 b, .int .u64 t, o], .agg #[.int .u64 c, .int .u64 u, p]] w fun e' w' => e' = .returned (.bool x) ∧ Kp w w' := by
  rw [← h]; exact within_w b t o c u p t0 t1 u0 u1 w
theorem in_c (b t : Int) (o : Bool) (a n : Int) (t0 : 0 ≤ t) (t1 : t < 18446744073709551616) (a0 : 0 ≤ a) (a1 : a < 18446744073709551616) (n0 : -9223372036854775808 ≤ n) (n1 : n < 9223372036854775808) (x : Bool) (h : inB b t o a n = x) (w : World) :
    Calls Try.prog 92 #[.agg #[.int .u64 b, .int .u64 t, o], .int .u64 a, n] w fun e' w' => e' = .returned (.bool x) ∧ Kp w w' := by
  rw [← h]; exact in_w b t o a n t0 t1 a0 a1 n0 n1 w
theorem sealed_w (tg : Bool) (pe ty mo e b t : Int) (g : Bool) (a : Int) (v : Bool) (hv : sealedB ty = v) (w : World) :
    Calls Try.prog 34 #[.agg #[tg, pe, ty, mo, e, b, t, g, .int .u64 a]] w fun e' w' => e' = .returned (.bool v) ∧ Kp w w' := by
  subst hv
  go_enter Try.func34, Try.ntmps34
  go_wp2
  go_ret
  exact ⟨ret_bool (by simp [sealedB] <;> rfl), (Kp.refl w).allocs _ _⟩
theorem open_w (tg : Bool) (pe ty mo e b t : Int) (g : Bool) (a : Int) (v : Bool) (hv : openB tg ty = v) (w : World) :
    Calls Try.prog 19 #[.agg #[tg, pe, ty, mo, e, b, t, g, .int .u64 a]] w fun e' w' => e' = .returned (.bool v) ∧ Kp w w' := by
  cases tg
  · obtain rfl : false = v := hv
    go_enter Try.func19, Try.ntmps19
    go_wp2
    go_ret
    exact ⟨rfl, (Kp.refl w).allocs _ _⟩
  · have hs : sealedB ty = !v := by rw [← hv]; simp [sealedB, openB]
    have HV := Lib.hid hv
    clear hv
    go_enter Try.func19, Try.ntmps19
    go_wp2_with (go_at_call 34; (with_reducible refine (sealed_w _ _ _ _ _ _ _ _ _ _ hs _).mono ?_); rintro e' w1 ⟨rfl, qk⟩; have HK := Lib.hid qk; clear qk)
    go_ret
    exact ⟨ret_bool (by simp), ((Kp.refl w).allocs _ _).trans HK.out⟩
theorem tagged_w (tg : Bool) (pe ty mo e b t : Int) (g : Bool) (a : Int) (so v : Bool) (hv : (tg && so) = v) (w : World) :
    Calls Try.prog 18 #[.agg #[tg, pe, ty, mo, e, b, t, g, .int .u64 a], so] w fun e' w' => e' = .returned (.agg #[v, pe, ty, mo, e, b, t, g, .int .u64 a]) ∧ Kp w w' := by
  subst hv
  cases tg
  all_goals
    go_enter Try.func18, Try.ntmps18
    go_wp2
    refine bodyPost_ret ?_ rfl ⟨rfl, ?_⟩
    · simp [results, Try.results18, go_sem, *]
    · repeat' (first | with_reducible refine Kp.setCell ?_ ?_ _ | with_reducible refine Kp.allocs ?_ _ _)
      all_goals first | exact Kp.refl w | (dsimp only; omega) | (simp; done)
theorem permits_w (tg : Bool) (pe ty mo e b t : Int) (g : Bool) (a : Int) (k : Int) (v : Bool) (hv : perB pe k = v) (w : World) :
    Calls Try.prog 76 #[.agg #[tg, pe, ty, mo, e, b, t, g, .int .u64 a], k] w fun e' w' => e' = .returned (.bool v) ∧ Kp w w' := by
  subst hv
  go_enter Try.func76, Try.ntmps76
  go_wp2
  go_ret
  exact ⟨ret_bool rfl, (Kp.refl w).allocs _ _⟩
theorem base_w (tg : Bool) (pe ty mo e b t : Int) (g : Bool) (a : Int) (h : Fld e b t a) (w : World) :
    Calls Try.prog 91 #[.agg #[tg, pe, ty, mo, e, b, t, g, .int .u64 a]] w fun e' w' => e' = .returned (.int .u64 (ofB e b a)) ∧ Kp w w' := by
  obtain ⟨B, hB⟩ : ∃ B, ofB e b a = B := ⟨_, rfl⟩
  have c : ∀ w : World, Calls Try.prog 16 #[.agg #[tg, pe, ty, mo, e, b, t, g, .int .u64 a]] w fun e' w' => e' = .returned (.agg #[.int .u64 B, .int .u64 (ofT e b t g a), .bool (ofO e b t g a)]) ∧ Kp w w' := fun w => by
    have c := of_c tg pe ty mo e b t g a h w
    rw [hB] at c; exact c
  rw [hB]
  have C := Lib.hid c
  clear c hB
  have fB := fld_base
  go_enter Try.func91, Try.ntmps91
  go_wp2_with (go_at_call 16; (with_reducible refine (C.out _).mono ?_); rintro e' w1 ⟨rfl, qk⟩; have HK := Lib.hid qk; clear qk)
  go_ret
  exact ⟨rfl, ((Kp.refl w).allocs _ _).trans HK.out⟩
theorem span_w (a n : Int) (a0 : 0 ≤ a) (a1 : a < 18446744073709551616) (n0 : 0 ≤ n) (n1 : n < 18446744073709551616) (w : World) :
    Calls Try.prog 15 #[.int .u64 a, .int .u64 n] w fun e' w' => e' = .returned (.agg #[.int .u64 a, .int .u64 (spT a n), .bool (spO a n)]) ∧ Kp w w' := by
  go_enter Try.func15, Try.ntmps15
  go_wp2_with (simp only [add64_run a n a0 n0])
  refine bodyPost_ret (v := .agg #[.int .u64 a, .int .u64 ((a + n) % 18446744073709551616), .bool ((a + n) / 18446744073709551616 == 1)]) (by simp [results, Try.results15, go_sem]) rfl ⟨?_, ?_⟩
  · have : ((a + n) / 18446744073709551616 == 1) = spO a n := by
      rw [Bool.eq_iff_iff]; simp only [beq_iff_eq, spO, decide_eq_true_eq]; omega
    rw [this]; rfl
  · repeat' (first | with_reducible refine Kp.setCell ?_ ?_ _ | with_reducible refine Kp.allocs ?_ _ _)
    all_goals first | exact Kp.refl w | (dsimp only; omega) | (simp; done)
theorem inOrder_w (b t : Int) (o v : Bool) (hv : ordB b t o = v) (w : World) :
    Calls Try.prog 90 #[.agg #[.int .u64 b, .int .u64 t, o]] w fun e' w' => e' = .returned (.bool v) ∧ Kp w w' := by
  subst hv
  cases o
  all_goals
    go_enter Try.func90, Try.ntmps90
    go_wp2
    go_ret
    exact ⟨ret_bool (by simp [ordB]), (Kp.refl w).allocs _ _⟩
theorem number_w (n : Int) (w : World) :
    Calls Try.prog 6 #[.int .u64 n] w fun e' w' => e' = .returned (.agg #[false, (), .int .i64 262143, (), .int .i64 52, (), (), true, .int .u64 n]) ∧ Kp w w' := by
  go_enter Try.func6, Try.ntmps6
  go_wp2
  exact bodyPost_ret (v := .agg #[false, (), .int .i64 262143, (), .int .i64 52, (), (), true, .int .u64 n]) (by simp [results, Try.results6, go_sem]) rfl ⟨rfl, by (repeat' (first | with_reducible refine Kp.setCell ?_ ?_ _ | with_reducible refine Kp.allocs ?_ _ _)); all_goals first | exact Kp.refl w | (dsimp only; omega)⟩
theorem root_0 (n : Int) (w : World) :
    Calls Try.prog 4 #[(), .int .u64 n] w fun e' w' => e' = .returned (.agg #[true, .int .i64 65535, .int .i64 262143, (), .int .i64 52, (), (), true, .int .u64 n]) ∧ Kp w w' := by
  have k11 : ∀ n : Nat, n < n + 1 + 1 := fun n => by omega
  go_enter Try.func4, Try.ntmps4
  go_wp2_with (first
    | (go_at_call 6; (with_reducible refine (number_w _ _).mono ?_); rintro e' w1 ⟨rfl, qk⟩; have HKw1 := Lib.hid qk; have qw10 : w1.cell? ⟨w.heap.size, 0, none⟩ = some (.bool false) := qk.c; have qw11 : w1.cell? ⟨w.heap.size, 1, none⟩ = some (.int .i64 0) := qk.c; have qw12 : w1.cell? ⟨w.heap.size, 2, none⟩ = some (.int .i64 0) := qk.c; have qw13 : w1.cell? ⟨w.heap.size, 3, none⟩ = some (.int .i64 0) := qk.c; have qw14 : w1.cell? ⟨w.heap.size, 4, none⟩ = some (.int .i64 0) := qk.c; have qw15 : w1.cell? ⟨w.heap.size, 5, none⟩ = some (.int .i64 0) := qk.c; have qw16 : w1.cell? ⟨w.heap.size, 6, none⟩ = some (.int .i64 0) := qk.c; have qw17 : w1.cell? ⟨w.heap.size, 7, none⟩ = some (.bool false) := qk.c; have qw18 : w1.cell? ⟨w.heap.size, 8, none⟩ = some (.int .u64 0) := qk.c; have zw10 : w1.frozen? ⟨w.heap.size, 0, none⟩ = false := qk.z; have zw11 : w1.frozen? ⟨w.heap.size, 1, none⟩ = false := qk.z; have zw12 : w1.frozen? ⟨w.heap.size, 2, none⟩ = false := qk.z; have zw13 : w1.frozen? ⟨w.heap.size, 3, none⟩ = false := qk.z; have zw14 : w1.frozen? ⟨w.heap.size, 4, none⟩ = false := qk.z; have zw15 : w1.frozen? ⟨w.heap.size, 5, none⟩ = false := qk.z; have zw16 : w1.frozen? ⟨w.heap.size, 6, none⟩ = false := qk.z; have zw17 : w1.frozen? ⟨w.heap.size, 7, none⟩ = false := qk.z; have zw18 : w1.frozen? ⟨w.heap.size, 8, none⟩ = false := qk.z; have sz := qk.size; (try simp at sz); have KW := Lib.hid (Kp.trans ((Kp.refl w).allocs _ _) qk); have ql0 : w.heap.size < w1.heap.size := (by omega); have ql1 : ¬ w.heap.size = w1.heap.size := (by omega); have ql2 : ¬ w1.heap.size = w.heap.size := (by omega); clear qk))
  refine bodyPost_ret (v := .agg #[true, .int .i64 65535, .int .i64 262143, (), .int .i64 52, (), (), true, .int .u64 n]) ?_ rfl ⟨rfl, ?_⟩
  · simp [results, Try.results4, go_sem, *]
  · repeat' (first | with_reducible refine Kp.setCell ?_ ?_ _ | with_reducible refine Kp.allocs ?_ _ _)
    all_goals first | exact KW.out | (dsimp only; omega)
end Go.Proofs.Ytkddgjaflcjhiaa
