/-
  The program's time in memory: three numbers; which part of which one a register is; the atomic calls. No condition.
-/
import Derived.Test.YtikibfpfieoabaaTSpec
import Derived.Test.YtikibfpfieoabaaFrAt
import Derived.StillTailTactics
import Derived.Laws.LoneSync
namespace Go.Proofs.Ytikibfpfieoabaa
open Go.ChangeShapes Go.WideShapes Go.ChangeAt Go.RowKit
set_option linter.unusedVariables false
set_option linter.unusedSimpArgs false
theorem cell_othC {w : World} {g i j : Nat} {u : Value} {v : Option Value} (h : w.cell? ⟨g, i, none⟩ = v) (e : i ≠ j) : (w.setCell ⟨g, j, none⟩ u).cell? ⟨g, i, none⟩ = v := by
  rw [World.cell?_setCell_other w ⟨g, j, none⟩ ⟨g, i, none⟩ u (fun x => e (by cases x; rfl))]; exact h
theorem cell_selfC {w : World} {g i : Nat} {u v : Value} (h : w.cell? ⟨g, i, none⟩ = some v) : (w.setCell ⟨g, i, none⟩ u).cell? ⟨g, i, none⟩ = some u := by simp [go_sem, h]
/-- The program's: the time, the alarm, the bell. -/
structure CT (w : World) (g : Nat) (S : TS) : Prop where
  lt : g < w.heap.size
  fz : ∀ j, w.frozen? ⟨g, j, none⟩ = false
  c0 : w.cell? ⟨g, 0, none⟩ = some (.int .u64 S.now)
  c1 : w.cell? ⟨g, 1, none⟩ = some (.int .u64 S.al)
  c2 : w.cell? ⟨g, 2, none⟩ = some (.int .u64 S.bell)
theorem CT.block {w w' : World} {g : Nat} {S : TS} (m : CT w g S) (hs : w.heap.size ≤ w'.heap.size) (e : w'.heap[g]? = w.heap[g]?) : CT w' g S := by
  have c : ∀ j, w'.cell? ⟨g, j, none⟩ = w.cell? ⟨g, j, none⟩ := fun j => World.cell?_of_block e
  exact ⟨Nat.lt_of_lt_of_le m.lt hs, fun j => (World.frozen?_of_block (a := ⟨g, j, none⟩) e).trans (m.fz j), (c _).trans m.c0, (c _).trans m.c1, (c _).trans m.c2⟩
theorem CT.fr {w w' : World} {g : Nat} {S : TS} {R : Nat → Prop} (m : CT w g S) (k : Fr w w' R) (h : ¬ R g) : CT w' g S := m.block k.size (k.block g m.lt h)
theorem CT.below {w w' : World} {g : Nat} {S : TS} (m : CT w g S) (k : Below w.heap.size w w') : CT w' g S := m.block k.size (k.block g m.lt)
theorem CT.kp {w w' : World} {g : Nat} {S : TS} (m : CT w g S) (k : Kp w w') : CT w' g S := m.below k.1
theorem CT.drew {w : World} {g : Nat} {S : TS} (m : CT w g S) : CT w.drew g S := ⟨m.lt, m.fz, m.c0, m.c1, m.c2⟩
theorem CT.set0 {w : World} {g : Nat} {S : TS} (m : CT w g S) (x : Int) : CT (w.setCell ⟨g, 0, none⟩ (.int .u64 x)) g { S with now := x } :=
  ⟨by simpa [World.setCell] using m.lt, fun j => by rw [World.frozen?_setCell]; exact m.fz j, cell_selfC m.c0, cell_othC m.c1 (by decide), cell_othC m.c2 (by decide)⟩
theorem CT.set1 {w : World} {g : Nat} {S : TS} (m : CT w g S) (x : Int) : CT (w.setCell ⟨g, 1, none⟩ (.int .u64 x)) g { S with al := x } :=
  ⟨by simpa [World.setCell] using m.lt, fun j => by rw [World.frozen?_setCell]; exact m.fz j, cell_othC m.c0 (by decide), cell_selfC m.c1, cell_othC m.c2 (by decide)⟩
theorem CT.set2 {w : World} {g : Nat} {S : TS} (m : CT w g S) (b : Bool) (x : Int) (hx : x = if b = true then 1 else 0) : CT (w.setCell ⟨g, 2, none⟩ (.int .u64 x)) g { S with be := b } := by
  subst hx
  exact ⟨by simpa [World.setCell] using m.lt, fun j => by rw [World.frozen?_setCell]; exact m.fz j, cell_othC m.c0 (by decide), cell_othC m.c1 (by decide), cell_selfC m.c2⟩
/-! The numbers. -/
theorem and_all {x : Int} (h0 : 0 ≤ x) (h1 : x < 18446744073709551616) : bits .and .u64 x 18446744073709551615 = x := by
  obtain ⟨x, rfl⟩ := Int.eq_ofNat_of_zero_le h0
  have := bits_and_u64_nat x 18446744073709551615 (by omega) (by decide)
  have e := Nat.and_two_pow_sub_one_eq_mod x 64
  rw [show (2 : Nat) ^ 64 - 1 = 18446744073709551615 from rfl] at e
  rw [e] at this
  refine this.trans ?_
  have : x % 2 ^ 64 = x := Nat.mod_eq_of_lt (by omega)
  rw [this]
theorem and_half {x : Int} (h0 : 0 ≤ x) (h1 : x < 18446744073709551616) : bits .and .u64 x 4294967295 = x % 4294967296 := by
  obtain ⟨x, rfl⟩ := Int.eq_ofNat_of_zero_le h0
  have := bits_and_u64_nat x 4294967295 (by omega) (by decide)
  have e := Nat.and_two_pow_sub_one_eq_mod x 32
  rw [show (2 : Nat) ^ 32 - 1 = 4294967295 from rfl] at e
  rw [e] at this
  refine this.trans ?_
  omega
theorem and_one {x : Int} (h0 : 0 ≤ x) (h1 : x < 18446744073709551616) : bits .and .u64 x 1 = x % 2 := by
  obtain ⟨x, rfl⟩ := Int.eq_ofNat_of_zero_le h0
  have := bits_and_u64_nat x 1 (by omega) (by decide)
  rw [Nat.and_one_is_mod] at this
  refine this.trans ?_
  omega
theorem not_all {x : Int} (h0 : 0 ≤ x) (h1 : x < 18446744073709551616) : bits .andNot .u64 x 18446744073709551615 = 0 := by
  obtain ⟨x, rfl⟩ := Int.eq_ofNat_of_zero_le h0
  have := u64_andNot_nat x 18446744073709551615 (by omega) (by decide)
  refine this.trans ?_
  simp
theorem not_low {x : Int} (h0 : 0 ≤ x) (h1 : x < 18446744073709551616) : bits .andNot .u64 x 4294967295 = x / 4294967296 * 4294967296 := by
  obtain ⟨x, rfl⟩ := Int.eq_ofNat_of_zero_le h0
  have := u64_andNot_nat x 4294967295 (by omega) (by decide)
  refine this.trans ?_
  have e : x &&& (18446744073709551615 - 4294967295) = x / 4294967296 * 4294967296 := by
    apply Nat.eq_of_testBit_eq
    intro i
    have hm : (18446744073709551615 - 4294967295 : Nat) = 2 ^ 32 * (2 ^ 32 - 1) := by decide
    have hd : x / 4294967296 * 4294967296 = 2 ^ 32 * (x / 2 ^ 32) := by omega
    rw [Nat.testBit_and, hm, hd, Nat.testBit_two_pow_mul, Nat.testBit_two_pow_mul, Nat.testBit_two_pow_sub_one, Nat.testBit_div_two_pow]
    by_cases c : 32 ≤ i
    · by_cases d : i < 64
      · simp [c, show i - 32 < 32 by omega, show i - 32 + 32 = i by omega]
      · have hx : x.testBit i = false := Nat.testBit_lt_two_pow (Nat.lt_of_lt_of_le (show x < 2 ^ 64 by omega) (Nat.pow_le_pow_right (by decide) (by omega)))
        simp [c, show i - 32 + 32 = i by omega, hx]
    · simp [c]
  rw [e]; omega
theorem not_high {x : Int} (h0 : 0 ≤ x) (h1 : x < 18446744073709551616) : bits .andNot .u64 x 18446744069414584320 = x % 4294967296 := by
  obtain ⟨x, rfl⟩ := Int.eq_ofNat_of_zero_le h0
  have := u64_andNot_nat x 18446744069414584320 (by omega) (by decide)
  refine this.trans ?_
  have e := Nat.and_two_pow_sub_one_eq_mod x 32
  rw [show (2 : Nat) ^ 32 - 1 = 18446744073709551615 - 18446744069414584320 from rfl] at e
  rw [e]; omega
theorem or_none {x : Int} (h0 : 0 ≤ x) (h1 : x < 18446744073709551616) : bits .or .u64 0 x = x := by
  obtain ⟨x, rfl⟩ := Int.eq_ofNat_of_zero_le h0
  have := bits_or_u64_nat 0 x (by decide) (by omega)
  refine this.trans ?_
  simp
theorem not_one {x : Int} (h0 : 0 ≤ x) (h1 : x < 2) : bits .andNot .u64 x 1 = 0 := by
  rcases (show x = 0 ∨ x = 1 by omega) with rfl | rfl <;> decide
/-! The atomic calls. -/
theorem ald_w {w : World} {g o : Nat} {x : Int} (hc : w.cell? ⟨g, o, none⟩ = some (.int .u64 x)) :
    Calls Try.prog 46 #[.pointer (some ⟨g, o, none⟩)] w fun e w' => e = .returned (.int .u64 x) ∧ w = w' := by
  have hd := run_call_load (P := Try.prog) Try.func54 (by kernel_rfl) (by kernel_rfl) (by kernel_rfl) .u64 (by kernel_rfl) hc
  go_enter Try.func46, Try.ntmps46
  go_wp2
  go_ret
  exact ⟨rfl, rfl⟩
theorem ast_w {w : World} {g o : Nat} {u : Value} (x : Int) (hc : w.cell? ⟨g, o, none⟩ = some u) (hz : w.frozen? ⟨g, o, none⟩ = false) :
    Calls Try.prog 84 #[.pointer (some ⟨g, o, none⟩), .int .u64 x] w fun e w' => e = .returned (.tuple #[]) ∧ w' = w.setCell ⟨g, o, none⟩ (.int .u64 x) := by
  have hd := run_call_store (P := Try.prog) Try.func85 (by kernel_rfl) (by kernel_rfl) (by kernel_rfl) (by kernel_rfl) (k := .u64) (y := x) hc hz
  go_enter Try.func84, Try.ntmps84
  go_wp2
  refine bodyPost_end (v := .tuple #[]) (by simp [results, Try.results84, go_sem]) rfl ⟨rfl, rfl⟩
set_option maxHeartbeats 4000000 in
theorem cfindT_0_4 (w : World) :
    Calls Try.prog 81 #[.int .i64 0, .int .i64 4] w fun e w' => e = .returned (.agg #[.int .i64 1, .int .i64 0, .int .u64 1]) ∧ Kp w w' := by
  go_enter Try.func81, Try.ntmps81
  go_wp2
  refine bodyPost_ret (v := .agg #[.int .i64 1, .int .i64 0, .int .u64 1]) ?_ rfl ⟨rfl, ?_⟩
  · simp [results, Try.results81, go_sem]
  · repeat' (first | with_reducible refine Kp.setCell ?_ ?_ _ | with_reducible refine Kp.allocs ?_ _ _)
    all_goals first | exact Kp.refl w | (dsimp only; omega)
set_option maxHeartbeats 4000000 in
theorem cfindT_16384_8 (w : World) :
    Calls Try.prog 81 #[.int .i64 16384, .int .i64 8] w fun e w' => e = .returned (.agg #[.int .i64 2, .int .i64 0, .int .u64 18446744073709551615]) ∧ Kp w w' := by
  go_enter Try.func81, Try.ntmps81
  go_wp2
  refine bodyPost_ret (v := .agg #[.int .i64 2, .int .i64 0, .int .u64 18446744073709551615]) ?_ rfl ⟨rfl, ?_⟩
  · simp [results, Try.results81, go_sem]
  · repeat' (first | with_reducible refine Kp.setCell ?_ ?_ _ | with_reducible refine Kp.allocs ?_ _ _)
    all_goals first | exact Kp.refl w | (dsimp only; omega)
set_option maxHeartbeats 4000000 in
theorem cfindT_16384_4 (w : World) :
    Calls Try.prog 81 #[.int .i64 16384, .int .i64 4] w fun e w' => e = .returned (.agg #[.int .i64 2, .int .i64 0, .int .u64 4294967295]) ∧ Kp w w' := by
  go_enter Try.func81, Try.ntmps81
  go_wp2
  refine bodyPost_ret (v := .agg #[.int .i64 2, .int .i64 0, .int .u64 4294967295]) ?_ rfl ⟨rfl, ?_⟩
  · simp [results, Try.results81, go_sem]
  · repeat' (first | with_reducible refine Kp.setCell ?_ ?_ _ | with_reducible refine Kp.allocs ?_ _ _)
    all_goals first | exact Kp.refl w | (dsimp only; omega)
set_option maxHeartbeats 4000000 in
theorem cfindT_16388_4 (w : World) :
    Calls Try.prog 81 #[.int .i64 16388, .int .i64 4] w fun e w' => e = .returned (.agg #[.int .i64 2, .int .i64 32, .int .u64 4294967295]) ∧ Kp w w' := by
  go_enter Try.func81, Try.ntmps81
  go_wp2
  refine bodyPost_ret (v := .agg #[.int .i64 2, .int .i64 32, .int .u64 4294967295]) ?_ rfl ⟨rfl, ?_⟩
  · simp [results, Try.results81, go_sem]
  · repeat' (first | with_reducible refine Kp.setCell ?_ ?_ _ | with_reducible refine Kp.allocs ?_ _ _)
    all_goals first | exact Kp.refl w | (dsimp only; omega)
set_option maxHeartbeats 4000000 in
theorem cfindT_49144_8 (w : World) :
    Calls Try.prog 81 #[.int .i64 49144, .int .i64 8] w fun e w' => e = .returned (.agg #[.int .i64 3, .int .i64 0, .int .u64 18446744073709551615]) ∧ Kp w w' := by
  go_enter Try.func81, Try.ntmps81
  go_wp2
  refine bodyPost_ret (v := .agg #[.int .i64 3, .int .i64 0, .int .u64 18446744073709551615]) ?_ rfl ⟨rfl, ?_⟩
  · simp [results, Try.results81, go_sem]
  · repeat' (first | with_reducible refine Kp.setCell ?_ ?_ _ | with_reducible refine Kp.allocs ?_ _ _)
    all_goals first | exact Kp.refl w | (dsimp only; omega)
set_option maxHeartbeats 4000000 in
theorem cfindT_49144_4 (w : World) :
    Calls Try.prog 81 #[.int .i64 49144, .int .i64 4] w fun e w' => e = .returned (.agg #[.int .i64 3, .int .i64 0, .int .u64 4294967295]) ∧ Kp w w' := by
  go_enter Try.func81, Try.ntmps81
  go_wp2
  refine bodyPost_ret (v := .agg #[.int .i64 3, .int .i64 0, .int .u64 4294967295]) ?_ rfl ⟨rfl, ?_⟩
  · simp [results, Try.results81, go_sem]
  · repeat' (first | with_reducible refine Kp.setCell ?_ ?_ _ | with_reducible refine Kp.allocs ?_ _ _)
    all_goals first | exact Kp.refl w | (dsimp only; omega)
set_option maxHeartbeats 4000000 in
theorem cfindT_49148_4 (w : World) :
    Calls Try.prog 81 #[.int .i64 49148, .int .i64 4] w fun e w' => e = .returned (.agg #[.int .i64 3, .int .i64 32, .int .u64 4294967295]) ∧ Kp w w' := by
  go_enter Try.func81, Try.ntmps81
  go_wp2
  refine bodyPost_ret (v := .agg #[.int .i64 3, .int .i64 32, .int .u64 4294967295]) ?_ rfl ⟨rfl, ?_⟩
  · simp [results, Try.results81, go_sem]
  · repeat' (first | with_reducible refine Kp.setCell ?_ ?_ _ | with_reducible refine Kp.allocs ?_ _ _)
    all_goals first | exact Kp.refl w | (dsimp only; omega)
theorem place_eql (a b c d : Int) (w : World) : (binOp .eql 157 (.agg #[.int .i64 a, .int .i64 b]) (.agg #[.int .i64 c, .int .i64 d])).run Try.prog w = .ok (.bool (a == c && b == d)) w := by
  by_cases h1 : a = c
  · by_cases h2 : b = d
    · simp [go_sem, h1, h2]
    · simp [go_sem, h1, h2]
  · simp [go_sem, h1]
set_option maxHeartbeats 4000000 in
theorem cfindT_no (w : World) (off size : Int) (h : rgT off size = false) :
    Calls Try.prog 81 #[.int .i64 off, .int .i64 size] w fun e w' => e = .returned (.agg #[.int .i64 0, .int .i64 0, .int .u64 0]) ∧ Kp w w' := by
  simp only [rgT, Bool.or_eq_false_iff, Bool.and_eq_false_iff, beq_eq_false_iff_ne] at h
  have q0 : ∀ w, (binOp .eql 157 (.agg #[.int .i64 off, .int .i64 size]) (.agg #[.int .i64 0, .int .i64 4])).run Try.prog w = .ok (.bool false) w := fun w => by
    rw [place_eql, show (off == 0 && size == 4) = false by simp; omega]
  have q1 : ∀ w, (binOp .eql 157 (.agg #[.int .i64 off, .int .i64 size]) (.agg #[.int .i64 16384, .int .i64 8])).run Try.prog w = .ok (.bool false) w := fun w => by
    rw [place_eql, show (off == 16384 && size == 8) = false by simp; omega]
  have q2 : ∀ w, (binOp .eql 157 (.agg #[.int .i64 off, .int .i64 size]) (.agg #[.int .i64 16384, .int .i64 4])).run Try.prog w = .ok (.bool false) w := fun w => by
    rw [place_eql, show (off == 16384 && size == 4) = false by simp; omega]
  have q3 : ∀ w, (binOp .eql 157 (.agg #[.int .i64 off, .int .i64 size]) (.agg #[.int .i64 16388, .int .i64 4])).run Try.prog w = .ok (.bool false) w := fun w => by
    rw [place_eql, show (off == 16388 && size == 4) = false by simp; omega]
  have q4 : ∀ w, (binOp .eql 157 (.agg #[.int .i64 off, .int .i64 size]) (.agg #[.int .i64 49144, .int .i64 8])).run Try.prog w = .ok (.bool false) w := fun w => by
    rw [place_eql, show (off == 49144 && size == 8) = false by simp; omega]
  have q5 : ∀ w, (binOp .eql 157 (.agg #[.int .i64 off, .int .i64 size]) (.agg #[.int .i64 49144, .int .i64 4])).run Try.prog w = .ok (.bool false) w := fun w => by
    rw [place_eql, show (off == 49144 && size == 4) = false by simp; omega]
  have q6 : ∀ w, (binOp .eql 157 (.agg #[.int .i64 off, .int .i64 size]) (.agg #[.int .i64 49148, .int .i64 4])).run Try.prog w = .ok (.bool false) w := fun w => by
    rw [place_eql, show (off == 49148 && size == 4) = false by simp; omega]
  clear h
  go_enter Try.func81, Try.ntmps81
  go_wp2
  refine bodyPost_ret (v := .agg #[.int .i64 0, .int .i64 0, .int .u64 0]) ?_ rfl ⟨rfl, ?_⟩
  · simp [results, Try.results81, go_sem]
  · repeat' (first | with_reducible refine Kp.setCell ?_ ?_ _ | with_reducible refine Kp.allocs ?_ _ _)
    all_goals first | exact Kp.refl w | (dsimp only; omega)
set_option maxHeartbeats 4000000 in
theorem creadT_1 {w : World} {g : Nat} {S : TS} (m : CT w g S) :
    Calls Try.prog 82 #[.pointer (some ⟨g, 0, none⟩), .int .i64 1] w fun e w' => e = .returned (.int .u64 S.bell) ∧ w = w' := by
  have c := m.c2
  clear m
  go_enter Try.func82, Try.ntmps82
  go_wp2
  go_ret
  exact ⟨rfl, rfl⟩
set_option maxHeartbeats 4000000 in
theorem cwriteT_1 {w : World} {g : Nat} {S : TS} (m : CT w g S) (x : Int) :
    Calls Try.prog 83 #[.pointer (some ⟨g, 0, none⟩), .int .i64 1, .int .u64 x] w fun e w' => e = .returned (.tuple #[]) ∧ w' = w.setCell ⟨g, 2, none⟩ (.int .u64 x) := by
  have c := m.c2
  have z := m.fz 2
  clear m
  go_enter Try.func83, Try.ntmps83
  go_wp2
  refine bodyPost_end (v := .tuple #[]) (by simp [results, Try.results83, go_sem]) rfl ⟨rfl, rfl⟩
set_option maxHeartbeats 4000000 in
theorem creadT_2 {w : World} {g : Nat} {S : TS} (m : CT w g S) :
    Calls Try.prog 82 #[.pointer (some ⟨g, 0, none⟩), .int .i64 2] w fun e w' => e = .returned (.int .u64 S.al) ∧ w = w' := by
  have c := m.c1
  clear m
  go_enter Try.func82, Try.ntmps82
  go_wp2
  go_ret
  exact ⟨rfl, rfl⟩
set_option maxHeartbeats 4000000 in
theorem cwriteT_2 {w : World} {g : Nat} {S : TS} (m : CT w g S) (x : Int) :
    Calls Try.prog 83 #[.pointer (some ⟨g, 0, none⟩), .int .i64 2, .int .u64 x] w fun e w' => e = .returned (.tuple #[]) ∧ w' = w.setCell ⟨g, 1, none⟩ (.int .u64 x) := by
  have c := m.c1
  have z := m.fz 1
  clear m
  go_enter Try.func83, Try.ntmps83
  go_wp2
  refine bodyPost_end (v := .tuple #[]) (by simp [results, Try.results83, go_sem]) rfl ⟨rfl, rfl⟩
set_option maxHeartbeats 4000000 in
theorem creadT_3 {w : World} {g : Nat} {S : TS} (m : CT w g S) :
    Calls Try.prog 82 #[.pointer (some ⟨g, 0, none⟩), .int .i64 3] w fun e w' => e = .returned (.int .u64 S.now) ∧ w = w' := by
  have c := m.c0
  clear m
  go_enter Try.func82, Try.ntmps82
  go_wp2_with (go_at_call 46; (with_reducible refine (ald_w c).mono ?_); rintro e' w2 ⟨rfl, rfl⟩)
  go_ret
  exact ⟨rfl, rfl⟩
set_option maxHeartbeats 4000000 in
theorem cwriteT_3 {w : World} {g : Nat} {S : TS} (m : CT w g S) (x : Int) :
    Calls Try.prog 83 #[.pointer (some ⟨g, 0, none⟩), .int .i64 3, .int .u64 x] w fun e w' => e = .returned (.tuple #[]) ∧ w' = w.setCell ⟨g, 0, none⟩ (.int .u64 x) := by
  have c := m.c0
  have z := m.fz 0
  clear m
  go_enter Try.func83, Try.ntmps83
  go_wp2_with (go_at_call 84; (with_reducible refine (ast_w _ c z).mono ?_); rintro e' w2 ⟨rfl, rfl⟩)
  refine bodyPost_end (v := .tuple #[]) (by simp [results, Try.results83, go_sem]) rfl ⟨rfl, rfl⟩
end Go.Proofs.Ytikibfpfieoabaa
