/-
  Contracts of the document's answer for layer 4: field, Right, Number, Root, Bits, Pack, Unpack. Numbers are within their types; Bits and Pack of a right capability.
-/
import Derived.Test.YtmakfbpflfdkkaaELaw
namespace Go.Proofs.Ytmakfbpflfdkkaa
open Go.ChangeShapes Go.WideShapes Go.ChangeAt Go.RowKit
set_option linter.unusedVariables false
set_option linter.unusedSimpArgs false

theorem field_w (f k m : Int) (hm : (2 : Int) ^ k.toNat = m) (k0 : 0 ≤ k) (k1 : k ≤ 30) (f0 : -9223372036854775808 ≤ f) (f1 : f < 9223372036854775808) (w : World) :
    Calls Try.prog 25 #[.int .i64 f, .int .i64 k] w fun e w' => e = .returned (.bool (fitB m f)) ∧ w = w' := by
  have h1 := pow_pos2 k.toNat
  have h2 : (2 : Int) ^ k.toNat ≤ 2 ^ 30 := pow_le2 (by omega)
  have HM := Lib.hid hm
  clear hm
  go_enter Try.func25, Try.ntmps25
  go_wp2
  all_goals
    go_ret
    refine ⟨ret_bool ?_, rfl⟩
    rw [← HM.out, Bool.eq_iff_iff]
    simp [fitB] <;> omega
theorem refNumber_w (n : Int) (w : World) :
    Calls Try.prog 20 #[.int .u64 n] w fun e' w' => e' = .returned (.agg #[.bool false, .int .i64 0, .int .i64 262143, .int .i64 0, .int .i64 52, .int .i64 0, .int .i64 0, .bool true, .int .u64 n]) ∧ Kp w w' := by
  go_enter Try.func20, Try.ntmps20
  go_wp2
  exact bodyPost_ret (v := .agg #[.bool false, .int .i64 0, .int .i64 262143, .int .i64 0, .int .i64 52, .int .i64 0, .int .i64 0, .bool true, .int .u64 n]) (by simp [results, Try.results20, go_sem]) rfl ⟨rfl, by (repeat' (first | with_reducible refine Kp.setCell ?_ ?_ _ | with_reducible refine Kp.allocs ?_ _ _)); all_goals first | exact Kp.refl w | (dsimp only; omega)⟩
theorem refRoot_w (mo n : Int) (w : World) :
    Calls Try.prog 22 #[.int .i64 mo, .int .u64 n] w fun e' w' => e' = .returned (.agg #[.bool true, .int .i64 65535, .int .i64 262143, .int .i64 (modeV mo), .int .i64 52, .int .i64 0, .int .i64 0, .bool true, .int .u64 n]) ∧ Kp w w' := by
  have k11 : ∀ n : Nat, n < n + 1 + 1 := fun n => by omega
  have hm : (mo == 1) = true ∨ (mo == 1) = false := by cases (mo == 1) <;> simp
  rcases hm with hm | hm
  all_goals
    go_enter Try.func22, Try.ntmps22
    go_wp2
    refine bodyPost_ret (v := .agg #[.bool true, .int .i64 65535, .int .i64 262143, .int .i64 (modeV mo), .int .i64 52, .int .i64 0, .int .i64 0, .bool true, .int .u64 n]) ?_ rfl ⟨rfl, ?_⟩
    · have hm' := hm
      simp at hm'
      simp [results, Try.results22, go_sem, modeV, *]
    · repeat' (first | with_reducible refine Kp.setCell ?_ ?_ _ | with_reducible refine Kp.allocs ?_ _ _)
      all_goals first | exact Kp.refl w | (simp; done) | (dsimp only; omega)
theorem refBits_w (tg : Bool) (pe ty mo e b t : Int) (g : Bool) (a : Int) (h : RightP pe ty mo e b t g) (w : World) :
    Calls Try.prog 28 #[.agg #[.bool tg, .int .i64 pe, .int .i64 ty, .int .i64 mo, .int .i64 e, .int .i64 b, .int .i64 t, .bool g, .int .u64 a]] w fun e' w' => e' = .returned (.int .u64 (bitsV pe ty mo e b t g)) ∧ Kp w w' := by
  obtain ⟨p0, p1, y0, y1, o0, o1, b0, b1, t0, t1, e0, e1, no, b8, t8⟩ := h
  cases g
  · clear no b8 t8
    go_enter Try.func28, Try.ntmps28
    go_wp2
    go_ret
    exact ⟨ret_int (by rw [bits_no]; omega), (Kp.refl w).allocs _ _⟩
  · have hb := Lib.hid (b8 rfl)
    have ht := Lib.hid (t8 rfl)
    clear no b8 t8
    go_enter Try.func28, Try.ntmps28
    go_wp2
    go_ret
    exact ⟨ret_int (by have := hb.out; have := ht.out; rw [bits_big]; omega), (Kp.refl w).allocs _ _⟩
theorem refRight_w (tg : Bool) (pe ty mo e b t : Int) (g : Bool) (a : Int) (p0 : -9223372036854775808 ≤ pe) (p1 : pe < 9223372036854775808) (y0 : -9223372036854775808 ≤ ty) (y1 : ty < 9223372036854775808) (o0 : -9223372036854775808 ≤ mo) (o1 : mo < 9223372036854775808) (e0 : -9223372036854775808 ≤ e) (e1 : e < 9223372036854775808) (b0 : -9223372036854775808 ≤ b) (b1 : b < 9223372036854775808) (t0 : -9223372036854775808 ≤ t) (t1 : t < 9223372036854775808) (w : World) :
    Calls Try.prog 13 #[.agg #[.bool tg, .int .i64 pe, .int .i64 ty, .int .i64 mo, .int .i64 e, .int .i64 b, .int .i64 t, .bool g, .int .u64 a]] w fun e' w' => e' = .returned (.bool (rightB pe ty mo e b t g)) ∧ Kp w w' := by
  have K := Lib.hid ((Kp.refl w).allocs #[.bool tg, .int .i64 pe, .int .i64 ty, .int .i64 mo, .int .i64 e, .int .i64 b, .int .i64 t, .bool g, .int .u64 a] 24)
  cases h0 : fitB 65536 pe
  · go_enter Try.func13, Try.ntmps13
    go_wp2_with (first
      | (go_at_call 25; (with_reducible refine (field_w pe 16 65536 (by decide) (by omega) (by omega) p0 p1 _).mono ?_); rintro e' w1 ⟨rfl, rfl⟩)
      | (go_at_call 25; (with_reducible refine (field_w ty 18 262144 (by decide) (by omega) (by omega) y0 y1 _).mono ?_); rintro e' w1 ⟨rfl, rfl⟩)
      | (go_at_call 25; (with_reducible refine (field_w mo 1 2 (by decide) (by omega) (by omega) o0 o1 _).mono ?_); rintro e' w1 ⟨rfl, rfl⟩)
      | (go_at_call 25; (with_reducible refine (field_w b 14 16384 (by decide) (by omega) (by omega) b0 b1 _).mono ?_); rintro e' w1 ⟨rfl, rfl⟩)
      | (go_at_call 25; (with_reducible refine (field_w t 12 4096 (by decide) (by omega) (by omega) t0 t1 _).mono ?_); rintro e' w1 ⟨rfl, rfl⟩))
    go_ret
    exact ⟨ret_bool (by simp [rightB, rbB, h0]), K.out⟩
  cases h1 : fitB 262144 ty
  · go_enter Try.func13, Try.ntmps13
    go_wp2_with (first
      | (go_at_call 25; (with_reducible refine (field_w pe 16 65536 (by decide) (by omega) (by omega) p0 p1 _).mono ?_); rintro e' w1 ⟨rfl, rfl⟩)
      | (go_at_call 25; (with_reducible refine (field_w ty 18 262144 (by decide) (by omega) (by omega) y0 y1 _).mono ?_); rintro e' w1 ⟨rfl, rfl⟩)
      | (go_at_call 25; (with_reducible refine (field_w mo 1 2 (by decide) (by omega) (by omega) o0 o1 _).mono ?_); rintro e' w1 ⟨rfl, rfl⟩)
      | (go_at_call 25; (with_reducible refine (field_w b 14 16384 (by decide) (by omega) (by omega) b0 b1 _).mono ?_); rintro e' w1 ⟨rfl, rfl⟩)
      | (go_at_call 25; (with_reducible refine (field_w t 12 4096 (by decide) (by omega) (by omega) t0 t1 _).mono ?_); rintro e' w1 ⟨rfl, rfl⟩))
    go_ret
    exact ⟨ret_bool (by simp [rightB, rbB, h0, h1]), K.out⟩
  cases h2 : fitB 2 mo
  · go_enter Try.func13, Try.ntmps13
    go_wp2_with (first
      | (go_at_call 25; (with_reducible refine (field_w pe 16 65536 (by decide) (by omega) (by omega) p0 p1 _).mono ?_); rintro e' w1 ⟨rfl, rfl⟩)
      | (go_at_call 25; (with_reducible refine (field_w ty 18 262144 (by decide) (by omega) (by omega) y0 y1 _).mono ?_); rintro e' w1 ⟨rfl, rfl⟩)
      | (go_at_call 25; (with_reducible refine (field_w mo 1 2 (by decide) (by omega) (by omega) o0 o1 _).mono ?_); rintro e' w1 ⟨rfl, rfl⟩)
      | (go_at_call 25; (with_reducible refine (field_w b 14 16384 (by decide) (by omega) (by omega) b0 b1 _).mono ?_); rintro e' w1 ⟨rfl, rfl⟩)
      | (go_at_call 25; (with_reducible refine (field_w t 12 4096 (by decide) (by omega) (by omega) t0 t1 _).mono ?_); rintro e' w1 ⟨rfl, rfl⟩))
    go_ret
    exact ⟨ret_bool (by simp [rightB, rbB, h0, h1, h2]), K.out⟩
  cases h3 : fitB 16384 b
  · go_enter Try.func13, Try.ntmps13
    go_wp2_with (first
      | (go_at_call 25; (with_reducible refine (field_w pe 16 65536 (by decide) (by omega) (by omega) p0 p1 _).mono ?_); rintro e' w1 ⟨rfl, rfl⟩)
      | (go_at_call 25; (with_reducible refine (field_w ty 18 262144 (by decide) (by omega) (by omega) y0 y1 _).mono ?_); rintro e' w1 ⟨rfl, rfl⟩)
      | (go_at_call 25; (with_reducible refine (field_w mo 1 2 (by decide) (by omega) (by omega) o0 o1 _).mono ?_); rintro e' w1 ⟨rfl, rfl⟩)
      | (go_at_call 25; (with_reducible refine (field_w b 14 16384 (by decide) (by omega) (by omega) b0 b1 _).mono ?_); rintro e' w1 ⟨rfl, rfl⟩)
      | (go_at_call 25; (with_reducible refine (field_w t 12 4096 (by decide) (by omega) (by omega) t0 t1 _).mono ?_); rintro e' w1 ⟨rfl, rfl⟩))
    go_ret
    exact ⟨ret_bool (by simp [rightB, rbB, h0, h1, h2, h3]), K.out⟩
  cases h4 : fitB 4096 t
  · go_enter Try.func13, Try.ntmps13
    go_wp2_with (first
      | (go_at_call 25; (with_reducible refine (field_w pe 16 65536 (by decide) (by omega) (by omega) p0 p1 _).mono ?_); rintro e' w1 ⟨rfl, rfl⟩)
      | (go_at_call 25; (with_reducible refine (field_w ty 18 262144 (by decide) (by omega) (by omega) y0 y1 _).mono ?_); rintro e' w1 ⟨rfl, rfl⟩)
      | (go_at_call 25; (with_reducible refine (field_w mo 1 2 (by decide) (by omega) (by omega) o0 o1 _).mono ?_); rintro e' w1 ⟨rfl, rfl⟩)
      | (go_at_call 25; (with_reducible refine (field_w b 14 16384 (by decide) (by omega) (by omega) b0 b1 _).mono ?_); rintro e' w1 ⟨rfl, rfl⟩)
      | (go_at_call 25; (with_reducible refine (field_w t 12 4096 (by decide) (by omega) (by omega) t0 t1 _).mono ?_); rintro e' w1 ⟨rfl, rfl⟩))
    go_ret
    exact ⟨ret_bool (by simp [rightB, rbB, h0, h1, h2, h3, h4]), K.out⟩
  have fb : 0 ≤ b ∧ b < 16384 := by simpa [fitB] using h3
  have ft : 0 ≤ t ∧ t < 4096 := by simpa [fitB] using h4
  obtain ⟨fb0, fb1⟩ := fb
  obtain ⟨ft0, ft1⟩ := ft
  cases g
  all_goals
    go_enter Try.func13, Try.ntmps13
    go_wp2_with (first
      | (go_at_call 25; (with_reducible refine (field_w pe 16 65536 (by decide) (by omega) (by omega) p0 p1 _).mono ?_); rintro e' w1 ⟨rfl, rfl⟩)
      | (go_at_call 25; (with_reducible refine (field_w ty 18 262144 (by decide) (by omega) (by omega) y0 y1 _).mono ?_); rintro e' w1 ⟨rfl, rfl⟩)
      | (go_at_call 25; (with_reducible refine (field_w mo 1 2 (by decide) (by omega) (by omega) o0 o1 _).mono ?_); rintro e' w1 ⟨rfl, rfl⟩)
      | (go_at_call 25; (with_reducible refine (field_w b 14 16384 (by decide) (by omega) (by omega) b0 b1 _).mono ?_); rintro e' w1 ⟨rfl, rfl⟩)
      | (go_at_call 25; (with_reducible refine (field_w t 12 4096 (by decide) (by omega) (by omega) t0 t1 _).mono ?_); rintro e' w1 ⟨rfl, rfl⟩))
  all_goals
    go_ret
    refine ⟨ret_bool ?_, K.out⟩
    rw [Bool.eq_iff_iff]
    simp [rightB, rbB, h0, h1, h2, h3, h4] <;> omega
theorem refPack_w (tg : Bool) (pe ty mo e b t : Int) (g : Bool) (a : Int) (h : RightP pe ty mo e b t g) (w : World) :
    Calls Try.prog 16 #[.agg #[.bool tg, .int .i64 pe, .int .i64 ty, .int .i64 mo, .int .i64 e, .int .i64 b, .int .i64 t, .bool g, .int .u64 a]] w fun e' w' => e' = .returned (.tuple #[.int .u64 a, .int .u64 (xk (bitsV pe ty mo e b t g))]) ∧ Kp w w' := by
  have kb : Bh w (w.heap.size + 1) (w.alloc (.cells #[.bool tg, .int .i64 pe, .int .i64 ty, .int .i64 mo, .int .i64 e, .int .i64 b, .int .i64 t, .bool g, .int .u64 a] 24)) := ⟨(Kp.refl w).allocs _ _, by simp, by simp⟩
  have cn : ∀ w : World, Calls Try.prog 28 #[.agg #[.bool false, .int .i64 0, .int .i64 262143, .int .i64 0, .int .i64 52, .int .i64 0, .int .i64 0, .bool true, .int .u64 0]] w fun e' w' => e' = .returned (.int .u64 35184305078276) ∧ Kp w w' := fun w => by
    have c := refBits_w false 0 262143 0 52 0 0 true 0 null_right w
    rw [bits_null] at c; exact c
  have CN := Lib.hid cn
  clear cn
  obtain ⟨X, hX⟩ : ∃ X, bitsV pe ty mo e b t g = X := ⟨_, rfl⟩
  have c0 : ∀ w : World, Calls Try.prog 28 #[.agg #[.bool tg, .int .i64 pe, .int .i64 ty, .int .i64 mo, .int .i64 e, .int .i64 b, .int .i64 t, .bool g, .int .u64 a]] w fun e' w' => e' = .returned (.int .u64 X) ∧ Kp w w' := fun w => by
    rw [← hX]; exact refBits_w tg pe ty mo e b t g a h w
  have C0 := Lib.hid c0
  rw [hX]
  clear c0 hX
  go_enter Try.func16, Try.ntmps16
  go_wp2
  go_region_held3 (fun w' => w'.cell? ⟨w.heap.size, 0, none⟩ = some (.bool tg) ∧ w'.cell? ⟨w.heap.size, 1, none⟩ = some (.int .i64 pe) ∧ w'.cell? ⟨w.heap.size, 2, none⟩ = some (.int .i64 ty) ∧ w'.cell? ⟨w.heap.size, 3, none⟩ = some (.int .i64 mo) ∧ w'.cell? ⟨w.heap.size, 4, none⟩ = some (.int .i64 e) ∧ w'.cell? ⟨w.heap.size, 5, none⟩ = some (.int .i64 b) ∧ w'.cell? ⟨w.heap.size, 6, none⟩ = some (.int .i64 t) ∧ w'.cell? ⟨w.heap.size, 7, none⟩ = some (.bool g) ∧ w'.cell? ⟨w.heap.size, 8, none⟩ = some (.int .u64 a) ∧ Bh w (w.heap.size + 1) w')
    (first | (refine ⟨?_, ?_, ?_, ?_, ?_, ?_, ?_, ?_, ?_, ?_⟩ <;> first | with_reducible assumption | ((repeat' (first | with_reducible assumption | with_reducible apply Bh.drew | with_reducible apply Bh.alloc | with_reducible apply Bh.set | with_reducible refine Bh.cell_set (n := w.heap.size + 1) (p := ⟨_, _, none⟩) ?_ ?_ ?_ | with_reducible refine Bh.cell_alloc (W := w) (n := w.heap.size + 1) (p := ⟨_, _, none⟩) ?_ ?_ ?_ | (dsimp only; omega))); done) | (with_reducible apply Bh.drew; assumption) | (simp [go_sem, *]; done)))
    (first
      | (go_at_call 28; go_split_ands; with_reducible refine (CN.out _).mono ?_; rintro e w' ⟨rfl, qk⟩; have q0 : w'.cell? ⟨w.heap.size, 0, none⟩ = some (.bool tg) := Bh.cell (n := w.heap.size + 1) (W := w) (by with_reducible assumption) qk (by dsimp only; omega) (by with_reducible assumption); have q1 : w'.cell? ⟨w.heap.size, 1, none⟩ = some (.int .i64 pe) := Bh.cell (n := w.heap.size + 1) (W := w) (by with_reducible assumption) qk (by dsimp only; omega) (by with_reducible assumption); have q2 : w'.cell? ⟨w.heap.size, 2, none⟩ = some (.int .i64 ty) := Bh.cell (n := w.heap.size + 1) (W := w) (by with_reducible assumption) qk (by dsimp only; omega) (by with_reducible assumption); have q3 : w'.cell? ⟨w.heap.size, 3, none⟩ = some (.int .i64 mo) := Bh.cell (n := w.heap.size + 1) (W := w) (by with_reducible assumption) qk (by dsimp only; omega) (by with_reducible assumption); have q4 : w'.cell? ⟨w.heap.size, 4, none⟩ = some (.int .i64 e) := Bh.cell (n := w.heap.size + 1) (W := w) (by with_reducible assumption) qk (by dsimp only; omega) (by with_reducible assumption); have q5 : w'.cell? ⟨w.heap.size, 5, none⟩ = some (.int .i64 b) := Bh.cell (n := w.heap.size + 1) (W := w) (by with_reducible assumption) qk (by dsimp only; omega) (by with_reducible assumption); have q6 : w'.cell? ⟨w.heap.size, 6, none⟩ = some (.int .i64 t) := Bh.cell (n := w.heap.size + 1) (W := w) (by with_reducible assumption) qk (by dsimp only; omega) (by with_reducible assumption); have q7 : w'.cell? ⟨w.heap.size, 7, none⟩ = some (.bool g) := Bh.cell (n := w.heap.size + 1) (W := w) (by with_reducible assumption) qk (by dsimp only; omega) (by with_reducible assumption); have q8 : w'.cell? ⟨w.heap.size, 8, none⟩ = some (.int .u64 a) := Bh.cell (n := w.heap.size + 1) (W := w) (by with_reducible assumption) qk (by dsimp only; omega) (by with_reducible assumption); have qb : Bh w (w.heap.size + 1) w' := Bh.step (by with_reducible assumption) qk; have ql := qb.le; clear qk)
      | (go_at_call 28; go_split_ands; with_reducible refine (C0.out _).mono ?_; rintro e w' ⟨rfl, qk⟩; have q0 : w'.cell? ⟨w.heap.size, 0, none⟩ = some (.bool tg) := Bh.cell (n := w.heap.size + 1) (W := w) (by with_reducible assumption) qk (by dsimp only; omega) (by with_reducible assumption); have q1 : w'.cell? ⟨w.heap.size, 1, none⟩ = some (.int .i64 pe) := Bh.cell (n := w.heap.size + 1) (W := w) (by with_reducible assumption) qk (by dsimp only; omega) (by with_reducible assumption); have q2 : w'.cell? ⟨w.heap.size, 2, none⟩ = some (.int .i64 ty) := Bh.cell (n := w.heap.size + 1) (W := w) (by with_reducible assumption) qk (by dsimp only; omega) (by with_reducible assumption); have q3 : w'.cell? ⟨w.heap.size, 3, none⟩ = some (.int .i64 mo) := Bh.cell (n := w.heap.size + 1) (W := w) (by with_reducible assumption) qk (by dsimp only; omega) (by with_reducible assumption); have q4 : w'.cell? ⟨w.heap.size, 4, none⟩ = some (.int .i64 e) := Bh.cell (n := w.heap.size + 1) (W := w) (by with_reducible assumption) qk (by dsimp only; omega) (by with_reducible assumption); have q5 : w'.cell? ⟨w.heap.size, 5, none⟩ = some (.int .i64 b) := Bh.cell (n := w.heap.size + 1) (W := w) (by with_reducible assumption) qk (by dsimp only; omega) (by with_reducible assumption); have q6 : w'.cell? ⟨w.heap.size, 6, none⟩ = some (.int .i64 t) := Bh.cell (n := w.heap.size + 1) (W := w) (by with_reducible assumption) qk (by dsimp only; omega) (by with_reducible assumption); have q7 : w'.cell? ⟨w.heap.size, 7, none⟩ = some (.bool g) := Bh.cell (n := w.heap.size + 1) (W := w) (by with_reducible assumption) qk (by dsimp only; omega) (by with_reducible assumption); have q8 : w'.cell? ⟨w.heap.size, 8, none⟩ = some (.int .u64 a) := Bh.cell (n := w.heap.size + 1) (W := w) (by with_reducible assumption) qk (by dsimp only; omega) (by with_reducible assumption); have qb : Bh w (w.heap.size + 1) w' := Bh.step (by with_reducible assumption) qk; have ql := qb.le; clear qk)
      | (go_at_call 20; go_split_ands; with_reducible refine (refNumber_w _ _).mono ?_; rintro e w' ⟨rfl, qk⟩; have q0 : w'.cell? ⟨w.heap.size, 0, none⟩ = some (.bool tg) := Bh.cell (n := w.heap.size + 1) (W := w) (by with_reducible assumption) qk (by dsimp only; omega) (by with_reducible assumption); have q1 : w'.cell? ⟨w.heap.size, 1, none⟩ = some (.int .i64 pe) := Bh.cell (n := w.heap.size + 1) (W := w) (by with_reducible assumption) qk (by dsimp only; omega) (by with_reducible assumption); have q2 : w'.cell? ⟨w.heap.size, 2, none⟩ = some (.int .i64 ty) := Bh.cell (n := w.heap.size + 1) (W := w) (by with_reducible assumption) qk (by dsimp only; omega) (by with_reducible assumption); have q3 : w'.cell? ⟨w.heap.size, 3, none⟩ = some (.int .i64 mo) := Bh.cell (n := w.heap.size + 1) (W := w) (by with_reducible assumption) qk (by dsimp only; omega) (by with_reducible assumption); have q4 : w'.cell? ⟨w.heap.size, 4, none⟩ = some (.int .i64 e) := Bh.cell (n := w.heap.size + 1) (W := w) (by with_reducible assumption) qk (by dsimp only; omega) (by with_reducible assumption); have q5 : w'.cell? ⟨w.heap.size, 5, none⟩ = some (.int .i64 b) := Bh.cell (n := w.heap.size + 1) (W := w) (by with_reducible assumption) qk (by dsimp only; omega) (by with_reducible assumption); have q6 : w'.cell? ⟨w.heap.size, 6, none⟩ = some (.int .i64 t) := Bh.cell (n := w.heap.size + 1) (W := w) (by with_reducible assumption) qk (by dsimp only; omega) (by with_reducible assumption); have q7 : w'.cell? ⟨w.heap.size, 7, none⟩ = some (.bool g) := Bh.cell (n := w.heap.size + 1) (W := w) (by with_reducible assumption) qk (by dsimp only; omega) (by with_reducible assumption); have q8 : w'.cell? ⟨w.heap.size, 8, none⟩ = some (.int .u64 a) := Bh.cell (n := w.heap.size + 1) (W := w) (by with_reducible assumption) qk (by dsimp only; omega) (by with_reducible assumption); have qb : Bh w (w.heap.size + 1) w' := Bh.step (by with_reducible assumption) qk; have ql := qb.le; clear qk))
  all_goals
    go_wp2
    go_ret2
    exact ⟨rfl, qb.kp⟩
theorem xk_mod (m : Int) (m0 : 0 ≤ m) (m1 : m < 18446744073709551616) : xk (m % 4611686018427387904) = xk m % 4611686018427387904 := by
  obtain ⟨a, rfl⟩ := Int.eq_ofNat_of_zero_le m0
  have h1 : ((a : Int) % 4611686018427387904) = ((a % 4611686018427387904 : Nat) : Int) := by omega
  rw [h1, xk_nat _ (by omega), xk_nat a (by omega)]
  have h := Nat.xor_mod_two_pow (a := a) (b := 35184305078276) (n := 62)
  simp only [show 2 ^ 62 = 4611686018427387904 from rfl, show 35184305078276 % 4611686018427387904 = 35184305078276 from rfl] at h
  rw [← h]; omega
theorem divs4 (y : Int) : y / 16384 / 4096 / 2 = y / 134217728 ∧ y / 134217728 / 262144 = y / 35184372088832 ∧ y / 35184372088832 / 2 = y / 70368744177664 := by omega
set_option maxHeartbeats 8000000 in
set_option maxRecDepth 100000 in
theorem refUnpack_w (tg : Bool) (a m : Int) (m0 : 0 ≤ m) (m1 : m < 18446744073709551616) (w : World) :
    Calls Try.prog 18 #[.bool tg, .int .u64 a, .int .u64 m] w fun e' w' => e' = .returned (.agg #[.bool tg, .int .i64 (fP (xk m)), .int .i64 (fY (xk m)), .int .i64 (fM (xk m)), .int .i64 (fE (xk m)), .int .i64 (fB (xk m)), .int .i64 (fT (xk m)), .bool (fG (xk m)), .int .u64 a]) ∧ Kp w w' := by
  have k11 : ∀ n : Nat, n < n + 1 + 1 := fun n => by omega
  have hb := xk_bd m
  have hx := xk_mod m m0 m1
  obtain ⟨x, ex⟩ : ∃ x, xk m = x := ⟨_, rfl⟩
  obtain ⟨y, ey⟩ : ∃ y, y = x % 4611686018427387904 := ⟨_, rfl⟩
  rw [ex] at hb hx ⊢
  rw [← ey] at hx
  have hy : 0 ≤ y ∧ y < 4611686018427387904 := by omega
  obtain ⟨y0, y1⟩ := hy
  have hxx : bits .xor .u64 (m % 4611686018427387904) 35184305078276 = y := hx
  have c0 : ∀ w : World, Calls Try.prog 28 #[.agg #[.bool false, .int .i64 0, .int .i64 262143, .int .i64 0, .int .i64 52, .int .i64 0, .int .i64 0, .bool true, .int .u64 0]] w fun e' w' => e' = .returned (.int .u64 35184305078276) ∧ Kp w w' := fun w => by
    have c := refBits_w false 0 262143 0 52 0 0 true 0 null_right w
    rw [bits_null] at c; exact c
  have C0 := Lib.hid c0
  have EY := Lib.hid ey
  have f1 : fP x = y / 70368744177664 := by unfold fP; omega
  have f2 : fY x = y / 134217728 % 262144 := by unfold fY; omega
  have f3 : fM x = y / 35184372088832 % 2 := by unfold fM; omega
  have d1 : x % 16384 = y % 16384 := by omega
  have d2 : x / 16384 % 4096 = y / 16384 % 4096 := by omega
  have d3 : x / 67108864 % 2 = y / 67108864 % 2 := by omega
  have d4 : x % 8 = y % 16384 % 8 := by omega
  have d5 : x / 16384 % 8 = y / 16384 % 4096 % 8 := by omega
  have FF := Lib.hid (And.intro f1 (And.intro f2 (And.intro f3 (And.intro d1 (And.intro d2 (And.intro d3 (And.intro d4 d5)))))))
  clear c0 hx ex ey f1 f2 f3 d1 d2 d3 d4 d5
  have hg : (y / 67108864 % 2 == 1) = true ∨ (y / 67108864 % 2 == 1) = false := by cases (y / 67108864 % 2 == 1) <;> simp
  rcases hg with hg | hg
  all_goals
    have HG := Lib.hid hg
    go_enter Try.func18, Try.ntmps18
    go_wp2_with (first
      | (go_at_call 20; refine (refNumber_w _ _).mono ?_; rintro e' w1 ⟨rfl, qk⟩; have HKw1 := Lib.hid qk; have qw10 : w1.cell? ⟨w.heap.size, 0, none⟩ = some (.bool false) := (qk.cell (p := ⟨w.heap.size, 0, none⟩) (by first | (simp; done) | (simp; omega) | omega)).trans (by simp [go_sem, *]); have qw11 : w1.cell? ⟨w.heap.size, 1, none⟩ = some (.int .i64 0) := (qk.cell (p := ⟨w.heap.size, 1, none⟩) (by first | (simp; done) | (simp; omega) | omega)).trans (by simp [go_sem, *]); have qw12 : w1.cell? ⟨w.heap.size, 2, none⟩ = some (.int .i64 0) := (qk.cell (p := ⟨w.heap.size, 2, none⟩) (by first | (simp; done) | (simp; omega) | omega)).trans (by simp [go_sem, *]); have qw13 : w1.cell? ⟨w.heap.size, 3, none⟩ = some (.int .i64 0) := (qk.cell (p := ⟨w.heap.size, 3, none⟩) (by first | (simp; done) | (simp; omega) | omega)).trans (by simp [go_sem, *]); have qw14 : w1.cell? ⟨w.heap.size, 4, none⟩ = some (.int .i64 0) := (qk.cell (p := ⟨w.heap.size, 4, none⟩) (by first | (simp; done) | (simp; omega) | omega)).trans (by simp [go_sem, *]); have qw15 : w1.cell? ⟨w.heap.size, 5, none⟩ = some (.int .i64 0) := (qk.cell (p := ⟨w.heap.size, 5, none⟩) (by first | (simp; done) | (simp; omega) | omega)).trans (by simp [go_sem, *]); have qw16 : w1.cell? ⟨w.heap.size, 6, none⟩ = some (.int .i64 0) := (qk.cell (p := ⟨w.heap.size, 6, none⟩) (by first | (simp; done) | (simp; omega) | omega)).trans (by simp [go_sem, *]); have qw17 : w1.cell? ⟨w.heap.size, 7, none⟩ = some (.bool false) := (qk.cell (p := ⟨w.heap.size, 7, none⟩) (by first | (simp; done) | (simp; omega) | omega)).trans (by simp [go_sem, *]); have qw18 : w1.cell? ⟨w.heap.size, 8, none⟩ = some (.int .u64 0) := (qk.cell (p := ⟨w.heap.size, 8, none⟩) (by first | (simp; done) | (simp; omega) | omega)).trans (by simp [go_sem, *]); have zw10 : w1.frozen? ⟨w.heap.size, 0, none⟩ = false := (qk.2 _).trans (by simp [go_sem, *]); have zw11 : w1.frozen? ⟨w.heap.size, 1, none⟩ = false := (qk.2 _).trans (by simp [go_sem, *]); have zw12 : w1.frozen? ⟨w.heap.size, 2, none⟩ = false := (qk.2 _).trans (by simp [go_sem, *]); have zw13 : w1.frozen? ⟨w.heap.size, 3, none⟩ = false := (qk.2 _).trans (by simp [go_sem, *]); have zw14 : w1.frozen? ⟨w.heap.size, 4, none⟩ = false := (qk.2 _).trans (by simp [go_sem, *]); have zw15 : w1.frozen? ⟨w.heap.size, 5, none⟩ = false := (qk.2 _).trans (by simp [go_sem, *]); have zw16 : w1.frozen? ⟨w.heap.size, 6, none⟩ = false := (qk.2 _).trans (by simp [go_sem, *]); have zw17 : w1.frozen? ⟨w.heap.size, 7, none⟩ = false := (qk.2 _).trans (by simp [go_sem, *]); have zw18 : w1.frozen? ⟨w.heap.size, 8, none⟩ = false := (qk.2 _).trans (by simp [go_sem, *]); have sz := qk.size; (try simp at sz); have KW := Lib.hid (Kp.trans ((Kp.refl w).allocs _ _) qk); have ql0 : w.heap.size < w1.heap.size := (by omega); have ql1 : ¬ w.heap.size = w1.heap.size := (by omega); have ql2 : ¬ w1.heap.size = w.heap.size := (by omega); clear qk)
      | (go_at_call 28; refine (C0.out _).mono ?_; rintro e' w2 ⟨rfl, qk⟩; have HKw2 := Lib.hid qk; have qw20 : w2.cell? ⟨w.heap.size, 0, none⟩ = some (.bool false) := (qk.cell (p := ⟨w.heap.size, 0, none⟩) (by first | (simp; done) | (simp; omega) | omega)).trans (by simp [go_sem, *]); have qw21 : w2.cell? ⟨w.heap.size, 1, none⟩ = some (.int .i64 0) := (qk.cell (p := ⟨w.heap.size, 1, none⟩) (by first | (simp; done) | (simp; omega) | omega)).trans (by simp [go_sem, *]); have qw22 : w2.cell? ⟨w.heap.size, 2, none⟩ = some (.int .i64 0) := (qk.cell (p := ⟨w.heap.size, 2, none⟩) (by first | (simp; done) | (simp; omega) | omega)).trans (by simp [go_sem, *]); have qw23 : w2.cell? ⟨w.heap.size, 3, none⟩ = some (.int .i64 0) := (qk.cell (p := ⟨w.heap.size, 3, none⟩) (by first | (simp; done) | (simp; omega) | omega)).trans (by simp [go_sem, *]); have qw24 : w2.cell? ⟨w.heap.size, 4, none⟩ = some (.int .i64 0) := (qk.cell (p := ⟨w.heap.size, 4, none⟩) (by first | (simp; done) | (simp; omega) | omega)).trans (by simp [go_sem, *]); have qw25 : w2.cell? ⟨w.heap.size, 5, none⟩ = some (.int .i64 0) := (qk.cell (p := ⟨w.heap.size, 5, none⟩) (by first | (simp; done) | (simp; omega) | omega)).trans (by simp [go_sem, *]); have qw26 : w2.cell? ⟨w.heap.size, 6, none⟩ = some (.int .i64 0) := (qk.cell (p := ⟨w.heap.size, 6, none⟩) (by first | (simp; done) | (simp; omega) | omega)).trans (by simp [go_sem, *]); have qw27 : w2.cell? ⟨w.heap.size, 7, none⟩ = some (.bool false) := (qk.cell (p := ⟨w.heap.size, 7, none⟩) (by first | (simp; done) | (simp; omega) | omega)).trans (by simp [go_sem, *]); have qw28 : w2.cell? ⟨w.heap.size, 8, none⟩ = some (.int .u64 0) := (qk.cell (p := ⟨w.heap.size, 8, none⟩) (by first | (simp; done) | (simp; omega) | omega)).trans (by simp [go_sem, *]); have zw20 : w2.frozen? ⟨w.heap.size, 0, none⟩ = false := (qk.2 _).trans (by simp [go_sem, *]); have zw21 : w2.frozen? ⟨w.heap.size, 1, none⟩ = false := (qk.2 _).trans (by simp [go_sem, *]); have zw22 : w2.frozen? ⟨w.heap.size, 2, none⟩ = false := (qk.2 _).trans (by simp [go_sem, *]); have zw23 : w2.frozen? ⟨w.heap.size, 3, none⟩ = false := (qk.2 _).trans (by simp [go_sem, *]); have zw24 : w2.frozen? ⟨w.heap.size, 4, none⟩ = false := (qk.2 _).trans (by simp [go_sem, *]); have zw25 : w2.frozen? ⟨w.heap.size, 5, none⟩ = false := (qk.2 _).trans (by simp [go_sem, *]); have zw26 : w2.frozen? ⟨w.heap.size, 6, none⟩ = false := (qk.2 _).trans (by simp [go_sem, *]); have zw27 : w2.frozen? ⟨w.heap.size, 7, none⟩ = false := (qk.2 _).trans (by simp [go_sem, *]); have zw28 : w2.frozen? ⟨w.heap.size, 8, none⟩ = false := (qk.2 _).trans (by simp [go_sem, *]); have sy := qk.size; (try simp at sy); have KV := Lib.hid (Kp.trans KW.out qk); have qr0 : w.heap.size < w2.heap.size := (by omega); have qr1 : ¬ w.heap.size = w2.heap.size := (by omega); have qr2 : ¬ w2.heap.size = w.heap.size := (by omega); clear qk))
  all_goals
    obtain ⟨f1, f2, f3, d1, d2, d3, d4, d5⟩ := FF.out
    have hg' := HG.out
    simp only [beq_iff_eq, beq_eq_false_iff_ne, ne_eq] at hg'
    have e1 : fP x = y / 16384 / 4096 / 2 / 262144 / 2 := by rw [f1, (divs4 y).1, (divs4 y).2.1, (divs4 y).2.2]
    have e2 : fY x = y / 16384 / 4096 / 2 % 262144 := by rw [f2, (divs4 y).1]
    have e3 : fM x = y / 16384 / 4096 / 2 / 262144 % 2 := by rw [f3, (divs4 y).1, (divs4 y).2.1]
    first
      | (have hgx : fG x = true := by simp only [fG, decide_eq_true_eq]; omega
         have e5 : fB x = y % 16384 - y % 8 := by simp only [fB, hgx, if_true]; omega
         have e6 : fT x = y / 16384 % 4096 - y / 16384 % 8 := by simp only [fT, hgx, if_true]; omega
         first
           | (have e4 : fE x = 52 := by simp only [fE, hgx, if_true]; omega
              rw [e1, e2, e3, e4, e5, e6, hgx])
           | (have e4 : fE x = y / 16384 % 8 * 8 + y % 8 := by simp only [fE, hgx, if_true]; omega
              rw [e1, e2, e3, e4, e5, e6, hgx]))
      | (have hgx : fG x = false := by simp only [fG, decide_eq_false_iff_not]; omega
         have e5 : fB x = y % 16384 := by simp only [fB, hgx, Bool.false_eq_true, if_false]; omega
         have e6 : fT x = y / 16384 % 4096 := by simp only [fT, hgx, Bool.false_eq_true, if_false]; omega
         have e4 : fE x = 0 := by simp only [fE, hgx, Bool.false_eq_true, if_false]
         rw [e1, e2, e3, e4, e5, e6, hgx])
    clear e1 e2 e3 f1 f2 f3 d1 d2 d3 d4 d5 hg'
    refine bodyPost_ret ?_ rfl ⟨rfl, ?_⟩
    · simp [results, Try.results18, go_sem, *]
    · repeat' (first | with_reducible refine Kp.setCell ?_ ?_ _ | with_reducible refine Kp.allocs ?_ _ _)
      all_goals first | exact KV.out | (dsimp only; omega)
end Go.Proofs.Ytmakfbpflfdkkaa
