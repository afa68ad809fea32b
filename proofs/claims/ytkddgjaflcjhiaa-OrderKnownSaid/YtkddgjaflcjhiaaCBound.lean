/-
  The contract of capops.Bound. Bounds' fields are in their places; a length fits 64 bits.
-/
import Derived.Test.YtkddgjaflcjhiaaCSub
import Derived.Test.YtkddgjaflcjhiaaBLay
namespace Go.Proofs.Ytkddgjaflcjhiaa
open Go.ChangeShapes Go.WideShapes Go.ChangeAt Go.RowKit
set_option linter.unusedVariables false
set_option linter.unusedSimpArgs false

/-- The bounds that are laid. -/
def madeB (a n : Int) : Int := ofB (layE a n) (layB a n) a
def madeT (a n : Int) : Int := ofT (layE a n) (layB a n) (layT a n) (bigB n) a
def madeO (a n : Int) : Bool := ofO (layE a n) (layB a n) (layT a n) (bigB n) a
theorem lay_fld (a n : Int) (a0 : 0 ≤ a) (a1 : a < 18446744073709551616) (n0 : 0 ≤ n) (n1 : n < 18446744073709551616) : Fld (layE a n) (layB a n) (layT a n) a :=
  ⟨(layE_bd a n n0 n1).1, (layE_bd a n n0 n1).2, (layB_bd a n).1, (layB_bd a n).2, (layT_bd a n).1, (layT_bd a n).2, a0, a1⟩
/-- Are the bytes asked for within what is laid? Is this just what is asked for? -/
def askB (a n : Int) : Bool := withinB a (spT a n) (spO a n) (madeB a n) (madeT a n) (madeO a n)
def justB (a n : Int) : Bool := rangeB (madeB a n) (madeT a n) (madeO a n) a (spT a n) (spO a n)
def boundB (tg : Bool) (ty e b t : Int) (g : Bool) (a n : Int) (x : Bool) : Bool := openB tg ty && (askB a n && wiB e b t g a (layE a n) (layB a n) (layT a n) (bigB n) a) && (!x || justB a n)
/-- What the second statement leaves. -/
def BoundMid (W : World) (k : Nat) (a aT : Int) (aO : Bool) (mB mT : Int) (mO : Bool) (s9 s10 : Value) (wx : World) : Prop := ∃ i j : Nat, s9 = .pointer (some ⟨i, 0, none⟩) ∧ s10 = .pointer (some ⟨j, 0, none⟩) ∧
  wx.cell? ⟨i, 0, none⟩ = some (.int .u64 a) ∧ wx.cell? ⟨i, 1, none⟩ = some (.int .u64 aT) ∧ wx.cell? ⟨i, 2, none⟩ = some (.bool aO) ∧ wx.cell? ⟨j, 0, none⟩ = some (.int .u64 mB) ∧ wx.cell? ⟨j, 1, none⟩ = some (.int .u64 mT) ∧ wx.cell? ⟨j, 2, none⟩ = some (.bool mO) ∧
  k ≤ i ∧ k ≤ j ∧ i < wx.heap.size ∧ j < wx.heap.size ∧ Kp W wx
theorem at3 {B : Nat} {x y z : Value} {w : World} (h0 : w.cell? ⟨B, 0, none⟩ = some x) (h1 : w.cell? ⟨B, 1, none⟩ = some y) (h2 : w.cell? ⟨B, 2, none⟩ = some z) : At B [x, y, z] w := fun i v hi => by
  match i with
  | 0 => simp at hi; subst hi; exact h0
  | 1 => simp at hi; subst hi; exact h1
  | 2 => simp at hi; subst hi; exact h2
  | n + 3 => simp at hi
theorem tag_fin {tg so v : Bool} (h : so = v) (k : so = true → tg = true) : (tg && so) = v := by
  subst h; cases so
  · simp
  · simp [k rfl]
set_option maxHeartbeats 8000000 in
set_option maxRecDepth 100000 in
theorem bound_core (tg : Bool) (pe ty mo e b t : Int) (g : Bool) (a : Int) (n lE lB lT : Int) (lG lX : Bool) (aT : Int) (aO : Bool) (mB mT : Int) (mO : Bool) (oB oT : Int) (oO w1v w2v lv eqv ov x v : Bool)
    (LC : Hid (∀ w : World, Calls Try.prog 14 #[.agg #[tg, pe, ty, mo, e, b, t, g, .int .u64 a], .int .u64 n] w fun e' w' => e' = .returned (.tuple #[.agg #[tg, pe, ty, mo, lE, lB, lT, lG, .int .u64 a], lX]) ∧ Kp w w')) (OC : Hid (∀ w : World, Calls Try.prog 16 #[.agg #[tg, pe, ty, mo, lE, lB, lT, lG, .int .u64 a]] w fun e' w' => e' = .returned (.agg #[.int .u64 mB, .int .u64 mT, mO]) ∧ Kp w w')) (SC : Hid (∀ w : World, Calls Try.prog 15 #[.int .u64 a, .int .u64 n] w fun e' w' => e' = .returned (.agg #[.int .u64 a, .int .u64 aT, aO]) ∧ Kp w w')) (OO : Hid (∀ w : World, Calls Try.prog 16 #[.agg #[tg, pe, ty, mo, e, b, t, g, .int .u64 a]] w fun e' w' => e' = .returned (.agg #[.int .u64 oB, .int .u64 oT, oO]) ∧ Kp w w')) (WA : Hid (∀ w : World, Calls Try.prog 17 #[.agg #[.int .u64 a, .int .u64 aT, aO], .agg #[.int .u64 mB, .int .u64 mT, mO]] w fun e' w' => e' = .returned (.bool w1v) ∧ Kp w w')) (WB : Hid (∀ w : World, Calls Try.prog 17 #[.agg #[.int .u64 mB, .int .u64 mT, mO], .agg #[.int .u64 oB, .int .u64 oT, oO]] w fun e' w' => e' = .returned (.bool w2v) ∧ Kp w w')) (hE : ∀ w : World, (binOp .eql 39 (.agg #[.int .u64 mB, .int .u64 mT, mO]) (.agg #[.int .u64 a, .int .u64 aT, aO])).run Try.prog w = .ok (.bool eqv) w)
    (ho : openB tg ty = ov) (HL : Hid ((w1v && w2v) = lv)) (HV : Hid ((ov && lv && (!x || eqv)) = v)) (HT : Hid (ov = true → tg = true)) (w : World) :
    Calls Try.prog 5 #[.agg #[tg, pe, ty, mo, e, b, t, g, .int .u64 a], .int .u64 n, x] w fun e' w' => e' = .returned (.agg #[v, pe, ty, mo, lE, lB, lT, lG, .int .u64 a]) ∧ Kp w w' := by
  have HO := Lib.hid ho
  clear ho
  have A0 : At (w.heap.size) [tg, pe, ty, mo, e, b, t, g, .int .u64 a] ((w.alloc (.cells #[tg, pe, ty, mo, e, b, t, g, .int .u64 a] 25)).alloc (.cells #[false, (), (), (), (), (), (), false, .int .u64 0] 25)) := ((At.new' w [tg, pe, ty, mo, e, b, t, g, .int .u64 a] 25 (by simp)).alloc _)
  have A1 : At (w.heap.size + 1) [false, (), (), (), (), (), (), false, .int .u64 0] ((w.alloc (.cells #[tg, pe, ty, mo, e, b, t, g, .int .u64 a] 25)).alloc (.cells #[false, (), (), (), (), (), (), false, .int .u64 0] 25)) := (At.new' (w.alloc (.cells #[tg, pe, ty, mo, e, b, t, g, .int .u64 a] 25)) [false, (), (), (), (), (), (), false, .int .u64 0] 25 (by simp))
  have R1 : Rm (w.heap.size + 1) 9 ((w.alloc (.cells #[tg, pe, ty, mo, e, b, t, g, .int .u64 a] 25)).alloc (.cells #[false, (), (), (), (), (), (), false, .int .u64 0] 25)) := (Rm.new' (w.alloc (.cells #[tg, pe, ty, mo, e, b, t, g, .int .u64 a] 25)) [false, (), (), (), (), (), (), false, .int .u64 0] 25 9 (by simp) (by simp))
  have kb : Bh w (w.heap.size + 2) ((w.alloc (.cells #[tg, pe, ty, mo, e, b, t, g, .int .u64 a] 25)).alloc (.cells #[false, (), (), (), (), (), (), false, .int .u64 0] 25)) := ⟨(((Kp.refl w).allocs _ _).allocs _ _), by simp, by simp⟩
  go_enter Try.func5, Try.ntmps5
  go_upto_region 2 with (first
    | (go_at_call 14; (with_reducible refine (LC.out _).mono ?_); rintro e' w1 ⟨rfl, qk⟩; have kbw1 : Bh w (w.heap.size + 2) w1 := Bh.step (by with_reducible assumption) qk; have Aw10 : At (w.heap.size) [tg, pe, ty, mo, e, b, t, g, .int .u64 a] w1 := At.kp (by with_reducible assumption) qk (Nat.lt_of_lt_of_le (show w.heap.size < w.heap.size + 2 by omega) (Bh.le (W := w) (by with_reducible assumption))); obtain ⟨_, _, _, _, _, _, _, _, _⟩ := Aw10.out9; have Rw11 : Rm (w.heap.size + 1) 9 w1 := Rm.kp (by with_reducible assumption) qk (Nat.lt_of_lt_of_le (show w.heap.size + 1 < w.heap.size + 2 by omega) (Bh.le (W := w) (by with_reducible assumption))); obtain ⟨⟨_, _⟩, _, ⟨_, _⟩, _, ⟨_, _⟩, _, ⟨_, _⟩, _, ⟨_, _⟩, _, ⟨_, _⟩, _, ⟨_, _⟩, _, ⟨_, _⟩, _, ⟨_, _⟩, _⟩ := Rw11.out9; clear qk))
  have Az0 : At (w.heap.size) [tg, pe, ty, mo, e, b, t, g, .int .u64 a] (w1.alloc (.cells #[tg, pe, ty, mo, lE, lB, lT, lG, .int .u64 a] 25)) := Aw10.alloc _
  have Rz1 : Rm (w.heap.size + 1) 9 (w1.alloc (.cells #[tg, pe, ty, mo, lE, lB, lT, lG, .int .u64 a] 25)) := Rw11.alloc _ _
  have Az2 : At (w1.heap.size) [tg, pe, ty, mo, lE, lB, lT, lG, .int .u64 a] (w1.alloc (.cells #[tg, pe, ty, mo, lE, lB, lT, lG, .int .u64 a] 25)) := At.new' w1 [tg, pe, ty, mo, lE, lB, lT, lG, .int .u64 a] 25 rfl
  have hz : w.heap.size + 2 ≤ w1.heap.size := kbw1.le
  have kz : Bh w (w1.heap.size + 1) (w1.alloc (.cells #[tg, pe, ty, mo, lE, lB, lT, lG, .int .u64 a] 25)) := ⟨kbw1.kp.allocs _ _, by omega, by simp⟩
  have hz1 : w.heap.size < w1.heap.size := (by omega)
  have hz2 : w.heap.size + 1 < w1.heap.size := (by omega)
  have kz0 : Bh (w1.alloc (.cells #[tg, pe, ty, mo, lE, lB, lT, lG, .int .u64 a] 25)) (w1.heap.size + 1) (w1.alloc (.cells #[tg, pe, ty, mo, lE, lB, lT, lG, .int .u64 a] 25)) := ⟨Kp.refl _, by simp, by simp⟩
  go_cut [9, 10] (fun s9 s10 wx => BoundMid (w1.alloc (.cells #[tg, pe, ty, mo, lE, lB, lT, lG, .int .u64 a] 25)) (w1.heap.size + 1) a aT aO mB mT mO s9 s10 wx)
  case first =>
    have AD2 : At (w1.heap.size) [tg, pe, ty, mo, lE, lB, lT, lG, .int .u64 a] (((w1.alloc (.cells #[tg, pe, ty, mo, lE, lB, lT, lG, .int .u64 a] 25)).alloc (.cells #[.int .u64 0, .int .u64 0, false] 39)).alloc (.cells #[.int .u64 0, .int .u64 0, false] 39)).drew := ((Az2.alloc _).alloc _).drew
    have AD0 : At (w.heap.size) [tg, pe, ty, mo, e, b, t, g, .int .u64 a] (((w1.alloc (.cells #[tg, pe, ty, mo, lE, lB, lT, lG, .int .u64 a] 25)).alloc (.cells #[.int .u64 0, .int .u64 0, false] 39)).alloc (.cells #[.int .u64 0, .int .u64 0, false] 39)).drew := ((Az0.alloc _).alloc _).drew
    have kD : Bh (w1.alloc (.cells #[tg, pe, ty, mo, lE, lB, lT, lG, .int .u64 a] 25)) (w1.heap.size + 1) (((w1.alloc (.cells #[tg, pe, ty, mo, lE, lB, lT, lG, .int .u64 a] 25)).alloc (.cells #[.int .u64 0, .int .u64 0, false] 39)).alloc (.cells #[.int .u64 0, .int .u64 0, false] 39)).drew := Bh.drew (Bh.alloc (Bh.alloc kz0 _ _) _ _)
    have dz8 := AD0 8 _ rfl
    have dd0 := AD2 0 _ rfl
    have dd1 := AD2 1 _ rfl
    have dd2 := AD2 2 _ rfl
    have dd3 := AD2 3 _ rfl
    have dd4 := AD2 4 _ rfl
    have dd5 := AD2 5 _ rfl
    have dd6 := AD2 6 _ rfl
    have dd7 := AD2 7 _ rfl
    have dd8 := AD2 8 _ rfl
    clear Az0 Rz1 Az2 kz AD2 AD0
    go_region_held3 (fun w' => w'.cell? ⟨w.heap.size, 8, none⟩ = some (.int .u64 a) ∧ w'.cell? ⟨w1.heap.size, 0, none⟩ = some (.bool tg) ∧ w'.cell? ⟨w1.heap.size, 1, none⟩ = some (.int .i64 pe) ∧ w'.cell? ⟨w1.heap.size, 2, none⟩ = some (.int .i64 ty) ∧ w'.cell? ⟨w1.heap.size, 3, none⟩ = some (.int .i64 mo) ∧ w'.cell? ⟨w1.heap.size, 4, none⟩ = some (.int .i64 lE) ∧ w'.cell? ⟨w1.heap.size, 5, none⟩ = some (.int .i64 lB) ∧ w'.cell? ⟨w1.heap.size, 6, none⟩ = some (.int .i64 lT) ∧ w'.cell? ⟨w1.heap.size, 7, none⟩ = some (.bool lG) ∧ w'.cell? ⟨w1.heap.size, 8, none⟩ = some (.int .u64 a) ∧ Bh (w1.alloc (.cells #[tg, pe, ty, mo, lE, lB, lT, lG, .int .u64 a] 25)) (w1.heap.size + 1) w')
      (first | (refine ⟨?_, ?_, ?_, ?_, ?_, ?_, ?_, ?_, ?_, ?_, ?_⟩ <;> first | with_reducible assumption | ((repeat' (first | with_reducible assumption | with_reducible apply Bh.drew | with_reducible apply Bh.alloc | with_reducible apply Bh.set | with_reducible refine Bh.cell_set (n := w1.heap.size + 1) (p := ⟨_, _, none⟩) ?_ ?_ ?_ | with_reducible refine Bh.cell_alloc (W := (w1.alloc (.cells #[tg, pe, ty, mo, lE, lB, lT, lG, .int .u64 a] 25))) (n := w1.heap.size + 1) (p := ⟨_, _, none⟩) ?_ ?_ ?_ | (dsimp only; omega))); done) | (with_reducible apply Bh.drew; assumption) | exact ⟨by with_reducible assumption, by with_reducible assumption, by with_reducible assumption, by with_reducible assumption, by with_reducible assumption, by with_reducible assumption, by with_reducible assumption, by with_reducible assumption, by with_reducible assumption, by with_reducible assumption, by with_reducible assumption⟩ | (simp [go_sem, *]; done)))
      (first
        | (go_at_call 15; go_split_ands; with_reducible refine (SC.out _).mono ?_; rintro e w' ⟨rfl, qk⟩; have q0 : w'.cell? ⟨w.heap.size, 8, none⟩ = some (.int .u64 a) := Bh.cell (n := w1.heap.size + 1) (W := (w1.alloc (.cells #[tg, pe, ty, mo, lE, lB, lT, lG, .int .u64 a] 25))) (by with_reducible assumption) qk (by dsimp only; omega) (by with_reducible assumption); have q1 : w'.cell? ⟨w1.heap.size, 0, none⟩ = some (.bool tg) := Bh.cell (n := w1.heap.size + 1) (W := (w1.alloc (.cells #[tg, pe, ty, mo, lE, lB, lT, lG, .int .u64 a] 25))) (by with_reducible assumption) qk (by dsimp only; omega) (by with_reducible assumption); have q2 : w'.cell? ⟨w1.heap.size, 1, none⟩ = some (.int .i64 pe) := Bh.cell (n := w1.heap.size + 1) (W := (w1.alloc (.cells #[tg, pe, ty, mo, lE, lB, lT, lG, .int .u64 a] 25))) (by with_reducible assumption) qk (by dsimp only; omega) (by with_reducible assumption); have q3 : w'.cell? ⟨w1.heap.size, 2, none⟩ = some (.int .i64 ty) := Bh.cell (n := w1.heap.size + 1) (W := (w1.alloc (.cells #[tg, pe, ty, mo, lE, lB, lT, lG, .int .u64 a] 25))) (by with_reducible assumption) qk (by dsimp only; omega) (by with_reducible assumption); have q4 : w'.cell? ⟨w1.heap.size, 3, none⟩ = some (.int .i64 mo) := Bh.cell (n := w1.heap.size + 1) (W := (w1.alloc (.cells #[tg, pe, ty, mo, lE, lB, lT, lG, .int .u64 a] 25))) (by with_reducible assumption) qk (by dsimp only; omega) (by with_reducible assumption); have q5 : w'.cell? ⟨w1.heap.size, 4, none⟩ = some (.int .i64 lE) := Bh.cell (n := w1.heap.size + 1) (W := (w1.alloc (.cells #[tg, pe, ty, mo, lE, lB, lT, lG, .int .u64 a] 25))) (by with_reducible assumption) qk (by dsimp only; omega) (by with_reducible assumption); have q6 : w'.cell? ⟨w1.heap.size, 5, none⟩ = some (.int .i64 lB) := Bh.cell (n := w1.heap.size + 1) (W := (w1.alloc (.cells #[tg, pe, ty, mo, lE, lB, lT, lG, .int .u64 a] 25))) (by with_reducible assumption) qk (by dsimp only; omega) (by with_reducible assumption); have q7 : w'.cell? ⟨w1.heap.size, 6, none⟩ = some (.int .i64 lT) := Bh.cell (n := w1.heap.size + 1) (W := (w1.alloc (.cells #[tg, pe, ty, mo, lE, lB, lT, lG, .int .u64 a] 25))) (by with_reducible assumption) qk (by dsimp only; omega) (by with_reducible assumption); have q8 : w'.cell? ⟨w1.heap.size, 7, none⟩ = some (.bool lG) := Bh.cell (n := w1.heap.size + 1) (W := (w1.alloc (.cells #[tg, pe, ty, mo, lE, lB, lT, lG, .int .u64 a] 25))) (by with_reducible assumption) qk (by dsimp only; omega) (by with_reducible assumption); have q9 : w'.cell? ⟨w1.heap.size, 8, none⟩ = some (.int .u64 a) := Bh.cell (n := w1.heap.size + 1) (W := (w1.alloc (.cells #[tg, pe, ty, mo, lE, lB, lT, lG, .int .u64 a] 25))) (by with_reducible assumption) qk (by dsimp only; omega) (by with_reducible assumption); have qb : Bh (w1.alloc (.cells #[tg, pe, ty, mo, lE, lB, lT, lG, .int .u64 a] 25)) (w1.heap.size + 1) w' := Bh.step (by with_reducible assumption) qk; have ql := qb.le; (try have hx := Kp.chain hy qk (by first | exact Nat.le_refl _ | (simp; done) | (simp; omega))); (try have hx1 := (Kp.up1 hx).1); (try have hx2 := (Kp.up1 hx).2.1); (try have hx3 := (Kp.up1 hx).2.2); (try have hy := Kp.chain hz qk (by first | exact Nat.le_refl _ | (simp; done) | (simp; omega))); (try have hy1 := (Kp.up1 hy).1); (try have hy2 := (Kp.up1 hy).2.1); (try have hy3 := (Kp.up1 hy).2.2); obtain ⟨hc, hf, hz⟩ := qk.cells; (try have hz1 := (Kp.up1 hz).1); (try have hz2 := (Kp.up1 hz).2.1); (try have hz3 := (Kp.up1 hz).2.2); clear qk)
        | (go_at_call 16; go_split_ands; with_reducible refine (OC.out _).mono ?_; rintro e w' ⟨rfl, qk⟩; have q0 : w'.cell? ⟨w.heap.size, 8, none⟩ = some (.int .u64 a) := Bh.cell (n := w1.heap.size + 1) (W := (w1.alloc (.cells #[tg, pe, ty, mo, lE, lB, lT, lG, .int .u64 a] 25))) (by with_reducible assumption) qk (by dsimp only; omega) (by with_reducible assumption); have q1 : w'.cell? ⟨w1.heap.size, 0, none⟩ = some (.bool tg) := Bh.cell (n := w1.heap.size + 1) (W := (w1.alloc (.cells #[tg, pe, ty, mo, lE, lB, lT, lG, .int .u64 a] 25))) (by with_reducible assumption) qk (by dsimp only; omega) (by with_reducible assumption); have q2 : w'.cell? ⟨w1.heap.size, 1, none⟩ = some (.int .i64 pe) := Bh.cell (n := w1.heap.size + 1) (W := (w1.alloc (.cells #[tg, pe, ty, mo, lE, lB, lT, lG, .int .u64 a] 25))) (by with_reducible assumption) qk (by dsimp only; omega) (by with_reducible assumption); have q3 : w'.cell? ⟨w1.heap.size, 2, none⟩ = some (.int .i64 ty) := Bh.cell (n := w1.heap.size + 1) (W := (w1.alloc (.cells #[tg, pe, ty, mo, lE, lB, lT, lG, .int .u64 a] 25))) (by with_reducible assumption) qk (by dsimp only; omega) (by with_reducible assumption); have q4 : w'.cell? ⟨w1.heap.size, 3, none⟩ = some (.int .i64 mo) := Bh.cell (n := w1.heap.size + 1) (W := (w1.alloc (.cells #[tg, pe, ty, mo, lE, lB, lT, lG, .int .u64 a] 25))) (by with_reducible assumption) qk (by dsimp only; omega) (by with_reducible assumption); have q5 : w'.cell? ⟨w1.heap.size, 4, none⟩ = some (.int .i64 lE) := Bh.cell (n := w1.heap.size + 1) (W := (w1.alloc (.cells #[tg, pe, ty, mo, lE, lB, lT, lG, .int .u64 a] 25))) (by with_reducible assumption) qk (by dsimp only; omega) (by with_reducible assumption); have q6 : w'.cell? ⟨w1.heap.size, 5, none⟩ = some (.int .i64 lB) := Bh.cell (n := w1.heap.size + 1) (W := (w1.alloc (.cells #[tg, pe, ty, mo, lE, lB, lT, lG, .int .u64 a] 25))) (by with_reducible assumption) qk (by dsimp only; omega) (by with_reducible assumption); have q7 : w'.cell? ⟨w1.heap.size, 6, none⟩ = some (.int .i64 lT) := Bh.cell (n := w1.heap.size + 1) (W := (w1.alloc (.cells #[tg, pe, ty, mo, lE, lB, lT, lG, .int .u64 a] 25))) (by with_reducible assumption) qk (by dsimp only; omega) (by with_reducible assumption); have q8 : w'.cell? ⟨w1.heap.size, 7, none⟩ = some (.bool lG) := Bh.cell (n := w1.heap.size + 1) (W := (w1.alloc (.cells #[tg, pe, ty, mo, lE, lB, lT, lG, .int .u64 a] 25))) (by with_reducible assumption) qk (by dsimp only; omega) (by with_reducible assumption); have q9 : w'.cell? ⟨w1.heap.size, 8, none⟩ = some (.int .u64 a) := Bh.cell (n := w1.heap.size + 1) (W := (w1.alloc (.cells #[tg, pe, ty, mo, lE, lB, lT, lG, .int .u64 a] 25))) (by with_reducible assumption) qk (by dsimp only; omega) (by with_reducible assumption); have qb : Bh (w1.alloc (.cells #[tg, pe, ty, mo, lE, lB, lT, lG, .int .u64 a] 25)) (w1.heap.size + 1) w' := Bh.step (by with_reducible assumption) qk; have ql := qb.le; (try have hx := Kp.chain hy qk (by first | exact Nat.le_refl _ | (simp; done) | (simp; omega))); (try have hx1 := (Kp.up1 hx).1); (try have hx2 := (Kp.up1 hx).2.1); (try have hx3 := (Kp.up1 hx).2.2); (try have hy := Kp.chain hz qk (by first | exact Nat.le_refl _ | (simp; done) | (simp; omega))); (try have hy1 := (Kp.up1 hy).1); (try have hy2 := (Kp.up1 hy).2.1); (try have hy3 := (Kp.up1 hy).2.2); obtain ⟨hc, hf, hz⟩ := qk.cells; (try have hz1 := (Kp.up1 hz).1); (try have hz2 := (Kp.up1 hz).2.1); (try have hz3 := (Kp.up1 hz).2.2); clear qk))
    all_goals
      rename_i hh
      have hB := hh.2.2.2.2.2.2.2.2.2.2
      clear hh
      go_wp2_with fail
      go_meet
      refine ⟨_, _, rfl, rfl, ?_, ?_, ?_, ?_, ?_, ?_, ?_, ?_, ?_, ?_, hB.kp⟩
    all_goals first
      | (simp [go_sem, *]; done)
      | omega
      | (simp (maxDischargeDepth := 8) [go_sem, *]; done)
      | (simp; omega)
      | (simp [*]; omega)
  case rest =>
    obtain ⟨i, j, rfl, rfl, i0, i1, i2, j0, j1, j2, hi, hj, hil, hjl, hkp⟩ := hcut
    have hzc : w1.heap.size + 1 ≤ wc.heap.size := by have := hkp.size; simpa using this
    have B0 : At (w.heap.size) [tg, pe, ty, mo, e, b, t, g, .int .u64 a] wc := At.kp Az0 hkp (by simp; omega)
    have B1 : Rm (w.heap.size + 1) 9 wc := Rm.kp Rz1 hkp (by simp; omega)
    have B2 : At (w1.heap.size) [tg, pe, ty, mo, lE, lB, lT, lG, .int .u64 a] wc := At.kp Az2 hkp (by simp)
    have B3 : At (i) [.int .u64 a, .int .u64 aT, aO] wc := at3 i0 i1 i2
    have B4 : At (j) [.int .u64 mB, .int .u64 mT, mO] wc := at3 j0 j1 j2
    have kc : Bh w (wc.heap.size) wc := ⟨kz.kp.trans hkp, (kz.kp.trans hkp).size, Nat.le_refl _⟩
    obtain ⟨N, hN⟩ : ∃ N, wc.heap.size = N := ⟨_, rfl⟩
    rw [hN] at hzc hil hjl kc
    clear Az0 Rz1 Az2 kz kz0 kbw1 hkp i0 i1 i2 j0 j1 j2 hN
    go_upto_region 3 with fail
    go_cut [11] (fun s11 wx => s11 = .bool lv ∧ At (w.heap.size) [tg, pe, ty, mo, e, b, t, g, .int .u64 a] wx ∧ Rm (w.heap.size + 1) 9 wx ∧ At (w1.heap.size) [tg, pe, ty, mo, lE, lB, lT, lG, .int .u64 a] wx ∧ At (i) [.int .u64 a, .int .u64 aT, aO] wx ∧ At (j) [.int .u64 mB, .int .u64 mT, mO] wx ∧ Bh w N wx)
    case first =>
      cases w1v
      all_goals
        refine wp_region_held_drew (S := (fun w' => At (w.heap.size) [tg, pe, ty, mo, e, b, t, g, .int .u64 a] w' ∧ Rm (w.heap.size + 1) 9 w' ∧ At (w1.heap.size) [tg, pe, ty, mo, lE, lB, lT, lG, .int .u64 a] w' ∧ At (i) [.int .u64 a, .int .u64 aT, aO] w' ∧ At (j) [.int .u64 mB, .int .u64 mT, mO] w' ∧ Bh w (N) w')) (by kernel_rfl) ⟨At.drew (by with_reducible assumption), Rm.drew (by with_reducible assumption), At.drew (by with_reducible assumption), At.drew (by with_reducible assumption), At.drew (by with_reducible assumption), Bh.drew (by with_reducible assumption)⟩ (fun hS => ?_)
        (refine tk 0 ?_ rfl (Or.inl ⟨by rfl, ?_⟩) hS ?_; rotate_left; focus (intro w' hSw; obtain ⟨s0, s1, s2, s3, s4, sb⟩ := hSw; obtain ⟨_, _, _, _, _, _, _, _, _⟩ := s0.out9; obtain ⟨_, _, _, _, _, _, _, _, _⟩ := s2.out9; obtain ⟨_, _, _⟩ := s3.out3; obtain ⟨_, _, _⟩ := s4.out3; go_simp <;> try with_reducible rfl))
        try simp only [Act.put, zA, zB, zC]
        (refine tk 1 ?_ rfl (Or.inl ⟨by rfl, ?_⟩) hS ?_; rotate_left; focus (intro w' hSw; obtain ⟨s0, s1, s2, s3, s4, sb⟩ := hSw; obtain ⟨_, _, _, _, _, _, _, _, _⟩ := s0.out9; obtain ⟨_, _, _, _, _, _, _, _, _⟩ := s2.out9; obtain ⟨_, _, _⟩ := s3.out3; obtain ⟨_, _, _⟩ := s4.out3; go_simp <;> try with_reducible rfl))
        try simp only [Act.put, zA, zB, zC]
        refine rdy 2 rfl (fun K hK => ?_)
        (first | (refine take_if (by rfl) ?_; obtain ⟨s0, s1, s2, s3, s4, sb⟩ := hS; go_simp; (with_reducible refine (WA.out _).mono ?_); rintro e' w' ⟨rfl, qk⟩; have t0 := At.kp s0 qk (Nat.lt_of_lt_of_le (show w.heap.size < N by omega) sb.le); have t1 := Rm.kp s1 qk (Nat.lt_of_lt_of_le (show w.heap.size + 1 < N by omega) sb.le); have t2 := At.kp s2 qk (Nat.lt_of_lt_of_le (show w1.heap.size < N by omega) sb.le); have t3 := At.kp s3 qk (Nat.lt_of_lt_of_le (show i < N by omega) sb.le); have t4 := At.kp s4 qk (Nat.lt_of_lt_of_le (show j < N by omega) sb.le); have tb := Bh.step sb qk; clear qk; refine hK.out _ _ ⟨t0, t1, t2, t3, t4, tb⟩ (fun hS => ?_)) | (refine take_if (by rfl) ?_; obtain ⟨s0, s1, s2, s3, s4, sb⟩ := hS; go_simp; (with_reducible refine (WB.out _).mono ?_); rintro e' w' ⟨rfl, qk⟩; have t0 := At.kp s0 qk (Nat.lt_of_lt_of_le (show w.heap.size < N by omega) sb.le); have t1 := Rm.kp s1 qk (Nat.lt_of_lt_of_le (show w.heap.size + 1 < N by omega) sb.le); have t2 := At.kp s2 qk (Nat.lt_of_lt_of_le (show w1.heap.size < N by omega) sb.le); have t3 := At.kp s3 qk (Nat.lt_of_lt_of_le (show i < N by omega) sb.le); have t4 := At.kp s4 qk (Nat.lt_of_lt_of_le (show j < N by omega) sb.le); have tb := Bh.step sb qk; clear qk; refine hK.out _ _ ⟨t0, t1, t2, t3, t4, tb⟩ (fun hS => ?_)))
        clear hK K
        try simp only [Act.put, zA, zB, zC]
        (refine tk 3 ?_ rfl (Or.inl ⟨by rfl, ?_⟩) hS ?_; rotate_left; focus (intro w' hSw; obtain ⟨s0, s1, s2, s3, s4, sb⟩ := hSw; go_simp <;> try with_reducible rfl))
        try simp only [Act.put, zA, zB, zC]
        (refine tk 4 ?_ rfl ?_ hS ?_; rotate_left; focus (first | (refine Or.inl ⟨by rfl, ?_⟩; intro w' hSw; obtain ⟨s0, s1, s2, s3, s4, sb⟩ := hSw; obtain ⟨_, _, _, _, _, _, _, _, _⟩ := s0.out9; obtain ⟨_, _, _, _, _, _, _, _, _⟩ := s2.out9; obtain ⟨_, _, _⟩ := s3.out3; obtain ⟨_, _, _⟩ := s4.out3; go_simp <;> try with_reducible rfl) | (refine Or.inr ⟨by rfl, ?_⟩; rfl)))
        try simp only [Act.put, zA, zB, zC]
        (refine tk 5 ?_ rfl ?_ hS ?_; rotate_left; focus (first | (refine Or.inl ⟨by rfl, ?_⟩; intro w' hSw; obtain ⟨s0, s1, s2, s3, s4, sb⟩ := hSw; obtain ⟨_, _, _, _, _, _, _, _, _⟩ := s0.out9; obtain ⟨_, _, _, _, _, _, _, _, _⟩ := s2.out9; obtain ⟨_, _, _⟩ := s3.out3; obtain ⟨_, _, _⟩ := s4.out3; go_simp <;> try with_reducible rfl) | (refine Or.inr ⟨by rfl, ?_⟩; rfl)))
        try simp only [Act.put, zA, zB, zC]
        refine rdy 6 rfl (fun K hK => ?_)
        (first | (refine take_if (by rfl) ?_; obtain ⟨s0, s1, s2, s3, s4, sb⟩ := hS; go_simp; (with_reducible refine (OO.out _).mono ?_); rintro e' w' ⟨rfl, qk⟩; have t0 := At.kp s0 qk (Nat.lt_of_lt_of_le (show w.heap.size < N by omega) sb.le); have t1 := Rm.kp s1 qk (Nat.lt_of_lt_of_le (show w.heap.size + 1 < N by omega) sb.le); have t2 := At.kp s2 qk (Nat.lt_of_lt_of_le (show w1.heap.size < N by omega) sb.le); have t3 := At.kp s3 qk (Nat.lt_of_lt_of_le (show i < N by omega) sb.le); have t4 := At.kp s4 qk (Nat.lt_of_lt_of_le (show j < N by omega) sb.le); have tb := Bh.step sb qk; clear qk; refine hK.out _ _ ⟨t0, t1, t2, t3, t4, tb⟩ (fun hS => ?_)) | (refine skip_if (by rfl) ?_; refine hK.out _ _ hS (fun hS => ?_)))
        clear hK K
        try simp only [Act.put, zA, zB, zC]
        refine rdy 7 rfl (fun K hK => ?_)
        (first | (refine take_if (by rfl) ?_; obtain ⟨s0, s1, s2, s3, s4, sb⟩ := hS; go_simp; (with_reducible refine (WA.out _).mono ?_); rintro e' w' ⟨rfl, qk⟩; have t0 := At.kp s0 qk (Nat.lt_of_lt_of_le (show w.heap.size < N by omega) sb.le); have t1 := Rm.kp s1 qk (Nat.lt_of_lt_of_le (show w.heap.size + 1 < N by omega) sb.le); have t2 := At.kp s2 qk (Nat.lt_of_lt_of_le (show w1.heap.size < N by omega) sb.le); have t3 := At.kp s3 qk (Nat.lt_of_lt_of_le (show i < N by omega) sb.le); have t4 := At.kp s4 qk (Nat.lt_of_lt_of_le (show j < N by omega) sb.le); have tb := Bh.step sb qk; clear qk; refine hK.out _ _ ⟨t0, t1, t2, t3, t4, tb⟩ (fun hS => ?_)) | (refine take_if (by rfl) ?_; obtain ⟨s0, s1, s2, s3, s4, sb⟩ := hS; go_simp; (with_reducible refine (WB.out _).mono ?_); rintro e' w' ⟨rfl, qk⟩; have t0 := At.kp s0 qk (Nat.lt_of_lt_of_le (show w.heap.size < N by omega) sb.le); have t1 := Rm.kp s1 qk (Nat.lt_of_lt_of_le (show w.heap.size + 1 < N by omega) sb.le); have t2 := At.kp s2 qk (Nat.lt_of_lt_of_le (show w1.heap.size < N by omega) sb.le); have t3 := At.kp s3 qk (Nat.lt_of_lt_of_le (show i < N by omega) sb.le); have t4 := At.kp s4 qk (Nat.lt_of_lt_of_le (show j < N by omega) sb.le); have tb := Bh.step sb qk; clear qk; refine hK.out _ _ ⟨t0, t1, t2, t3, t4, tb⟩ (fun hS => ?_)) | (refine skip_if (by rfl) ?_; refine hK.out _ _ hS (fun hS => ?_)))
        clear hK K
        try simp only [Act.put, zA, zB, zC]
        (refine tk 8 ?_ rfl (Or.inl ⟨by rfl, ?_⟩) hS ?_; rotate_left; focus (intro w' hSw; obtain ⟨s0, s1, s2, s3, s4, sb⟩ := hSw; go_simp <;> try with_reducible rfl))
        try simp only [Act.put, zA, zB, zC]
        (refine tk 9 ?_ rfl (Or.inl ⟨by rfl, ?_⟩) hS ?_; rotate_left; focus (intro w' hSw; obtain ⟨s0, s1, s2, s3, s4, sb⟩ := hSw; go_simp <;> try with_reducible rfl))
        try simp only [Act.put, zA, zB, zC]
        refine wpAnyH_done (by kernel_rfl) ?_ _
        obtain ⟨s0, s1, s2, s3, s4, sb⟩ := hS
        obtain ⟨_, _, _, _, _, _, _, _, _⟩ := s0.out9; obtain ⟨_, _, _, _, _, _, _, _, _⟩ := s2.out9; obtain ⟨_, _, _⟩ := s3.out3; obtain ⟨_, _, _⟩ := s4.out3
        go_wp2_with fail
        go_meet
        exact ⟨congrArg Value.bool HL.out, s0, s1, s2, s3, s4, sb⟩
    case rest =>
      obtain ⟨rfl, C0, C1, C2, C3, C4, kd⟩ := hcut
      clear B0 B1 B2 B3 B4 kc
      cases ov <;> cases lv <;> cases x
      all_goals
        have h1 := HV.out
        simp only [Bool.false_and, Bool.and_false, Bool.true_and, Bool.not_true, Bool.not_false, Bool.true_or, Bool.false_or] at h1
        have HW := Lib.hid h1
        clear h1
        go_upto_region 4 with fail
        refine wp_region_held_drew (S := (fun w' => At (w.heap.size) [tg, pe, ty, mo, e, b, t, g, .int .u64 a] w' ∧ Rm (w.heap.size + 1) 9 w' ∧ At (w1.heap.size) [tg, pe, ty, mo, lE, lB, lT, lG, .int .u64 a] w' ∧ At (i) [.int .u64 a, .int .u64 aT, aO] w' ∧ At (j) [.int .u64 mB, .int .u64 mT, mO] w' ∧ Bh w (N) w')) (by kernel_rfl) ⟨At.drew (by with_reducible assumption), Rm.drew (by with_reducible assumption), At.drew (by with_reducible assumption), At.drew (by with_reducible assumption), At.drew (by with_reducible assumption), Bh.drew (by with_reducible assumption)⟩ (fun hS => ?_)
        (refine tk 0 ?_ rfl (Or.inl ⟨by rfl, ?_⟩) hS ?_; rotate_left; focus (intro w' hSw; obtain ⟨s0, s1, s2, s3, s4, sb⟩ := hSw; obtain ⟨_, _, _, _, _, _, _, _, _⟩ := s0.out9; obtain ⟨_, _, _, _, _, _, _, _, _⟩ := s2.out9; obtain ⟨_, _, _⟩ := s3.out3; obtain ⟨_, _, _⟩ := s4.out3; go_simp <;> try with_reducible rfl))
        try simp only [Act.put, zA, zB, zC]
        (refine tk 1 ?_ rfl (Or.inl ⟨by rfl, ?_⟩) hS ?_; rotate_left; focus (intro w' hSw; obtain ⟨s0, s1, s2, s3, s4, sb⟩ := hSw; obtain ⟨_, _, _, _, _, _, _, _, _⟩ := s0.out9; obtain ⟨_, _, _, _, _, _, _, _, _⟩ := s2.out9; obtain ⟨_, _, _⟩ := s3.out3; obtain ⟨_, _, _⟩ := s4.out3; go_simp <;> try with_reducible rfl))
        try simp only [Act.put, zA, zB, zC]
        refine rdy 2 rfl (fun K hK => ?_)
        (refine take_if (by rfl) ?_; obtain ⟨s0, s1, s2, s3, s4, sb⟩ := hS; go_simp; (with_reducible refine (open_w _ _ _ _ _ _ _ _ _ _ HO.out _).mono ?_); rintro e' w' ⟨rfl, qk⟩; have t0 := At.kp s0 qk (Nat.lt_of_lt_of_le (show w.heap.size < N by omega) sb.le); have t1 := Rm.kp s1 qk (Nat.lt_of_lt_of_le (show w.heap.size + 1 < N by omega) sb.le); have t2 := At.kp s2 qk (Nat.lt_of_lt_of_le (show w1.heap.size < N by omega) sb.le); have t3 := At.kp s3 qk (Nat.lt_of_lt_of_le (show i < N by omega) sb.le); have t4 := At.kp s4 qk (Nat.lt_of_lt_of_le (show j < N by omega) sb.le); have tb := Bh.step sb qk; clear qk; refine hK.out _ _ ⟨t0, t1, t2, t3, t4, tb⟩ (fun hS => ?_))
        clear hK K
        try simp only [Act.put, zA, zB, zC]
        (refine tk 3 ?_ rfl (Or.inl ⟨by rfl, ?_⟩) hS ?_; rotate_left; focus (intro w' hSw; obtain ⟨s0, s1, s2, s3, s4, sb⟩ := hSw; go_simp <;> try with_reducible rfl))
        try simp only [Act.put, zA, zB, zC]
        (refine tk 4 ?_ rfl ?_ hS ?_; rotate_left; focus (first | (refine Or.inl ⟨by rfl, ?_⟩; intro w' hSw; obtain ⟨s0, s1, s2, s3, s4, sb⟩ := hSw; go_simp <;> try with_reducible rfl) | (refine Or.inr ⟨by rfl, ?_⟩; rfl)))
        try simp only [Act.put, zA, zB, zC]
        (refine tk 5 ?_ rfl (Or.inl ⟨by rfl, ?_⟩) hS ?_; rotate_left; focus (intro w' hSw; obtain ⟨s0, s1, s2, s3, s4, sb⟩ := hSw; go_simp <;> try with_reducible rfl))
        try simp only [Act.put, zA, zB, zC]
        (refine tk 6 ?_ rfl (Or.inl ⟨by rfl, ?_⟩) hS ?_; rotate_left; focus (intro w' hSw; obtain ⟨s0, s1, s2, s3, s4, sb⟩ := hSw; go_simp <;> try with_reducible rfl))
        try simp only [Act.put, zA, zB, zC]
        (refine tk 7 ?_ rfl ?_ hS ?_; rotate_left; focus (first | (refine Or.inl ⟨by rfl, ?_⟩; intro w' hSw; obtain ⟨s0, s1, s2, s3, s4, sb⟩ := hSw; go_simp <;> try with_reducible rfl) | (refine Or.inr ⟨by rfl, ?_⟩; rfl)))
        try simp only [Act.put, zA, zB, zC]
        (refine tk 8 ?_ rfl ?_ hS ?_; rotate_left; focus (first | (refine Or.inl ⟨by rfl, ?_⟩; intro w' hSw; obtain ⟨s0, s1, s2, s3, s4, sb⟩ := hSw; go_simp <;> try with_reducible rfl) | (refine Or.inr ⟨by rfl, ?_⟩; rfl)))
        try simp only [Act.put, zA, zB, zC]
        (refine tk 9 ?_ rfl ?_ hS ?_; rotate_left; focus (first | (refine Or.inl ⟨by rfl, ?_⟩; intro w' hSw; obtain ⟨s0, s1, s2, s3, s4, sb⟩ := hSw; go_simp <;> try with_reducible rfl) | (refine Or.inr ⟨by rfl, ?_⟩; rfl)))
        try simp only [Act.put, zA, zB, zC]
        (refine tk 10 ?_ rfl ?_ hS ?_; rotate_left; focus (first | (refine Or.inl ⟨by rfl, ?_⟩; intro w' hSw; obtain ⟨s0, s1, s2, s3, s4, sb⟩ := hSw; obtain ⟨_, _, _, _, _, _, _, _, _⟩ := s0.out9; obtain ⟨_, _, _, _, _, _, _, _, _⟩ := s2.out9; obtain ⟨_, _, _⟩ := s3.out3; obtain ⟨_, _, _⟩ := s4.out3; go_simp <;> try with_reducible rfl) | (refine Or.inr ⟨by rfl, ?_⟩; rfl)))
        try simp only [Act.put, zA, zB, zC]
        (refine tk 11 ?_ rfl ?_ hS ?_; rotate_left; focus (first | (refine Or.inl ⟨by rfl, ?_⟩; intro w' hSw; obtain ⟨s0, s1, s2, s3, s4, sb⟩ := hSw; obtain ⟨_, _, _, _, _, _, _, _, _⟩ := s0.out9; obtain ⟨_, _, _, _, _, _, _, _, _⟩ := s2.out9; obtain ⟨_, _, _⟩ := s3.out3; obtain ⟨_, _, _⟩ := s4.out3; go_simp <;> try with_reducible rfl) | (refine Or.inr ⟨by rfl, ?_⟩; rfl)))
        try simp only [Act.put, zA, zB, zC]
        (refine tk 12 ?_ rfl ?_ hS ?_; rotate_left; focus (first | (refine Or.inl ⟨by rfl, ?_⟩; intro w' hSw; obtain ⟨s0, s1, s2, s3, s4, sb⟩ := hSw; go_simp <;> try with_reducible rfl) | (refine Or.inr ⟨by rfl, ?_⟩; rfl)))
        try simp only [Act.put, zA, zB, zC]
        (refine tk 13 ?_ rfl ?_ hS ?_; rotate_left; focus (first | (refine Or.inl ⟨by rfl, ?_⟩; intro w' hSw; obtain ⟨s0, s1, s2, s3, s4, sb⟩ := hSw; go_simp <;> try with_reducible rfl) | (refine Or.inr ⟨by rfl, ?_⟩; rfl)))
        try simp only [Act.put, zA, zB, zC]
        (refine tk 14 ?_ rfl (Or.inl ⟨by rfl, ?_⟩) hS ?_; rotate_left; focus (intro w' hSw; obtain ⟨s0, s1, s2, s3, s4, sb⟩ := hSw; go_simp <;> try with_reducible rfl))
        try simp only [Act.put, zA, zB, zC]
        refine rdy 15 rfl (fun K hK => ?_)
        (refine take_if (by rfl) ?_; obtain ⟨s0, s1, s2, s3, s4, sb⟩ := hS; go_simp; (with_reducible refine (tagged_w _ _ _ _ _ _ _ _ _ _ v (by exact tag_fin HW.out (fun h => by first | exact HT.out rfl | exact absurd h (by decide))) _).mono ?_); rintro e' w' ⟨rfl, qk⟩; have t0 := At.kp s0 qk (Nat.lt_of_lt_of_le (show w.heap.size < N by omega) sb.le); have t1 := Rm.kp s1 qk (Nat.lt_of_lt_of_le (show w.heap.size + 1 < N by omega) sb.le); have t2 := At.kp s2 qk (Nat.lt_of_lt_of_le (show w1.heap.size < N by omega) sb.le); have t3 := At.kp s3 qk (Nat.lt_of_lt_of_le (show i < N by omega) sb.le); have t4 := At.kp s4 qk (Nat.lt_of_lt_of_le (show j < N by omega) sb.le); have tb := Bh.step sb qk; clear qk; refine hK.out _ _ ⟨t0, t1, t2, t3, t4, tb⟩ (fun hS => ?_))
        clear hK K
        try simp only [Act.put, zA, zB, zC]
        refine rdy 16 rfl (fun K hK => ?_)
        obtain ⟨s0, s1, s2, s3, s4, sb⟩ := hS
        obtain ⟨_, _, _, _, _, _, _, _, _⟩ := s0.out9; obtain ⟨_, _, _, _, _, _, _, _, _⟩ := s2.out9; obtain ⟨_, _, _⟩ := s3.out3; obtain ⟨_, _, _⟩ := s4.out3
        obtain ⟨⟨_, _⟩, _, ⟨_, _⟩, _, ⟨_, _⟩, _, ⟨_, _⟩, _, ⟨_, _⟩, _, ⟨_, _⟩, _, ⟨_, _⟩, _, ⟨_, _⟩, _, ⟨_, _⟩, _⟩ := s1.out9; 
        go_simp
        refine hK.out _ _ ⟨?_, ?_, ?_, ?_, ?_, ?_⟩ (fun hS => ?_)
        · repeat' (first | with_reducible assumption | (with_reducible refine At.set ?_ ?_ _))
          all_goals first | with_reducible assumption | (dsimp only; omega)
        · repeat' (first | with_reducible assumption | (with_reducible refine Rm.set ?_ _))
          all_goals first | with_reducible assumption | (dsimp only; omega)
        · repeat' (first | with_reducible assumption | (with_reducible refine At.set ?_ ?_ _))
          all_goals first | with_reducible assumption | (dsimp only; omega)
        · repeat' (first | with_reducible assumption | (with_reducible refine At.set ?_ ?_ _))
          all_goals first | with_reducible assumption | (dsimp only; omega)
        · repeat' (first | with_reducible assumption | (with_reducible refine At.set ?_ ?_ _))
          all_goals first | with_reducible assumption | (dsimp only; omega)
        · repeat' (first | with_reducible assumption | with_reducible refine Bh.set2 ?_ ?_)
          all_goals first | with_reducible assumption | (dsimp only; omega)
        clear hK K hS
        try simp only [Act.put, zA, zB, zC]
        refine wpAnyH_done (by kernel_rfl) ?_ _
        go_wp2
        refine bodyPost_ret (v := .agg #[v, pe, ty, mo, lE, lB, lT, lG, .int .u64 a]) ?_ rfl ⟨rfl, ?_⟩
        · simp [results, Try.results5, go_sem, *]
        · repeat' (first | with_reducible refine Kp.setCell ?_ ?_ _ | with_reducible refine Kp.allocs ?_ _ _)
          all_goals first | exact sb.kp | (dsimp only; omega)
theorem bound_w (tg : Bool) (pe ty mo e b t : Int) (g : Bool) (a : Int) (n : Int) (x : Bool) (h : Fld e b t a) (n0 : 0 ≤ n) (n1 : n < 18446744073709551616) (v : Bool) (hv : boundB tg ty e b t g a n x = v) (w : World) :
    Calls Try.prog 5 #[.agg #[tg, pe, ty, mo, e, b, t, g, .int .u64 a], .int .u64 n, x] w fun e' w' => e' = .returned (.agg #[v, pe, ty, mo, .int .i64 (layE a n), .int .i64 (layB a n), .int .i64 (layT a n), .bool (bigB n), .int .u64 a]) ∧ Kp w w' := by
  have hl := lay_fld a n h.a0 h.a1 n0 n1
  have bm := ofT_bd (layE a n) (layB a n) (layT a n) (bigB n) a
  have bs : 0 ≤ spT a n ∧ spT a n < 18446744073709551616 := by unfold spT; omega
  exact bound_core tg pe ty mo e b t g a n (layE a n) (layB a n) (layT a n) (bigB n) (layX a n) (spT a n) (spO a n) (madeB a n) (madeT a n) (madeO a n) (ofB e b a) (ofT e b t g a) (ofO e b t g a)
    (askB a n) (wiB e b t g a (layE a n) (layB a n) (layT a n) (bigB n) a) _ (justB a n) _ x v
    (Lib.hid (fun w => lay_w tg pe ty mo e b t g a n h.a0 h.a1 n0 n1 w))
    (Lib.hid (fun w => of_c tg pe ty mo (layE a n) (layB a n) (layT a n) (bigB n) a hl w))
    (Lib.hid (fun w => span_w a n h.a0 h.a1 n0 n1 w))
    (Lib.hid (fun w => of_c tg pe ty mo e b t g a h w))
    (Lib.hid (fun w => within_c _ _ _ _ _ _ bs.1 bs.2 bm.1 bm.2 _ rfl w))
    (Lib.hid (fun w => wi_c e b t g a _ _ _ _ _ _ rfl w))
    (fun w => range_eql _ _ _ _ _ _ w) rfl (Lib.hid rfl) (Lib.hid hv) (Lib.hid (fun h => by revert h; unfold openB; cases tg <;> simp)) w

end Go.Proofs.Ytkddgjaflcjhiaa
