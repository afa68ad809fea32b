/-
  Less is an order: what is not sealed is no more than itself; what is no more than what is no more is no more; moved it is no more. Plain mathematics.
-/
import Derived.Test.YtkddgjaflcjhiaaODef
import Derived.Test.YtkddgjaflcjhiaaCLessF
import Derived.Test.YtkddgjaflcjhiaaCMove
namespace Go.Proofs.Ytkddgjaflcjhiaa
open Go.ChangeShapes Go.WideShapes Go.ChangeAt Go.RowKit
set_option linter.unusedVariables false
set_option linter.unusedSimpArgs false

theorem kb {f : FuncId} {args : Array Value} {w : World} {v : Ending} (h : Calls Try.prog f args w fun e' w' => e' = v ∧ Kp w w') : Calls Try.prog f args w fun e' w' => e' = v ∧ Below w.heap.size w w' :=
  h.mono fun _ _ h => ⟨h.1, h.2.1⟩
theorem less_iff (x y : Cp) : lessB x y = true ↔ x.tg = true ∧ x.sealed = false ∧ y.sealed = false ∧ y.tg = true ∧ wiB y.e y.b y.t y.g y.a x.e x.b x.t x.g x.a = true ∧ perB y.pe x.pe = true := by
  unfold lessB subB
  cases x.tg <;> cases y.tg <;> simp [and_assoc]
theorem less_refl (x : Cp) : lessB x x = (x.tg && !x.sealed) := by
  unfold lessB subB
  rw [wi_refl, per_refl]
  cases x.tg <;> cases x.sealed <;> rfl
theorem less_trans {x y z : Cp} (h : lessB x y = true) (k : lessB y z = true) : lessB x z = true := by
  rw [less_iff] at *
  obtain ⟨h1, h2, h3, h4, h5, h6⟩ := h
  obtain ⟨k1, k2, k3, k4, k5, k6⟩ := k
  exact ⟨h1, h2, k3, k4, wi_trans _ _ _ _ _ _ _ _ _ _ _ _ _ _ _ k5 h5, per_trans _ _ _ k6 h6⟩
theorem less_per {x y : Cp} (h : lessB x y = true) : (bits .andNot .i64 x.pe y.pe != 0) = false := by
  have := ((less_iff x y).1 h).2.2.2.2.2
  unfold perB at this
  simpa using this
theorem less_no (x y : Cp) (h : x.tg = false ∨ x.sealed = true) : lessB x y = false := by
  cases e : lessB x y
  · rfl
  · rw [less_iff] at e
    rcases h with h | h
    · rw [h] at e; exact absurd e.1 (by decide)
    · rw [h] at e; exact absurd e.2.1 (by decide)
/-- Moved, with a tag or without. -/
def mvC (x : Cp) (n : Int) (v : Bool) : Cp := { x with tg := v, a := n }
theorem less_move {x y : Cp} {n : Int} (h : lessB x y = true) (hm : moveT x.tg x.ty x.e x.b x.t x.g x.a n = true) : lessB (mvC x n true) y = true := by
  rw [less_iff] at *
  obtain ⟨h1, h2, h3, h4, h5, h6⟩ := h
  unfold moveT at hm
  rw [Bool.and_eq_true] at hm
  obtain ⟨e1, e2, e3⟩ := fits_eq _ _ _ _ _ _ hm.2
  refine ⟨rfl, h2, h3, h4, ?_, h6⟩
  show wiB y.e y.b y.t y.g y.a x.e x.b x.t x.g n = true
  unfold wiB at *
  rw [e1, e2, e3]; exact h5
theorem RC.mv {x : Cp} (h : RC x) {n : Int} (n0 : 0 ≤ n) (n1 : n < 18446744073709551616) (v : Bool) : RC (mvC x n v) :=
  ⟨h.p0, h.p1, h.y0, h.y1, h.o0, h.o1, ⟨h.f.e0, h.f.e1, h.f.b0, h.f.b1, h.f.t0, h.f.t1, n0, n1⟩⟩
end Go.Proofs.Ytkddgjaflcjhiaa
