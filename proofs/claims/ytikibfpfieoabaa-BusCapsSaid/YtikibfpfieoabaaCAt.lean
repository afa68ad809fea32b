/-
  Cells of a block, and room in a block, as a world changes: for regions that draw their order. No condition.
-/
import Derived.Test.YtikibfpfieoabaaKp
namespace Go.Proofs.Ytikibfpfieoabaa
open Go.ChangeShapes Go.WideShapes Go.ChangeAt Go.RowKit
set_option linter.unusedVariables false
set_option linter.unusedSimpArgs false

theorem take_if {b : Bool} {P Q : Prop} (h : b = true) (p : P) : if b = true then P else Q := by subst h; exact p
theorem skip_if {b : Bool} {P Q : Prop} (h : b = false) (q : Q) : if b = true then P else Q := by subst h; exact q
theorem Bh.set2 {W : World} {n : Nat} {w : World} {a : Addr} {u : Value} (h : Bh W n w) (ha : W.heap.size ≤ a.block) : Bh W n (w.setCell a u) :=
  ⟨h.kp.setCell ha u, h.lo, by simpa [World.setCell] using h.le⟩
/-- The cells of block B hold these values. -/
def At (B : Nat) (vs : List Value) (w : World) : Prop := ∀ (i : Nat) (v : Value), vs[i]? = some v → w.cell? ⟨B, i, none⟩ = some v
theorem At.kp {B : Nat} {vs : List Value} {w w' : World} (h : At B vs w) (k : Kp w w') (hB : B < w.heap.size) : At B vs w' :=
  fun i v hi => (k.cell (p := ⟨B, i, none⟩) hB).trans (h i v hi)
theorem At.drew {B : Nat} {vs : List Value} {w : World} (h : At B vs w) : At B vs w.drew := h
theorem At.alloc {B : Nat} {vs : List Value} {w : World} (h : At B vs w) (o : Obj) : At B vs (w.alloc o) := fun i v hi => by
  rw [World.cell?_alloc_some w _ o (by rw [h i v hi]; rfl)]; exact h i v hi
theorem At.set {B : Nat} {vs : List Value} {w : World} {p : Addr} (h : At B vs w) (hp : p.block ≠ B) (u : Value) : At B vs (w.setCell p u) := fun i v hi => by
  rw [World.cell?_of_block (w := w) (Below.heap_setCell w p u B (Ne.symm hp))]; exact h i v hi
theorem At.put {B : Nat} {vs : List Value} {w : World} (h : At B vs w) (i : Nat) (hi : i < vs.length) (u : Value) : At B (vs.set i u) (w.setCell ⟨B, i, none⟩ u) := fun j v hj => by
  by_cases e : i = j
  · subst e
    rw [List.getElem?_set_self hi] at hj
    cases hj
    simp [go_sem, h i _ (List.getElem?_eq_getElem hi)]
  · rw [List.getElem?_set_ne e] at hj
    rw [World.cell?_setCell_other w ⟨B, i, none⟩ ⟨B, j, none⟩ u (fun x => e (by cases x; rfl))]
    exact h j v hj
theorem At.new (w : World) (vs : List Value) (t : TypeId) : At w.heap.size vs (w.alloc (.cells vs.toArray t)) := fun i v hi => by
  have hh : (w.alloc (.cells vs.toArray t)).heap[w.heap.size]? = some (.cells vs.toArray t) := (MapKept.heap_alloc w _).1
  simp only [World.cell?, hh]; simpa using hi
theorem At.new' (w : World) (vs : List Value) (t : TypeId) {B : Nat} (hB : w.heap.size = B) : At B vs (w.alloc (.cells vs.toArray t)) := by subst hB; exact At.new w vs t
theorem At.out9 {B : Nat} {w : World} {v0 v1 v2 v3 v4 v5 v6 v7 v8 : Value} (h : At B [v0, v1, v2, v3, v4, v5, v6, v7, v8] w) : w.cell? ⟨B, 0, none⟩ = some v0 ∧ w.cell? ⟨B, 1, none⟩ = some v1 ∧ w.cell? ⟨B, 2, none⟩ = some v2 ∧ w.cell? ⟨B, 3, none⟩ = some v3 ∧ w.cell? ⟨B, 4, none⟩ = some v4 ∧ w.cell? ⟨B, 5, none⟩ = some v5 ∧ w.cell? ⟨B, 6, none⟩ = some v6 ∧ w.cell? ⟨B, 7, none⟩ = some v7 ∧ w.cell? ⟨B, 8, none⟩ = some v8 :=
  ⟨h 0 _ rfl, h 1 _ rfl, h 2 _ rfl, h 3 _ rfl, h 4 _ rfl, h 5 _ rfl, h 6 _ rfl, h 7 _ rfl, h 8 _ rfl⟩
theorem At.out3 {B : Nat} {w : World} {v0 v1 v2 : Value} (h : At B [v0, v1, v2] w) : w.cell? ⟨B, 0, none⟩ = some v0 ∧ w.cell? ⟨B, 1, none⟩ = some v1 ∧ w.cell? ⟨B, 2, none⟩ = some v2 := ⟨h 0 _ rfl, h 1 _ rfl, h 2 _ rfl⟩
theorem At.set9 {B C : Nat} {vs : List Value} {w : World} (h : At B vs w) (hB : C ≠ B) {v0 v1 v2 v3 v4 v5 v6 v7 v8 : Value} :
    At B vs (((((((((w.setCell ⟨C, 0, none⟩ v0).setCell ⟨C, 1, none⟩ v1).setCell ⟨C, 2, none⟩ v2).setCell ⟨C, 3, none⟩ v3).setCell ⟨C, 4, none⟩ v4).setCell ⟨C, 5, none⟩ v5).setCell ⟨C, 6, none⟩ v6).setCell ⟨C, 7, none⟩ v7).setCell ⟨C, 8, none⟩ v8) :=
  ((((((((h.set hB _).set hB _).set hB _).set hB _).set hB _).set hB _).set hB _).set hB _).set hB _
theorem Bh.set9 {W : World} {n C : Nat} {w : World} (h : Bh W n w) (hC : W.heap.size ≤ C) {v0 v1 v2 v3 v4 v5 v6 v7 v8 : Value} :
    Bh W n (((((((((w.setCell ⟨C, 0, none⟩ v0).setCell ⟨C, 1, none⟩ v1).setCell ⟨C, 2, none⟩ v2).setCell ⟨C, 3, none⟩ v3).setCell ⟨C, 4, none⟩ v4).setCell ⟨C, 5, none⟩ v5).setCell ⟨C, 6, none⟩ v6).setCell ⟨C, 7, none⟩ v7).setCell ⟨C, 8, none⟩ v8) :=
  ((((((((h.set2 hC).set2 hC).set2 hC).set2 hC).set2 hC).set2 hC).set2 hC).set2 hC).set2 hC
/-- Block B has room for k values. -/
def Rm (B k : Nat) (w : World) : Prop := ∀ i, i < k → (∃ v, w.cell? ⟨B, i, none⟩ = some v) ∧ w.frozen? ⟨B, i, none⟩ = false
theorem Rm.kp {B k : Nat} {w w' : World} (h : Rm B k w) (q : Kp w w') (hB : B < w.heap.size) : Rm B k w' := fun i hi => by
  obtain ⟨⟨v, c⟩, z⟩ := h i hi
  exact ⟨⟨v, (q.cell (p := ⟨B, i, none⟩) hB).trans c⟩, (q.2 _).trans z⟩
theorem Rm.drew {B k : Nat} {w : World} (h : Rm B k w) : Rm B k w.drew := h
theorem Rm.set {B k : Nat} {w : World} {p : Addr} (h : Rm B k w) (u : Value) : Rm B k (w.setCell p u) := fun i hi => by
  obtain ⟨⟨v, c⟩, z⟩ := h i hi
  refine ⟨?_, by rw [World.frozen?_setCell]; exact z⟩
  by_cases hp : (⟨B, i, none⟩ : Addr) = p
  · subst hp; exact ⟨u, by simp [go_sem, c]⟩
  · exact ⟨v, by rw [World.cell?_setCell_other w p _ u (fun e => hp e.symm)]; exact c⟩
theorem Rm.set9 {B k C : Nat} {w : World} (h : Rm B k w) {v0 v1 v2 v3 v4 v5 v6 v7 v8 : Value} :
    Rm B k (((((((((w.setCell ⟨C, 0, none⟩ v0).setCell ⟨C, 1, none⟩ v1).setCell ⟨C, 2, none⟩ v2).setCell ⟨C, 3, none⟩ v3).setCell ⟨C, 4, none⟩ v4).setCell ⟨C, 5, none⟩ v5).setCell ⟨C, 6, none⟩ v6).setCell ⟨C, 7, none⟩ v7).setCell ⟨C, 8, none⟩ v8) :=
  ((((((((h.set _).set _).set _).set _).set _).set _).set _).set _).set _
theorem Rm.of_at {B : Nat} {vs : List Value} {w : World} (k : Nat) (h : At B vs w) (hk : vs.length = k) (z : ∀ i, i < k → w.frozen? ⟨B, i, none⟩ = false) : Rm B k w := fun i hi =>
  ⟨⟨vs[i]'(by omega), h i _ (by simp [hk, hi])⟩, z i hi⟩
theorem Rm.out9 {B : Nat} {w : World} (h : Rm B 9 w) : (∃ v, w.cell? ⟨B, 0, none⟩ = some v) ∧ w.frozen? ⟨B, 0, none⟩ = false ∧ (∃ v, w.cell? ⟨B, 1, none⟩ = some v) ∧ w.frozen? ⟨B, 1, none⟩ = false ∧ (∃ v, w.cell? ⟨B, 2, none⟩ = some v) ∧ w.frozen? ⟨B, 2, none⟩ = false ∧ (∃ v, w.cell? ⟨B, 3, none⟩ = some v) ∧ w.frozen? ⟨B, 3, none⟩ = false ∧ (∃ v, w.cell? ⟨B, 4, none⟩ = some v) ∧ w.frozen? ⟨B, 4, none⟩ = false ∧ (∃ v, w.cell? ⟨B, 5, none⟩ = some v) ∧ w.frozen? ⟨B, 5, none⟩ = false ∧ (∃ v, w.cell? ⟨B, 6, none⟩ = some v) ∧ w.frozen? ⟨B, 6, none⟩ = false ∧ (∃ v, w.cell? ⟨B, 7, none⟩ = some v) ∧ w.frozen? ⟨B, 7, none⟩ = false ∧ (∃ v, w.cell? ⟨B, 8, none⟩ = some v) ∧ w.frozen? ⟨B, 8, none⟩ = false :=
  ⟨(h 0 (by omega)).1, (h 0 (by omega)).2, (h 1 (by omega)).1, (h 1 (by omega)).2, (h 2 (by omega)).1, (h 2 (by omega)).2, (h 3 (by omega)).1, (h 3 (by omega)).2, (h 4 (by omega)).1, (h 4 (by omega)).2, (h 5 (by omega)).1, (h 5 (by omega)).2, (h 6 (by omega)).1, (h 6 (by omega)).2, (h 7 (by omega)).1, (h 7 (by omega)).2, (h 8 (by omega)).1, (h 8 (by omega)).2⟩
theorem Rm.put {B k : Nat} {w : World} (h : Rm B k w) (i : Nat) (hi : i < k) (u : Value) : (w.setCell ⟨B, i, none⟩ u).cell? ⟨B, i, none⟩ = some u := by
  obtain ⟨⟨v, c⟩, z⟩ := h i hi
  simp [go_sem, c]
theorem cell_put {B i j : Nat} {w : World} {u v : Value} (h : w.cell? ⟨B, i, none⟩ = some v) (e : j ≠ i) : (w.setCell ⟨B, j, none⟩ u).cell? ⟨B, i, none⟩ = some v := by
  rw [World.cell?_setCell_other w ⟨B, j, none⟩ ⟨B, i, none⟩ u (fun x => e (by cases x; rfl))]; exact h
theorem At.put9 {B : Nat} {w : World} (h : Rm B 9 w) {v0 v1 v2 v3 v4 v5 v6 v7 v8 : Value} :
    At B [v0, v1, v2, v3, v4, v5, v6, v7, v8] (((((((((w.setCell ⟨B, 0, none⟩ v0).setCell ⟨B, 1, none⟩ v1).setCell ⟨B, 2, none⟩ v2).setCell ⟨B, 3, none⟩ v3).setCell ⟨B, 4, none⟩ v4).setCell ⟨B, 5, none⟩ v5).setCell ⟨B, 6, none⟩ v6).setCell ⟨B, 7, none⟩ v7).setCell ⟨B, 8, none⟩ v8) := fun i v hi => by
  have h1 := h.set (p := ⟨B, 0, none⟩) v0
  have h2 := h1.set (p := ⟨B, 1, none⟩) v1
  have h3 := h2.set (p := ⟨B, 2, none⟩) v2
  have h4 := h3.set (p := ⟨B, 3, none⟩) v3
  have h5 := h4.set (p := ⟨B, 4, none⟩) v4
  have h6 := h5.set (p := ⟨B, 5, none⟩) v5
  have h7 := h6.set (p := ⟨B, 6, none⟩) v6
  have h8 := h7.set (p := ⟨B, 7, none⟩) v7
  match i with
  | 0 => simp at hi; subst hi; exact cell_put (cell_put (cell_put (cell_put (cell_put (cell_put (cell_put (cell_put (h.put 0 (by omega) _) (by decide)) (by decide)) (by decide)) (by decide)) (by decide)) (by decide)) (by decide)) (by decide)
  | 1 => simp at hi; subst hi; exact cell_put (cell_put (cell_put (cell_put (cell_put (cell_put (cell_put (h1.put 1 (by omega) _) (by decide)) (by decide)) (by decide)) (by decide)) (by decide)) (by decide)) (by decide)
  | 2 => simp at hi; subst hi; exact cell_put (cell_put (cell_put (cell_put (cell_put (cell_put (h2.put 2 (by omega) _) (by decide)) (by decide)) (by decide)) (by decide)) (by decide)) (by decide)
  | 3 => simp at hi; subst hi; exact cell_put (cell_put (cell_put (cell_put (cell_put (h3.put 3 (by omega) _) (by decide)) (by decide)) (by decide)) (by decide)) (by decide)
  | 4 => simp at hi; subst hi; exact cell_put (cell_put (cell_put (cell_put (h4.put 4 (by omega) _) (by decide)) (by decide)) (by decide)) (by decide)
  | 5 => simp at hi; subst hi; exact cell_put (cell_put (cell_put (h5.put 5 (by omega) _) (by decide)) (by decide)) (by decide)
  | 6 => simp at hi; subst hi; exact cell_put (cell_put (h6.put 6 (by omega) _) (by decide)) (by decide)
  | 7 => simp at hi; subst hi; exact cell_put (h7.put 7 (by omega) _) (by decide)
  | 8 => simp at hi; subst hi; exact h8.put 8 (by omega) _
  | n + 9 => simp at hi
theorem Rm.new (w : World) (vs : List Value) (t : TypeId) (k : Nat) (hk : vs.length = k) : Rm w.heap.size k (w.alloc (.cells vs.toArray t)) :=
  Rm.of_at k (At.new w vs t) hk (fun i hi => by simp [go_sem])
theorem Rm.new' (w : World) (vs : List Value) (t : TypeId) (k : Nat) (hk : vs.length = k) {B : Nat} (hB : w.heap.size = B) : Rm B k (w.alloc (.cells vs.toArray t)) := by subst hB; exact Rm.new w vs t k hk
theorem Rm.alloc {B k : Nat} {w : World} (h : Rm B k w) (c : Array Value) (t : TypeId) : Rm B k (w.alloc (.cells c t)) := fun i hi => by
  obtain ⟨⟨v, e⟩, z⟩ := h i hi
  exact ⟨⟨v, by rw [World.cell?_alloc_some w _ _ (by rw [e]; rfl)]; exact e⟩, by rw [frozen?_alloc_cells]; exact z⟩
end Go.Proofs.Ytikibfpfieoabaa
