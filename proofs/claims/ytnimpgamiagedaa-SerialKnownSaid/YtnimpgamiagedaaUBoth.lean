/-
  Both UARTs and both switches, in blocks of the call's own. No condition but what the calls lean on.
-/
import Derived.Test.YtnimpgamiagedaaUWorks
import Derived.Test.YtnimpgamiagedaaUList
namespace Go.Proofs.Ytnimpgamiagedaa
open Go.ChangeShapes Go.WideShapes Go.ChangeAt Go.RowKit
set_option linter.unusedVariables false
set_option linter.unusedSimpArgs false
structure BU (W w : World) (hi g g1 lo3 hi3 g3 g4 B : Nat) (v : Value) (S T : US) (p q : Bool) : Prop where
  u : Un w W.heap.size hi g S
  r : RU w B g1 v T
  s : Pn w lo3 hi3 g3 p
  y : RW w g4 q
  b : Below W.heap.size W w
  h1 : hi ≤ g1
  h2 : g1 < lo3
  h3 : hi3 ≤ g4
  h4 : g4 < B
  hB : B ≤ w.heap.size
section
variable {W w w' : World} {hi g g1 lo3 hi3 g3 g4 B : Nat} {v v' : Value} {S S' T T' : US} {p p' q q' : Bool}
theorem BU.ord (h : BU W w hi g g1 lo3 hi3 g3 g4 B v S T p q) : W.heap.size ≤ g ∧ g < hi ∧ hi ≤ g1 ∧ g1 < lo3 ∧ lo3 ≤ g3 ∧ g3 < hi3 ∧ hi3 ≤ g4 ∧ g4 < B ∧ B ≤ w.heap.size ∧ W.heap.size ≤ w.heap.size ∧ (∀ i, v.ownBlock = some i → B ≤ i ∧ i < w.heap.size) :=
  ⟨h.u.bot, h.u.gh, h.h1, h.h2, h.s.bot, h.s.gh, h.h3, h.h4, h.hB, h.b.size, fun i e => h.r.blk e⟩
theorem BU.uart (h : BU W w hi g g1 lo3 hi3 g3 g4 B v S T p q) (m : Un w' W.heap.size hi g S') (f : Fr w w' (Rg W.heap.size hi)) : BU W w' hi g g1 lo3 hi3 g3 g4 B v S' T p q := by
  obtain ⟨o1, o2, o3, o4, o5, o6, o7, o8, o9, o10, o11⟩ := h.ord
  exact ⟨m, h.r.fr f (fun x => by unfold Rg at x; omega) (fun i e x => by have := o11 i e; unfold Rg at x; omega), h.s.fr f (fun i a b x => by unfold Rg at x; omega), h.y.fr f (fun x => by unfold Rg at x; omega), h.b.trans (f.lows h.b.size (Nat.le_refl _)), o3, o4, o7, o8, Nat.le_trans o9 f.size⟩
theorem BU.power (h : BU W w hi g g1 lo3 hi3 g3 g4 B v S T p q) (m : Pn w' lo3 hi3 g3 p') (f : Fr w w' (Rg lo3 hi3)) : BU W w' hi g g1 lo3 hi3 g3 g4 B v S T p' q := by
  obtain ⟨o1, o2, o3, o4, o5, o6, o7, o8, o9, o10, o11⟩ := h.ord
  exact ⟨h.u.fr f (fun i a b x => by unfold Rg at x; omega), h.r.fr f (fun x => by unfold Rg at x; omega) (fun i e x => by have := o11 i e; unfold Rg at x; omega), m, h.y.fr f (fun x => by unfold Rg at x; omega), h.b.trans (f.lows h.b.size (by omega)), o3, o4, o7, o8, Nat.le_trans o9 f.size⟩
theorem BU.ruart (h : BU W w hi g g1 lo3 hi3 g3 g4 B v S T p q) (m : RU w' B g1 v' T') (f : Fr w w' (fun i => i = g1 ∨ v.ownBlock = some i)) : BU W w' hi g g1 lo3 hi3 g3 g4 B v' S T' p q := by
  obtain ⟨o1, o2, o3, o4, o5, o6, o7, o8, o9, o10, o11⟩ := h.ord
  refine ⟨h.u.fr f (fun i a b x => ?_), m, h.s.fr f (fun i a b x => ?_), h.y.fr f (fun x => ?_), h.b.trans (f.bl h.b.size (fun i x => ?_)), o3, o4, o7, o8, Nat.le_trans o9 f.size⟩
  all_goals
    rcases x with x | x
    · omega
    · have := o11 _ x; omega
theorem BU.rpower (h : BU W w hi g g1 lo3 hi3 g3 g4 B v S T p q) (m : RW w' g4 q') (f : Fr w w' (fun i => i = g4)) : BU W w' hi g g1 lo3 hi3 g3 g4 B v S T p q' := by
  obtain ⟨o1, o2, o3, o4, o5, o6, o7, o8, o9, o10, o11⟩ := h.ord
  exact ⟨h.u.fr f (fun i a b x => by omega), h.r.fr f (fun x => by omega) (fun i e x => by have := o11 i e; omega), h.s.fr f (fun i a b x => by omega), m, h.b.trans (f.bl h.b.size (fun i x => by omega)), o3, o4, o7, o8, Nat.le_trans o9 f.size⟩
theorem BU.bel (h : BU W w hi g g1 lo3 hi3 g3 g4 B v S T p q) (k : Below w.heap.size w w') : BU W w' hi g g1 lo3 hi3 g3 g4 B v S T p q := by
  obtain ⟨o1, o2, o3, o4, o5, o6, o7, o8, o9, o10, o11⟩ := h.ord
  exact ⟨h.u.below k, h.r.below k, h.s.below k, h.y.below k, h.b.trans (k.mono h.b.size), o3, o4, o7, o8, Nat.le_trans o9 k.size⟩
theorem BU.kp (h : BU W w hi g g1 lo3 hi3 g3 g4 B v S T p q) (k : Kp w w') : BU W w' hi g g1 lo3 hi3 g3 g4 B v S T p q := h.bel k.1
theorem BU.alloc (h : BU W w hi g g1 lo3 hi3 g3 g4 B v S T p q) (x : Obj) : BU W (w.alloc x) hi g g1 lo3 hi3 g3 g4 B v S T p q := h.bel ((Below.refl _ w).alloc (Nat.le_refl _) x)
theorem BU.drew (h : BU W w hi g g1 lo3 hi3 g3 g4 B v S T p q) : BU W w.drew hi g g1 lo3 hi3 g3 g4 B v S T p q := h.kp ((Kp.refl w).drew)
end
end Go.Proofs.Ytnimpgamiagedaa
