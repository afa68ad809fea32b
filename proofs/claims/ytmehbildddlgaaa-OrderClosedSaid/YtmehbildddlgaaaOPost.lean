/-
  What a closing call leaves; what holds of the closure's lists on the way. Plain mathematics, and rows that are kept. No condition.
-/
import Derived.Test.YtmehbildddlgaaaOClo
import Derived.Test.YtmehbildddlgaaaOFr
namespace Go.Proofs.Ytmehbildddlgaaa
open Go.ChangeShapes Go.WideShapes Go.ChangeAt Go.RowKit
set_option linter.unusedVariables false
set_option linter.unusedSimpArgs false

/-- What a closing call leaves: the closure, in new memory; nothing that was there has turned. -/
def CloPost (l : List Cp) (w : World) (e : Ending) (w' : World) : Prop := ∃ v out, e = .returned v ∧ IsClo l out ∧ OwnC w' w.heap.size v out ∧ Below w.heap.size w w'
def sliceLen : Value → Nat
  | .slice _ n _ => n
  | _ => 0
theorem Grown6.part {bs out : List Cp} (h : Grown6 bs out) (k : Nat) : Grown6 bs (roundC (out.take k) out) := by
  obtain ⟨⟨u, e, hu⟩, _⟩ := id h
  have e2 : roundC (out.take k) out = roundC (bs.take k) out := by
    have : out.take k = bs.take k ++ u.take (k - bs.length) := by rw [e, List.take_append]
    rw [this, round_append, fold_unsealed _ _ (fun x hx => (hu x (List.mem_of_mem_take hx)).1)]
  rw [e2]
  exact h.round _ (fun c hc => List.mem_of_mem_take hc)
theorem inner_step {bs out cur : List Cp} (h : Grown6 bs out) (k : Nat) (c : Cp) (hcur : cur = roundC (out.take k) out) (hc : cur[k]? = some c) : roundC (out.take (k + 1)) out = stepC cur c := by
  obtain ⟨u, e, _, hu⟩ := fold_pre (out.take k) out
  by_cases hk : k < out.length
  · have h1 : out[k]? = some c := by
      rw [hcur, e, List.getElem?_append_left hk] at hc; exact hc
    rw [hcur]; exact foldl_take _ _ _ _ _ h1
  · have h1 : out.take (k + 1) = out.take k := by rw [List.take_of_length_le (by omega), List.take_of_length_le (by omega)]
    rw [h1, ← hcur]
    rw [hcur, e, List.getElem?_append_right (by omega)] at hc
    exact (step_unsealed _ _ (hu c (List.mem_of_getElem? hc)).1).symm
/-- Right ones, each with a tag. -/
def AllT (L : List Cp) : Prop := ∀ c ∈ L, RC c ∧ c.tg = true
theorem base_all (l : List Cp) (h : ∀ c ∈ l, RC c) : AllT (baseL l) := fun c hc => by
  obtain ⟨h1, h2⟩ := (base_mem l c).1 hc; exact ⟨h c h1, h2⟩
theorem Grown6.all_ {bs out : List Cp} (h : Grown6 bs out) (hb : AllT bs) : AllT out := fun x hx => by
  rcases h.mem x hx with hx | ⟨_, c, hc, e⟩
  · exact hb x hx
  · subst e; exact ⟨(hb c hc).1.uns, (hb c hc).2⟩
theorem key_with (L : List Cp) (h : AllT L) (p k : Int) : L.any (fun x => x.tg && canD x p k) = L.any (fun x => canD x p k) := by
  rw [Bool.eq_iff_iff, List.any_eq_true, List.any_eq_true]
  exact ⟨fun ⟨x, hx, e⟩ => ⟨x, hx, by simpa [(h x hx).2] using e⟩, fun ⟨x, hx, e⟩ => ⟨x, hx, by simp [(h x hx).2, e]⟩⟩
theorem OwnC.fr {w w' : World} {B : Nat} {v : Value} {L : List Cp} {S : Nat → Prop} (h : OwnC w B v L) (k : Fr w w' S) (hS : ∀ g, v.ownBlock = some g → ¬ S g) : OwnC w' B v L := own_fr h k hS
theorem OwnC.kp {w w' : World} {B : Nat} {v : Value} {L : List Cp} (h : OwnC w B v L) (k : Kp w w') : OwnC w' B v L := own_fr h (Fr.of_kp k (fun _ => False)) (fun _ _ h => h)
theorem OwnC.set {w : World} {B : Nat} {v : Value} {L : List Cp} (h : OwnC w B v L) (p : Addr) (u : Value) (hp : ∀ g, v.ownBlock = some g → g ≠ p.block) : OwnC (w.setCell p u) B v L :=
  own_fr h ((Fr.refl w (fun k => k = p.block)).setCell (Or.inr rfl) u) (fun g hg e => hp g hg e)
theorem below_grown {W w w' : World} {B : Nat} {v : Value} {L : List Cp} (h : Below B W w) (hg : w.grownBy w' v.ownBlock) (hB : B ≤ w.heap.size) (ho : OwnC w B v L) : Below B W w' :=
  h.grown hg hB (fun k hk => (ho.lt k hk).1)
theorem rclose_last {l prev out : List Cp} (h : out = roundC (baseL l) prev) (hl : out.length = prev.length) (hm : ∃ m, out = rounds (baseL l) m) : IsClo l out := by
  refine ⟨hm, ?_⟩
  obtain ⟨u, e, _⟩ := fold_pre (baseL l) prev
  rw [← h] at e
  have hu : u = [] := List.eq_nil_of_length_eq_zero (by have := congrArg List.length e; rw [List.length_append] at this; omega)
  rw [hu, List.append_nil] at e
  rw [e] at h ⊢; exact h.symm
end Go.Proofs.Ytmehbildddlgaaa
