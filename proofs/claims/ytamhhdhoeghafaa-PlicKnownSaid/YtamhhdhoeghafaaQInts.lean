/-
  Lists of integers that are read, and made; the statements' SameInts and Pick. No condition.
-/
import Derived.Test.YtamhhdhoeghafaaQFr
namespace Go.Proofs.Ytamhhdhoeghafaa
open Go.ChangeShapes Go.WideShapes Go.ChangeAt Go.RowKit
set_option linter.unusedVariables false
set_option linter.unusedSimpArgs false
/-- A slice's value that reads as a list of integers. -/
def RdI (w : World) (v : Value) (L : List Int) : Prop :=
  ∃ A cap, v = .slice A L.length cap ∧ L.length ≤ cap ∧ ∀ i x, L[i]? = some x → ∃ g, A = some ⟨g, 0, none⟩ ∧ g < w.heap.size ∧ w.cell? ⟨g, i, none⟩ = some (.int .i64 x)
theorem RdI.kp {w w' : World} {v : Value} {L : List Int} (h : RdI w v L) (k : Kp w w') : RdI w' v L := by
  obtain ⟨A, cap, e, hc, hr⟩ := h
  refine ⟨A, cap, e, hc, fun i x hx => ?_⟩
  obtain ⟨g, ea, hg, hcell⟩ := hr i x hx
  exact ⟨g, ea, Nat.lt_of_lt_of_le hg k.size, (k.cell (p := ⟨g, i, none⟩) hg).trans hcell⟩
theorem RdI.below {w w' : World} {v : Value} {L : List Int} (h : RdI w v L) (k : Below w.heap.size w w') : RdI w' v L := by
  obtain ⟨A, cap, e, hc, hr⟩ := h
  refine ⟨A, cap, e, hc, fun i x hx => ?_⟩
  obtain ⟨g, ea, hg, hcell⟩ := hr i x hx
  exact ⟨g, ea, Nat.lt_of_lt_of_le hg k.size, (k.cell (p := ⟨g, i, none⟩) hg).trans hcell⟩
/-- A row of integers that a call owns. -/
def OwnI (w : World) (B : Nat) (v : Value) (L : List Int) : Prop := w.ownsRow B 3 1 v L.length (L.map (.int .i64))
theorem OwnI.nil (w : World) (B : Nat) : OwnI w B (.slice none 0 0) [] := World.ownsRow_nil w B _ 1
theorem OwnI.rd {w : World} {B : Nat} {v : Value} {L : List Int} (h : OwnI w B v L) : RdI w v L := by
  obtain ⟨hx, ⟨rfl, hn⟩ | ⟨g, cap, cur, rfl, hb, hg, hn, hcap, hs, ht⟩⟩ := h
  · have e : L = [] := List.eq_nil_of_length_eq_zero hn
    subst e
    exact ⟨none, 0, rfl, Nat.le_refl _, fun i x hx => by simp at hx⟩
  · refine ⟨some ⟨g, 0, none⟩, cap, rfl, hn, fun i x hi => ⟨g, rfl, ?_, ?_⟩⟩
    · rcases Nat.lt_or_ge g w.heap.size with l | l
      · exact l
      · rw [Array.getElem?_eq_none l] at hg; cases hg
    · rw [cell_of_row w g i _ _ (0, 0) hg, ← Array.getElem?_toList]
      have e : (cur.toList.take (L.length * 1))[i]? = some (.int .i64 x) := by rw [ht, List.getElem?_map, hi]; rfl
      have hlt : i < L.length := by
        rcases Nat.lt_or_ge i L.length with l | l
        · exact l
        · rw [List.getElem?_eq_none l] at hi; cases hi
      rwa [List.getElem?_take_of_lt (by omega)] at e
theorem int_info : (Try.prog.info? 3).map (fun i => (i.zero, i.size, i.bytes)) = some (some (.int .i64 0), 1, 8) := by kernel_rfl
/-- append of one integer to a row of the call's own. -/
theorem app_i {w : World} {ops : Array Oper} {rest : List Oper} {o : Oper} {a : Act} {Q : Exit → Act → World → Prop} (hgd : o.guard = none) (s x : Operand)
    (ho : o.op = .call { callee := .builtin .append, args := #[s, x], argTypes := #[44, 44] }) (B : Nat) (v : Value) (L : List Int) (hs : a.eval s = v) (hown : OwnI w B v L)
    (ad : Addr) (c : Nat) (d : Int) (hx : a.eval x = .slice (some ad) 1 c) (hnews : w.cell? ad = some (.int .i64 d)) (hl : L.length < 1000000) (hbase : B ≤ w.heap.size) (H : Nat) (hH : w.heap.size = H)
    (h : ∀ g cap w', OwnI w' B (.slice (some ⟨g, 0, none⟩) (L.length + 1) cap) (L ++ [d]) → w.grownBy w' v.ownBlock → (v.ownBlock = some g ∨ g = H) → g < w'.heap.size → wpList Try.prog ops Q rest (a.put o.dst (.slice (some ⟨g, 0, none⟩) (L.length + 1) cap)) w') :
    wpList Try.prog ops Q (o :: rest) a w := by
  obtain ⟨i0, hi, hz0, hz1, hz2⟩ := info_parts int_info
  refine wpList_append_lies w hgd s x _ ho B _ i0 _ 1 8 Try.underlying44 hi hz0 hz1 hz2 rfl (by omega) v L.length (L.map (.int .i64)) hs hown ad 1 c [.int .i64 d] hx rfl (fun j u hj => ?_) (fun u hu => ?_) (by omega) (by unfold maxLen; omega) (by omega) hbase H hH ?_
  · cases j with
    | zero => simp at hj; subst hj; rw [show ad.add 0 = ad by unfold Addr.add; split <;> simp_all]; exact hnews
    | succ j => simp at hj
  · simp at hu; subst hu; rfl
  · intro g cap w1 hown1 hg h1 h2
    exact h g cap w1 (by unfold OwnI; rw [List.map_append, List.length_append]; exact hown1) hg h1 h2
end Go.Proofs.Ytamhhdhoeghafaa
