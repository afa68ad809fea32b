/-
  Rows of numbers that a call owns, and reads through calls that leave them alone. No condition.
-/
import Derived.Test.YtamhhdhoeghafaaQInts
import Derived.Test.YtamhhdhoeghafaaPOnce
namespace Go.Proofs.Ytamhhdhoeghafaa
open Go.ChangeShapes Go.WideShapes Go.ChangeAt Go.RowKit
set_option linter.unusedVariables false
set_option linter.unusedSimpArgs false
/-- A slice's row, from block n on, reads as these numbers. -/
def RdB (q : IntKind) (w : World) (n : Nat) (A : Option Addr) (L : List Int) : Prop := ∀ i x, L[i]? = some x → ∃ g, A = some ⟨g, 0, none⟩ ∧ n ≤ g ∧ g < w.heap.size ∧ w.cell? ⟨g, i, none⟩ = some (.int q x)
theorem RdB.fr {q : IntKind} {w w' : World} {n : Nat} {A : Option Addr} {L : List Int} {S : Nat → Prop} (h : RdB q w n A L) (k : Fr w w' S) (hS : ∀ i, n ≤ i → ¬ S i) : RdB q w' n A L := fun i x hx => by
  obtain ⟨g, e, h1, h2, h3⟩ := h i x hx
  exact ⟨g, e, h1, Nat.lt_of_lt_of_le h2 k.size, (World.cell?_of_block (w := w) (k.block g h2 (hS g h1))).trans h3⟩
theorem row_out {q : IntKind} {t : TypeId} {w : World} {B : Nat} {v : Value} {L : List Int} (h : w.ownsRow B t 1 v L.length (L.map (.int q))) : ∃ A cap, v = .slice A L.length cap ∧ L.length ≤ cap ∧ RdB q w B A L := by
  obtain ⟨hx, ⟨rfl, hn⟩ | ⟨g, cap, cur, rfl, hb, hg, hn, hcap, hs, ht⟩⟩ := h
  · have e : L = [] := List.eq_nil_of_length_eq_zero hn
    subst e
    exact ⟨none, 0, rfl, Nat.le_refl _, fun i x hx => by simp at hx⟩
  · refine ⟨some ⟨g, 0, none⟩, cap, rfl, hn, fun i x hi => ⟨g, rfl, hb, ?_, ?_⟩⟩
    · rcases Nat.lt_or_ge g w.heap.size with l | l
      · exact l
      · rw [Array.getElem?_eq_none l] at hg; cases hg
    · rw [cell_of_row w g i _ _ (0, 0) hg, ← Array.getElem?_toList]
      have e : (cur.toList.take (L.length * 1))[i]? = some (.int q x) := by rw [ht, List.getElem?_map, hi]; rfl
      have hlt : i < L.length := by
        rcases Nat.lt_or_ge i L.length with l | l
        · exact l
        · rw [List.getElem?_eq_none l] at hi; cases hi
      rwa [List.getElem?_take_of_lt (by omega)] at e
/-- A row of numbers of 64 bits that a call owns. -/
def OwnU (w : World) (B : Nat) (v : Value) (L : List Int) : Prop := w.ownsRow B 28 1 v L.length (L.map (.int .u64))
theorem OwnU.nil (w : World) (B : Nat) : OwnU w B (.slice none 0 0) [] := World.ownsRow_nil w B _ 1
theorem u64_info12 : (Try.prog.info? 28).map (fun i => (i.zero, i.size, i.bytes)) = some (some (.int .u64 0), 1, 8) := by kernel_rfl
/-- append of one number to a row of the call's own. -/
theorem app_u {w : World} {ops : Array Oper} {rest : List Oper} {o : Oper} {a : Act} {Q : Exit → Act → World → Prop} (hgd : o.guard = none) (s x : Operand)
    (ho : o.op = .call { callee := .builtin .append, args := #[s, x], argTypes := #[43, 43] }) (B : Nat) (v : Value) (L : List Int) (hs : a.eval s = v) (hown : OwnU w B v L)
    (ad : Addr) (c : Nat) (d : Int) (hx : a.eval x = .slice (some ad) 1 c) (hnews : w.cell? ad = some (.int .u64 d)) (hl : L.length < 1000000) (hbase : B ≤ w.heap.size) (H : Nat) (hH : w.heap.size = H)
    (h : ∀ g cap w', OwnU w' B (.slice (some ⟨g, 0, none⟩) (L.length + 1) cap) (L ++ [d]) → w.grownBy w' v.ownBlock → (v.ownBlock = some g ∨ g = H) → g < w'.heap.size → wpList Try.prog ops Q rest (a.put o.dst (.slice (some ⟨g, 0, none⟩) (L.length + 1) cap)) w') :
    wpList Try.prog ops Q (o :: rest) a w := by
  obtain ⟨i0, hi, hz0, hz1, hz2⟩ := info_parts u64_info12
  refine wpList_append_lies w hgd s x _ ho B _ i0 _ 1 8 Try.underlying43 hi hz0 hz1 hz2 rfl (by omega) v L.length (L.map (.int .u64)) hs hown ad 1 c [.int .u64 d] hx rfl (fun j u hj => ?_) (fun u hu => ?_) (by omega) (by unfold maxLen; omega) (by omega) hbase H hH ?_
  · cases j with
    | zero => simp at hj; subst hj; rw [show ad.add 0 = ad by unfold Addr.add; split <;> simp_all]; exact hnews
    | succ j => simp at hj
  · simp at hu; subst hu; rfl
  · intro g cap w1 hown1 hg h1 h2
    exact h g cap w1 (by unfold OwnU; rw [List.map_append, List.length_append]; exact hown1) hg h1 h2
/-- A row that is a literal. -/
theorem ownI_lit (w : World) (B : Nat) (hB : B ≤ w.heap.size) (L : List Int) (hL : 0 < L.length) (h2 : L.length ≤ 1000) : OwnI (w.alloc (.cells (L.map (.int .i64)).toArray 3)) B (.slice (some ⟨w.heap.size, 0, none⟩) L.length L.length) L := by
  refine ⟨by simp, .inr ⟨w.heap.size, L.length, (L.map (.int .i64)).toArray, rfl, hB, ?_, Nat.le_refl _, ?_, by simp, by simp only [Nat.mul_one]; exact List.take_of_length_le (by simp)⟩⟩
  · exact heap_alloc_new w _
  · first | omega | (unfold maxLen; omega) | (simp [maxLen]; omega)
end Go.Proofs.Ytamhhdhoeghafaa
