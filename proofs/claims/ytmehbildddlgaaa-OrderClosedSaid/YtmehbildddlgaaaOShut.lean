/-
  Locks: pairs of a place and a number, as a slice of the call's own holds them; one more is laid where there is room. No condition.
-/
import Derived.Test.YtmehbildddlgaaaOFr
import Derived.Test.YtmehbildddlgaaaOSmall
import Derived.Test.YtmehbildddlgaaaOClo
namespace Go.Proofs.Ytmehbildddlgaaa
open Go.ChangeShapes Go.WideShapes Go.ChangeAt Go.RowKit Go.Maps
set_option linter.unusedVariables false
set_option linter.unusedSimpArgs false

abbrev Lk := Nat × Nat
def lkV (p : Lk) : List Value := [.int .i64 p.1, .int .i64 p.2]
def vsS (E : List Lk) : List Value := E.flatMap lkV
theorem vsS_len (E : List Lk) : (vsS E).length = E.length * 2 := by
  induction E with
  | nil => rfl
  | cons c L ih =>
    have l2 : (lkV c).length = 2 := rfl
    simp only [vsS, List.flatMap_cons, List.length_append, List.length_cons] at ih ⊢; rw [ih, l2]; omega
theorem vsS_snoc (E : List Lk) (c : Lk) : vsS (E ++ [c]) = vsS E ++ lkV c := by simp [vsS]
theorem vsS_at (E : List Lk) (i : Nat) (c : Lk) (h : E[i]? = some c) (k : Nat) (v : Value) (hk : (lkV c)[k]? = some v) : (vsS E)[i * 2 + k]? = some v := by
  induction E generalizing i with
  | nil => simp at h
  | cons d K ih =>
    have e : vsS (d :: K) = lkV d ++ vsS K := rfl
    have l2 : ∀ y, (lkV y).length = 2 := fun _ => rfl
    rw [e]
    cases i with
    | zero =>
      simp only [List.getElem?_cons_zero, Option.some.injEq] at h
      subst h
      have hl : k < (lkV d).length := (List.getElem?_eq_some_iff.1 hk).1
      rw [List.getElem?_append_left (by omega)]; simpa using hk
    | succ i =>
      rw [List.getElem?_append_right (by rw [l2]; omega), l2]
      have := ih i (by simpa using h)
      rw [show (i + 1) * 2 + k - 2 = i * 2 + k by omega]; exact this
theorem vsS_set (E : List Lk) (j : Nat) (c : Lk) (hj : j < E.length) : vsS (E.set j c) = ((vsS E).set (j * 2) (.int .i64 c.1)).set (j * 2 + 1) (.int .i64 c.2) := by
  induction E generalizing j with
  | nil => simp at hj
  | cons d E ih =>
    have e : ∀ y K, vsS (y :: K) = .int .i64 (y.1 : Nat) :: .int .i64 (y.2 : Nat) :: vsS K := fun _ _ => rfl
    cases j with
    | zero => simp [e]
    | succ j =>
      rw [List.set_cons_succ, e, ih j (by simpa using hj), e]
      have h1 : (j + 1) * 2 = (j * 2 + 1) + 1 := by omega
      have h2 : (j + 1) * 2 + 1 = (j * 2 + 1 + 1) + 1 := by omega
      rw [h2, h1]
      simp only [List.set_cons_succ]
theorem vsS_take (E : List Lk) (j : Nat) : (vsS E).take (j * 2) = vsS (E.take j) := by
  induction E generalizing j with
  | nil => simp [vsS]
  | cons d E ih =>
    have e : ∀ y K, vsS (y :: K) = .int .i64 (y.1 : Nat) :: .int .i64 (y.2 : Nat) :: vsS K := fun _ _ => rfl
    cases j with
    | zero => simp [vsS]
    | succ j => rw [List.take_succ_cons, e, e, show (j + 1) * 2 = j * 2 + 1 + 1 by omega, List.take_succ_cons, List.take_succ_cons, ih j]
/-- A slice of locks of the call's own. -/
abbrev OwnS (w : World) (B : Nat) (v : Value) (E : List Lk) : Prop := w.ownsRow B 58 2 v E.length (vsS E)
theorem OwnS.nil (w : World) (B : Nat) : OwnS w B (.slice none 0 0) [] := World.ownsRow_nil w B _ 2
theorem OwnS.form {w : World} {B : Nat} {v : Value} {E : List Lk} (h : OwnS w B v E) : (v = .slice none 0 0 ∧ E = []) ∨ ∃ g cap, v = .slice (some ⟨g, 0, none⟩) E.length cap ∧ E.length ≤ cap ∧ B ≤ g ∧ g < w.heap.size := by
  rcases id h.2 with ⟨rfl, h0⟩ | ⟨g, cap, cur, rfl, hb, hg, hc, _⟩
  · exact .inl ⟨rfl, List.eq_nil_of_length_eq_zero h0⟩
  · exact .inr ⟨g, cap, rfl, hc, hb, (h.lt g rfl).2⟩
theorem OwnS.at_ {w : World} {B g cap : Nat} {E : List Lk} (h : OwnS w B (.slice (some ⟨g, 0, none⟩) E.length cap) E) (i : Nat) (c : Lk) (hi : E[i]? = some c) :
    w.cell? ⟨g, i * 2, none⟩ = some (.int .i64 c.1) ∧ w.cell? ⟨g, i * 2 + 1, none⟩ = some (.int .i64 c.2) := by
  have k : ∀ j v, (lkV c)[j]? = some v → w.cell? ⟨g, i * 2 + j, none⟩ = some v := fun j v hj => by
    have := h.cells (g := g) rfl _ _ (vsS_at E i c hi j v hj)
    rw [Addr.add_lit] at this
    rw [← this]; congr 2; omega
  exact ⟨k 0 _ rfl, k 1 _ rfl⟩
/-- The first of some. -/
theorem OwnS.pre {w : World} {B g cap : Nat} {E : List Lk} (h : OwnS w B (.slice (some ⟨g, 0, none⟩) E.length cap) E) (j : Nat) (hj : j ≤ E.length) : OwnS w B (.slice (some ⟨g, 0, none⟩) j cap) (E.take j) := by
  have hl : (E.take j).length = j := by rw [List.length_take]; omega
  refine ⟨vsS_len _, .inr ?_⟩
  rcases h.2 with ⟨e, _⟩ | ⟨g', cap', cur, e, hb, hg, hc, hm, hs, ht⟩
  · cases e
  · cases e
    refine ⟨g, cap, cur, by rw [hl], hb, hg, by omega, hm, hs, ?_⟩
    rw [hl, ← vsS_take, ← ht, List.take_take]
    congr 1; omega
/-- One is written over. -/
theorem OwnS.put {w : World} {B g cap : Nat} {E : List Lk} (h : OwnS w B (.slice (some ⟨g, 0, none⟩) E.length cap) E) (j : Nat) (hj : j < E.length) (c : Lk) :
    OwnS (w.setCells g (j * 2) (lkV c)) B (.slice (some ⟨g, 0, none⟩) E.length cap) (E.set j c) := by
  have e : w.setCells g (j * 2) (lkV c) = (w.setCell ⟨g, j * 2, none⟩ (.int .i64 c.1)).setCell ⟨g, j * 2 + 1, none⟩ (.int .i64 c.2) := rfl
  have h1 := ((h.stored (j * 2) (.int .i64 c.1)).1.stored (j * 2 + 1) (.int .i64 c.2)).1
  unfold OwnS
  rw [e, vsS_set E j c hj, List.length_set]
  exact h1
theorem lock_info : (Try.prog.info? 58).map (fun i => (i.zero, i.size, i.bytes)) = some (some (.agg #[.int .i64 0, .int .i64 0]), 2, 16) := by kernel_rfl
theorem app_room {w : World} {ops : Array Oper} {rest : List Oper} {o : Oper} {a : Act} {Q : Exit → Act → World → Prop} (hgd : o.guard = none) (s x : Operand)
    (ho : o.op = .call { callee := .builtin .append, args := #[s, x], argTypes := #[55, 55] }) (B g cap j : Nat) (E : List Lk) (hs : a.eval s = .slice (some ⟨g, 0, none⟩) j cap)
    (hown : OwnS w B (.slice (some ⟨g, 0, none⟩) E.length cap) E) (hj : j < E.length) (hcap : E.length ≤ cap)
    (ad : Addr) (c : Nat) (d : Lk) (hx : a.eval x = .slice (some ad) 1 c) (hnews : ∀ j u, (lkV d)[j]? = some u → w.cell? (ad.add j) = some u)
    (h : wpList Try.prog ops Q rest (a.put o.dst (.slice (some ⟨g, 0, none⟩) (j + 1) cap)) (w.setCells g (j * 2) (lkV d))) :
    wpList Try.prog ops Q (o :: rest) a w := by
  obtain ⟨i0, hi, hz0, hz1, hz2⟩ := info_parts lock_info
  refine wpList_plain hgd fun K hK => ?_
  have hspare : ∀ k, k < (lkV d).length → (w.cell? ⟨g, 0 + j * i0.size + k, none⟩).isSome = true ∧ w.frozen? ⟨g, 0 + j * i0.size + k, none⟩ = false := fun k hk => by
    have hk2 : k < 2 := hk
    rw [hz1]
    refine ⟨?_, hown.frozenAt _⟩
    rw [hown.cellAt _ (by omega), List.getElem?_eq_getElem (by rw [vsS_len]; omega)]; rfl
  have hrun := run_append_room_cells (P := Try.prog) w 55 o.type 58 i0 Try.underlying55 hi g 0 j cap ad 1 c (lkV d) (by rw [hz1]; rfl) hnews (by intro u hu; simp only [lkV, List.mem_cons, List.not_mem_nil, or_false] at hu; rcases hu with rfl | rfl <;> rfl) (by omega) (fun k hk => (hspare k hk).1) (fun k hk => (hspare k hk).2)
  unfold Oper.wp
  simp [execOp, ho, resolve, invoke, builtin, hs, hx, hrun, Result.andThen]
  rw [← hz1] at h
  exact hK _ _ h
/-- append of one lock to a slice of the call's own: in a plain region. -/
theorem app_s {w : World} {ops : Array Oper} {rest : List Oper} {o : Oper} {a : Act} {Q : Exit → Act → World → Prop} (hgd : o.guard = none) (s x : Operand)
    (ho : o.op = .call { callee := .builtin .append, args := #[s, x], argTypes := #[55, 55] }) (B : Nat) (v : Value) (L : List Lk) (hs : a.eval s = v) (hown : OwnS w B v L)
    (ad : Addr) (c : Nat) (d : Lk) (hx : a.eval x = .slice (some ad) 1 c) (hnews : ∀ j u, (lkV d)[j]? = some u → w.cell? (ad.add j) = some u) (hl : L.length < 1000000) (hbase : B ≤ w.heap.size) (H : Nat) (hH : w.heap.size = H)
    (h : ∀ g cap w', OwnS w' B (.slice (some ⟨g, 0, none⟩) (L.length + 1) cap) (L ++ [d]) → w.grownBy w' v.ownBlock → (v.ownBlock = some g ∨ g = H) → g < w'.heap.size → wpList Try.prog ops Q rest (a.put o.dst (.slice (some ⟨g, 0, none⟩) (L.length + 1) cap)) w') :
    wpList Try.prog ops Q (o :: rest) a w := by
  obtain ⟨i0, hi, hz0, hz1, hz2⟩ := info_parts lock_info
  refine wpList_append_lies w hgd s x _ ho B _ i0 _ 2 16 Try.underlying55 hi hz0 hz1 hz2 rfl (by omega) v L.length (vsS L) hs hown ad 1 c (lkV d) hx rfl hnews (by intro u hu; simp only [lkV, List.mem_cons, List.not_mem_nil, or_false] at hu; rcases hu with rfl | rfl <;> rfl) (by omega) (by unfold maxLen; omega) (by omega) hbase H hH ?_
  intro g cap w1 hown1 hg h1 h2
  exact h g cap w1 (by unfold OwnS; rw [vsS_snoc, List.length_append]; exact hown1) hg h1 h2
end Go.Proofs.Ytmehbildddlgaaa
