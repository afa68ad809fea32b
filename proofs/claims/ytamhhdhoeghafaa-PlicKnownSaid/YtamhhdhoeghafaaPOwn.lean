/-
  Rows of calls that a call owns: appended to, read as lists that come in, cut. No condition.
-/
import Derived.Test.YtamhhdhoeghafaaPRegs
namespace Go.Proofs.Ytamhhdhoeghafaa
open Go.ChangeShapes Go.WideShapes Go.ChangeAt Go.RowKit
set_option linter.unusedVariables false
set_option linter.unusedSimpArgs false
/-- The cells of a list of calls. -/
def fp : List Po → List Value
  | [] => []
  | c :: l => c.vs ++ fp l
theorem fp_len (L : List Po) : (fp L).length = L.length * 5 := by
  induction L with
  | nil => rfl
  | cons c l ih => rw [fp, List.length_append, ih, Po.vs_len, List.length_cons]; omega
theorem fp_app (L M : List Po) : fp (L ++ M) = fp L ++ fp M := by
  induction L with
  | nil => rfl
  | cons c l ih => rw [List.cons_append, fp, ih, fp, List.append_assoc]
theorem fp_at (L : List Po) (i j : Nat) (c : Po) (u : Value) (hi : L[i]? = some c) (hj : c.vs[j]? = some u) : (fp L)[i * 5 + j]? = some u := by
  have h5 : j < 5 := by have := (List.getElem?_eq_some_iff.1 hj).1; rwa [Po.vs_len] at this
  induction L generalizing i with
  | nil => simp at hi
  | cons d l ih =>
    rw [fp]
    cases i with
    | zero =>
      simp only [List.getElem?_cons_zero, Option.some.injEq] at hi
      subst hi
      rw [Nat.zero_mul, Nat.zero_add, List.getElem?_append_left (by rw [Po.vs_len]; exact h5)]; exact hj
    | succ i =>
      rw [List.getElem?_cons_succ] at hi
      rw [List.getElem?_append_right (by rw [Po.vs_len]; omega), Po.vs_len, show (i + 1) * 5 + j - 5 = i * 5 + j by omega]
      exact ih i hi
theorem fp_one (L : List Po) : ∀ u ∈ fp L, u.oneCell' = true := by
  induction L with
  | nil => intro u hu; simp [fp] at hu
  | cons c l ih =>
    intro u hu
    rw [fp, List.mem_append] at hu
    rcases hu with hu | hu
    · simp only [Po.vs, List.mem_cons, List.not_mem_nil, or_false] at hu
      rcases hu with rfl | rfl | rfl | rfl | rfl <;> rfl
    · exact ih u hu
/-- A row of calls that a call owns. -/
def OwnP (w : World) (B : Nat) (v : Value) (L : List Po) : Prop := w.ownsRow B 31 5 v L.length (fp L)
theorem OwnP.nil (w : World) (B : Nat) : OwnP w B (.slice none 0 0) [] := World.ownsRow_nil w B _ 5
theorem OwnP.rd {w : World} {B : Nat} {v : Value} {L : List Po} (h : OwnP w B v L) (hn : 0 < L.length) : ∃ g cap, v = .slice (some ⟨g, 0, none⟩) L.length cap ∧ L.length ≤ cap ∧ cap ≤ 9223372036854775807 ∧ B ≤ g ∧ g < w.heap.size ∧ ∀ (i : Nat) (c : Po), L[i]? = some c → RowPo w g (i * 5) c := by
  obtain ⟨hx, ⟨rfl, h0⟩ | ⟨g, cap, cur, rfl, hb, hg, hc, hm, hs, ht⟩⟩ := h
  · omega
  · refine ⟨g, cap, rfl, hc, hm, hb, ?_, fun i c hi j u hj => ?_⟩
    · rcases Nat.lt_or_ge g w.heap.size with l | l
      · exact l
      · rw [Array.getElem?_eq_none l] at hg; cases hg
    · rw [cell_of_row w g (i * 5 + j) _ _ (0, 0) hg, ← Array.getElem?_toList]
      have e := fp_at L i j c u hi hj
      rw [← ht] at e
      have hlt : i * 5 + j < L.length * 5 := by
        have a := (List.getElem?_eq_some_iff.1 hi).1
        have b := (List.getElem?_eq_some_iff.1 hj).1
        rw [Po.vs_len] at b
        omega
      rwa [List.getElem?_take_of_lt hlt] at e
theorem OwnP.below {w w' : World} {B : Nat} {v : Value} {L : List Po} (h : OwnP w B v L) (k : Below w.heap.size w w') : OwnP w' B v L := by
  obtain ⟨hx, ⟨rfl, h0⟩ | ⟨g, cap, cur, rfl, hb, hg, hc, hm, hs, ht⟩⟩ := h
  · exact ⟨hx, .inl ⟨rfl, h0⟩⟩
  · refine ⟨hx, .inr ⟨g, cap, cur, rfl, hb, ?_, hc, hm, hs, ht⟩⟩
    have hlt : g < w.heap.size := by
      rcases Nat.lt_or_ge g w.heap.size with l | l
      · exact l
      · rw [Array.getElem?_eq_none l] at hg; cases hg
    rw [k.block g hlt]; exact hg
theorem OwnP.alloc {w : World} {B : Nat} {v : Value} {L : List Po} (h : OwnP w B v L) (o : Obj) : OwnP (w.alloc o) B v L := h.below ((Below.refl _ w).alloc (Nat.le_refl _) o)
/-- A piece of such a row, as a list that comes in. -/
theorem rd_cut {w : World} {g : Nat} {L : List Po} (hg : g < w.heap.size) (h : ∀ (i : Nat) (c : Po), L[i]? = some c → RowPo w g (i * 5) c) (d n : Nat) : RdPo w w.heap.size (some ⟨g, d * 5, none⟩) ((L.drop d).take n) := fun _ => by
  refine ⟨g, d * 5, rfl, hg, fun i c hi => ?_⟩
  have hlt : i < n := by
    rcases Nat.lt_or_ge i n with l | l
    · exact l
    · rw [List.getElem?_eq_none (by rw [List.length_take]; omega)] at hi; cases hi
  rw [List.getElem?_take_of_lt hlt, List.getElem?_drop] at hi
  have := h (d + i) c hi
  rwa [Nat.add_mul] at this
theorem op_info : (Try.prog.info? 31).map (fun i => (i.zero, i.size, i.bytes)) = some (some (.agg #[.int .i64 0, .int .i64 0, .int .i64 0, .int .u64 0, .int .u32 0]), 5, 40) := by kernel_rfl
/-- append of some calls to a row of the call's own. -/
theorem app_p {w : World} {ops : Array Oper} {rest : List Oper} {o : Oper} {a : Act} {Q : Exit → Act → World → Prop} (hgd : o.guard = none) (s x : Operand)
    (ho : o.op = .call { callee := .builtin .append, args := #[s, x], argTypes := #[22, 22] }) (B : Nat) (v : Value) (L N : List Po) (hs : a.eval s = v) (hown : OwnP w B v L)
    (ad : Addr) (m c : Nat) (hm : N.length = m) (h0 : 0 < m) (hx : a.eval x = .slice (some ad) m c) (hnews : ∀ j u, (fp N)[j]? = some u → w.cell? (ad.add j) = some u) (hl : L.length + m < 1000000) (hbase : B ≤ w.heap.size) (H : Nat) (hH : w.heap.size = H)
    (h : ∀ g cap w', OwnP w' B (.slice (some ⟨g, 0, none⟩) (L.length + m) cap) (L ++ N) → w.grownBy w' v.ownBlock → (v.ownBlock = some g ∨ g = H) → g < w'.heap.size → wpList Try.prog ops Q rest (a.put o.dst (.slice (some ⟨g, 0, none⟩) (L.length + m) cap)) w') :
    wpList Try.prog ops Q (o :: rest) a w := by
  obtain ⟨i0, hi, hz0, hz1, hz2⟩ := info_parts op_info
  refine wpList_append_lies w hgd s x _ ho B _ i0 _ 5 40 Try.underlying22 hi hz0 hz1 hz2 rfl (by omega) v L.length (fp L) hs hown ad m c (fp N) hx (by rw [fp_len, hm]) hnews (fp_one N) h0 (by unfold maxLen; omega) (by omega) hbase H hH ?_
  intro g cap w1 hown1 hg h1 h2
  exact h g cap w1 (by unfold OwnP; rw [fp_app, List.length_append, hm]; exact hown1) hg h1 h2
/-- The same at a step of a region that draws its order. -/
theorem app_ps {w : World} {ops : Array Oper} {o : Oper} {a : Act} {K : Act → World → Prop} {Q : Exit → Act → World → Prop} {E : Prop} (hgd : o.guard = none) (s x : Operand)
    (ho : o.op = .call { callee := .builtin .append, args := #[s, x], argTypes := #[22, 22] }) (B : Nat) (v : Value) (L N : List Po) (hs : a.eval s = v) (hown : OwnP w B v L)
    (ad : Addr) (m c : Nat) (hm : N.length = m) (h0 : 0 < m) (hx : a.eval x = .slice (some ad) m c) (hnews : ∀ j u, (fp N)[j]? = some u → w.cell? (ad.add j) = some u) (hl : L.length + m < 1000000) (hbase : B ≤ w.heap.size) (H : Nat) (hH : w.heap.size = H)
    (h : ∀ g cap w', OwnP w' B (.slice (some ⟨g, 0, none⟩) (L.length + m) cap) (L ++ N) → w.grownBy w' v.ownBlock → (v.ownBlock = some g ∨ g = H) → g < w'.heap.size → K (a.put o.dst (.slice (some ⟨g, 0, none⟩) (L.length + m) cap)) w') :
    if Region.wanted o (yielded ops a.tmps) = true then Oper.wp Try.prog o a w K Q else E := by
  obtain ⟨i0, hi, hz0, hz1, hz2⟩ := info_parts op_info
  refine step_append_lies w hgd s x _ ho B _ i0 _ 5 40 Try.underlying22 hi hz0 hz1 hz2 rfl (by omega) v L.length (fp L) hs hown ad m c (fp N) hx (by rw [fp_len, hm]) hnews (fp_one N) h0 (by unfold maxLen; omega) (by omega) hbase H hH ?_
  intro g cap w1 hown1 hg h1 h2
  exact h g cap w1 (by unfold OwnP; rw [fp_app, List.length_append, hm]; exact hown1) hg h1 h2
end Go.Proofs.Ytamhhdhoeghafaa
