/-
  Lists of integers that are read, and made; the statements' SameInts and Pick. No condition.
-/
import Derived.Test.YtikibfpfieoabaaQFr
namespace Go.Proofs.Ytikibfpfieoabaa
open Go.ChangeShapes Go.WideShapes Go.ChangeAt Go.RowKit
set_option linter.unusedVariables false
set_option linter.unusedSimpArgs false
/-- A slice's value that reads as a list of integers. -/
def RdI (w : World) (v : Value) (L : List Int) : Prop :=
  ∃ A cap, v = .slice A L.length cap ∧ L.length ≤ cap ∧ ∀ i x, L[i]? = some x → ∃ g, A = some ⟨g, 0, none⟩ ∧ g < w.heap.size ∧ w.cell? ⟨g, i, none⟩ = some (.int .i64 x)
theorem RdI.kp {w w' : World} {v : Value} {L : List Int} (h : RdI w v L) (k : Kp w w') : RdI w' v L := by
  obtain ⟨A, cap, e, hc, hr⟩ := h
  refine ⟨A, cap, e, hc, fun i x hx => ?_⟩
  obtain ⟨g, ea, hg, hcell⟩ := hr i x hx
  exact ⟨g, ea, Nat.lt_of_lt_of_le hg k.size, (k.cell (p := ⟨g, i, none⟩) hg).trans hcell⟩
theorem RdI.below {w w' : World} {v : Value} {L : List Int} (h : RdI w v L) (k : Below w.heap.size w w') : RdI w' v L := by
  obtain ⟨A, cap, e, hc, hr⟩ := h
  refine ⟨A, cap, e, hc, fun i x hx => ?_⟩
  obtain ⟨g, ea, hg, hcell⟩ := hr i x hx
  exact ⟨g, ea, Nat.lt_of_lt_of_le hg k.size, (k.cell (p := ⟨g, i, none⟩) hg).trans hcell⟩
/-- A row of integers that a call owns. -/
def OwnI (w : World) (B : Nat) (v : Value) (L : List Int) : Prop := w.ownsRow B 3 1 v L.length (L.map (.int .i64))
theorem OwnI.nil (w : World) (B : Nat) : OwnI w B (.slice none 0 0) [] := World.ownsRow_nil w B _ 1
theorem OwnI.rd {w : World} {B : Nat} {v : Value} {L : List Int} (h : OwnI w B v L) : RdI w v L := by
  obtain ⟨hx, ⟨rfl, hn⟩ | ⟨g, cap, cur, rfl, hb, hg, hn, hcap, hs, ht⟩⟩ := h
  · have e : L = [] := List.eq_nil_of_length_eq_zero hn
    subst e
    exact ⟨none, 0, rfl, Nat.le_refl _, fun i x hx => by simp at hx⟩
  · refine ⟨some ⟨g, 0, none⟩, cap, rfl, hn, fun i x hi => ⟨g, rfl, ?_, ?_⟩⟩
    · rcases Nat.lt_or_ge g w.heap.size with l | l
      · exact l
      · rw [Array.getElem?_eq_none l] at hg; cases hg
    · rw [cell_of_row w g i _ _ (0, 0) hg, ← Array.getElem?_toList]
      have e : (cur.toList.take (L.length * 1))[i]? = some (.int .i64 x) := by rw [ht, List.getElem?_map, hi]; rfl
      have hlt : i < L.length := by
        rcases Nat.lt_or_ge i L.length with l | l
        · exact l
        · rw [List.getElem?_eq_none l] at hi; cases hi
      rwa [List.getElem?_take_of_lt (by omega)] at e
theorem int_info : (Try.prog.info? 3).map (fun i => (i.zero, i.size, i.bytes)) = some (some (.int .i64 0), 1, 8) := by kernel_rfl
/-- append of one integer to a row of the call's own. -/
theorem app_i {w : World} {ops : Array Oper} {rest : List Oper} {o : Oper} {a : Act} {Q : Exit → Act → World → Prop} (hgd : o.guard = none) (s x : Operand)
    (ho : o.op = .call { callee := .builtin .append, args := #[s, x], argTypes := #[39, 39] }) (B : Nat) (v : Value) (L : List Int) (hs : a.eval s = v) (hown : OwnI w B v L)
    (ad : Addr) (c : Nat) (d : Int) (hx : a.eval x = .slice (some ad) 1 c) (hnews : w.cell? ad = some (.int .i64 d)) (hl : L.length < 1000000) (hbase : B ≤ w.heap.size) (H : Nat) (hH : w.heap.size = H)
    (h : ∀ g cap w', OwnI w' B (.slice (some ⟨g, 0, none⟩) (L.length + 1) cap) (L ++ [d]) → w.grownBy w' v.ownBlock → (v.ownBlock = some g ∨ g = H) → g < w'.heap.size → wpList Try.prog ops Q rest (a.put o.dst (.slice (some ⟨g, 0, none⟩) (L.length + 1) cap)) w') :
    wpList Try.prog ops Q (o :: rest) a w := by
  obtain ⟨i0, hi, hz0, hz1, hz2⟩ := info_parts int_info
  refine wpList_append_lies w hgd s x _ ho B _ i0 _ 1 8 Try.underlying39 hi hz0 hz1 hz2 rfl (by omega) v L.length (L.map (.int .i64)) hs hown ad 1 c [.int .i64 d] hx rfl (fun j u hj => ?_) (fun u hu => ?_) (by omega) (by unfold maxLen; omega) (by omega) hbase H hH ?_
  · cases j with
    | zero => simp at hj; subst hj; rw [show ad.add 0 = ad by unfold Addr.add; split <;> simp_all]; exact hnews
    | succ j => simp at hj
  · simp at hu; subst hu; rfl
  · intro g cap w1 hown1 hg h1 h2
    exact h g cap w1 (by unfold OwnI; rw [List.map_append, List.length_append]; exact hown1) hg h1 h2
/-- Pick, by any number, of 1 or more. -/
theorem pick_w (k n : Int) (k0 : -9223372036854775808 ≤ k) (k1 : k < 9223372036854775808) (n0 : 1 ≤ n) (n1 : n ≤ 1000000) (w : World) :
    Calls Try.prog 18 #[.int .i64 k, .int .i64 n] w fun e w' => e = .returned (.int .i64 (k % n)) ∧ w = w' := by
  have t0 : decide (n < 1) = false := by simp; omega
  have h := Int.emod_add_mul_ediv k n
  have h0 := Int.emod_nonneg k (show n ≠ 0 by omega)
  have h1 := Int.emod_lt_of_pos k (show 0 < n by omega)
  have ht : k.tmod n = if 0 ≤ k ∨ k % n = 0 then k % n else k % n - n := by
    rw [Int.tmod_eq_emod]
    by_cases c : 0 ≤ k ∨ n ∣ k
    · rw [if_pos c, if_pos (c.imp_right (Int.emod_eq_zero_of_dvd ·))]; simp
    · rw [if_neg c, if_neg (fun d => c (d.imp_right (Int.dvd_of_emod_eq_zero ·)))]; omega
  by_cases c : 0 ≤ k ∨ k % n = 0
  · rw [if_pos c] at ht
    have t1 : decide (k.tmod n < 0) = false := by rw [ht]; simp; omega
    have t2 : decide (k % n < 0) = false := by simp; omega
    generalize k % n = m at *
    clear h c
    go_enter Try.func18, Try.ntmps18
    go_wp2
    go_ret
    exact ⟨rfl, rfl⟩
  · rw [if_neg c] at ht
    have t1 : decide (k.tmod n < 0) = true := by rw [ht]; simp; omega
    have c' : k < 0 := by omega
    generalize k % n = m at *
    clear h c
    go_enter Try.func18, Try.ntmps18
    go_wp2
    go_ret
    exact ⟨ret_int (by omega), rfl⟩
end Go.Proofs.Ytikibfpfieoabaa
