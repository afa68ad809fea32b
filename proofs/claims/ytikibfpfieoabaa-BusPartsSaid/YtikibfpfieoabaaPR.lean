/-
  The document's interrupt controller in memory; lines, the best, bits, claims, what is enabled, what is completed. No condition.
  The document's interrupt controller: the best source, whether a context is interrupted. No condition.
  The document's interrupt controller: whether a context is interrupted. No condition.
  The document's interrupt controller: bits, claims, what is enabled, what is completed. No condition.
  The document's interrupt controller: loads, stores, new. No condition.
  The document's interrupt controller: new. No condition.
-/
import Derived.Test.YtikibfpfieoabaaPSpec
import Derived.Test.YtikibfpfieoabaaQFr
import Derived.StillTailTactics
namespace Go.Proofs.Ytikibfpfieoabaa
open Go.ChangeShapes Go.WideShapes Go.ChangeAt Go.RowKit
set_option linter.unusedVariables false
set_option linter.unusedSimpArgs false
/-- The document's controller: five cells a source, two thresholds. -/
structure RP (w : World) (g : Nat) (S : PS) : Prop where
  lt : g < w.heap.size
  fz : ∀ j, w.frozen? ⟨g, j, none⟩ = false
  pr : ∀ i, i < 32 → w.cell? ⟨g, i * 5, none⟩ = some (.int .i64 (S.pr i))
  pe : ∀ i, i < 32 → w.cell? ⟨g, i * 5 + 1, none⟩ = some (.bool (S.pe i))
  se : ∀ i, i < 32 → w.cell? ⟨g, i * 5 + 2, none⟩ = some (.bool (S.se i))
  e0 : ∀ i, i < 32 → w.cell? ⟨g, i * 5 + 3, none⟩ = some (.bool (S.en 0 i))
  e1 : ∀ i, i < 32 → w.cell? ⟨g, i * 5 + 4, none⟩ = some (.bool (S.en 1 i))
  t0 : w.cell? ⟨g, 160, none⟩ = some (.int .i64 (S.th 0))
  t1 : w.cell? ⟨g, 161, none⟩ = some (.int .i64 (S.th 1))
theorem RP.block {w w' : World} {g : Nat} {S : PS} (m : RP w g S) (hs : w.heap.size ≤ w'.heap.size) (e : w'.heap[g]? = w.heap[g]?) : RP w' g S := by
  have c : ∀ j, w'.cell? ⟨g, j, none⟩ = w.cell? ⟨g, j, none⟩ := fun j => World.cell?_of_block e
  exact ⟨Nat.lt_of_lt_of_le m.lt hs, fun j => (World.frozen?_of_block (a := ⟨g, j, none⟩) e).trans (m.fz j), fun i h => (c _).trans (m.pr i h), fun i h => (c _).trans (m.pe i h), fun i h => (c _).trans (m.se i h), fun i h => (c _).trans (m.e0 i h), fun i h => (c _).trans (m.e1 i h), (c _).trans m.t0, (c _).trans m.t1⟩
theorem RP.fr {w w' : World} {g : Nat} {S : PS} {R : Nat → Prop} (m : RP w g S) (k : Fr w w' R) (h : ¬ R g) : RP w' g S := m.block k.size (k.block g m.lt h)
theorem RP.below {w w' : World} {g : Nat} {S : PS} (m : RP w g S) (k : Below w.heap.size w w') : RP w' g S := m.block k.size (k.block g m.lt)
theorem RP.kp {w w' : World} {g : Nat} {S : PS} (m : RP w g S) (k : Kp w w') : RP w' g S := m.below k.1
theorem RP.like {w : World} {g : Nat} {S S' : PS} (m : RP w g S) (h : S.Like S') (h0 : S.se 0 = S'.se 0) : RP w g S' :=
  ⟨m.lt, m.fz, fun i hi => h.pr i hi ▸ m.pr i hi, fun i hi => h.pe i hi ▸ m.pe i hi, fun i hi => by
    by_cases e : i = 0
    · subst e; exact h0 ▸ m.se 0 hi
    · exact h.se i (by omega) hi ▸ m.se i hi, fun i hi => h.en 0 i (by decide) hi ▸ m.e0 i hi, fun i hi => h.en 1 i (by decide) hi ▸ m.e1 i hi, h.th 0 (by decide) ▸ m.t0, h.th 1 (by decide) ▸ m.t1⟩
theorem cell_oth {w : World} {g i j : Nat} {u : Value} {v : Option Value} (h : w.cell? ⟨g, i, none⟩ = v) (e : i ≠ j) : (w.setCell ⟨g, j, none⟩ u).cell? ⟨g, i, none⟩ = v := by
  rw [World.cell?_setCell_other w ⟨g, j, none⟩ ⟨g, i, none⟩ u (fun x => e (by cases x; rfl))]; exact h
theorem cell_self {w : World} {g i : Nat} {u v : Value} (h : w.cell? ⟨g, i, none⟩ = some v) : (w.setCell ⟨g, i, none⟩ u).cell? ⟨g, i, none⟩ = some u := by simp [go_sem, h]
/-- One source's truth, or number, turned. -/
def upd {α : Type} (f : Nat → α) (i : Nat) (v : α) : Nat → α := fun k => if k = i then v else f k
theorem RP.setPe {w : World} {g : Nat} {S : PS} (m : RP w g S) (i : Nat) (hi : i < 32) (v : Bool) : RP (w.setCell ⟨g, i * 5 + 1, none⟩ (.bool v)) g { S with pe := upd S.pe i v } := by
  refine ⟨by simpa [World.setCell] using m.lt, fun j => by rw [World.frozen?_setCell]; exact m.fz j, fun k h => cell_oth (m.pr k h) (by omega), fun k h => ?_, fun k h => cell_oth (m.se k h) (by omega), fun k h => cell_oth (m.e0 k h) (by omega), fun k h => cell_oth (m.e1 k h) (by omega), cell_oth m.t0 (by omega), cell_oth m.t1 (by omega)⟩
  show _ = some (Value.bool (if k = i then v else S.pe k))
  by_cases e : k = i
  · subst e; rw [if_pos rfl]; exact cell_self (m.pe k h)
  · rw [if_neg e]; exact cell_oth (m.pe k h) (by omega)
theorem RP.setSe {w : World} {g : Nat} {S : PS} (m : RP w g S) (i : Nat) (hi : i < 32) (v : Bool) : RP (w.setCell ⟨g, i * 5 + 2, none⟩ (.bool v)) g { S with se := upd S.se i v } := by
  refine ⟨by simpa [World.setCell] using m.lt, fun j => by rw [World.frozen?_setCell]; exact m.fz j, fun k h => cell_oth (m.pr k h) (by omega), fun k h => cell_oth (m.pe k h) (by omega), fun k h => ?_, fun k h => cell_oth (m.e0 k h) (by omega), fun k h => cell_oth (m.e1 k h) (by omega), cell_oth m.t0 (by omega), cell_oth m.t1 (by omega)⟩
  show _ = some (Value.bool (if k = i then v else S.se k))
  by_cases e : k = i
  · subst e; rw [if_pos rfl]; exact cell_self (m.se k h)
  · rw [if_neg e]; exact cell_oth (m.se k h) (by omega)
theorem RP.setPr {w : World} {g : Nat} {S : PS} (m : RP w g S) (i : Nat) (hi : i < 32) (v : Int) : RP (w.setCell ⟨g, i * 5, none⟩ (.int .i64 v)) g { S with pr := upd S.pr i v } := by
  refine ⟨by simpa [World.setCell] using m.lt, fun j => by rw [World.frozen?_setCell]; exact m.fz j, fun k h => ?_, fun k h => cell_oth (m.pe k h) (by omega), fun k h => cell_oth (m.se k h) (by omega), fun k h => cell_oth (m.e0 k h) (by omega), fun k h => cell_oth (m.e1 k h) (by omega), cell_oth m.t0 (by omega), cell_oth m.t1 (by omega)⟩
  show _ = some (Value.int .i64 (if k = i then v else S.pr k))
  by_cases e : k = i
  · subst e; rw [if_pos rfl]; exact cell_self (m.pr k h)
  · rw [if_neg e]; exact cell_oth (m.pr k h) (by omega)
theorem RP.setEn {w : World} {g : Nat} {S : PS} (m : RP w g S) (c i : Nat) (hc : c < 2) (hi : i < 32) (v : Bool) : RP (w.setCell ⟨g, i * 5 + 3 + c, none⟩ (.bool v)) g { S with en := upd S.en c (upd (S.en c) i v) } := by
  refine ⟨by simpa [World.setCell] using m.lt, fun j => by rw [World.frozen?_setCell]; exact m.fz j, fun k h => cell_oth (m.pr k h) (by omega), fun k h => cell_oth (m.pe k h) (by omega), fun k h => cell_oth (m.se k h) (by omega), fun k h => ?_, fun k h => ?_, cell_oth m.t0 (by omega), cell_oth m.t1 (by omega)⟩
  · show _ = some (Value.bool ((if 0 = c then upd (S.en c) i v else S.en 0) k))
    by_cases e : c = 0
    · subst e
      rw [if_pos rfl]
      show _ = some (Value.bool (if k = i then v else S.en 0 k))
      by_cases e : k = i
      · subst e; rw [if_pos rfl]; exact cell_self (m.e0 k h)
      · rw [if_neg e]; exact cell_oth (m.e0 k h) (by omega)
    · rw [if_neg (by omega)]; exact cell_oth (m.e0 k h) (by omega)
  · show _ = some (Value.bool ((if 1 = c then upd (S.en c) i v else S.en 1) k))
    by_cases e : c = 1
    · subst e
      rw [if_pos rfl]
      show _ = some (Value.bool (if k = i then v else S.en 1 k))
      by_cases e : k = i
      · subst e; rw [if_pos rfl]; exact cell_self (m.e1 k h)
      · rw [if_neg e]; exact cell_oth (m.e1 k h) (by omega)
    · rw [if_neg (by omega)]; exact cell_oth (m.e1 k h) (by omega)
theorem RP.setTh {w : World} {g : Nat} {S : PS} (m : RP w g S) (c : Nat) (hc : c < 2) (v : Int) : RP (w.setCell ⟨g, 160 + c, none⟩ (.int .i64 v)) g { S with th := upd S.th c v } := by
  refine ⟨by simpa [World.setCell] using m.lt, fun j => by rw [World.frozen?_setCell]; exact m.fz j, fun k h => cell_oth (m.pr k h) (by omega), fun k h => cell_oth (m.pe k h) (by omega), fun k h => cell_oth (m.se k h) (by omega), fun k h => cell_oth (m.e0 k h) (by omega), fun k h => cell_oth (m.e1 k h) (by omega), ?_, ?_⟩
  · show _ = some (Value.int .i64 (if 0 = c then v else S.th 0))
    by_cases e : 0 = c
    · subst e; rw [if_pos rfl]; exact cell_self m.t0
    · rw [if_neg e]; exact cell_oth m.t0 (by omega)
  · show _ = some (Value.int .i64 (if 1 = c then v else S.th 1))
    by_cases e : 1 = c
    · subst e; rw [if_pos rfl]; exact cell_self m.t1
    · rw [if_neg e]; exact cell_oth m.t1 (by omega)
/-- The lines of the sources below s told. -/
def PS.linesTo (S : PS) (m : Int) (s : Nat) : PS := { S with pe := fun i => if 0 < i ∧ i < s then bitI m i && !S.se i else S.pe i }
theorem PS.linesTo_end {S : PS} (h : S.Ok) (m : Int) : (S.linesTo m 32).Like (S.lines m) := by
  refine ⟨fun i hi => ?_, fun _ _ _ => rfl, fun _ _ _ _ => rfl, fun _ _ => rfl, fun _ _ => rfl⟩
  show (if 0 < i ∧ i < 32 then bitI m i && !S.se i else S.pe i) = (decide (0 < i) && bitI m i && !S.se i)
  by_cases e : 0 < i
  · rw [if_pos ⟨e, hi⟩]; simp [e]
  · rw [if_neg (by omega)]; obtain rfl : i = 0 := by omega
    rw [h.p0]; simp
end Go.Proofs.Ytikibfpfieoabaa
namespace Go.Proofs.Ytikibfpfieoabaa
open Go.ChangeShapes Go.WideShapes Go.ChangeAt Go.RowKit
set_option linter.unusedVariables false
set_option linter.unusedSimpArgs false
theorem RP.en {w : World} {g : Nat} {S : PS} (m : RP w g S) (c i : Nat) (hc : c < 2) (hi : i < 32) : w.cell? ⟨g, i * 5 + 3 + c, none⟩ = some (.bool (S.en c i)) := by
  rcases (show c = 0 ∨ c = 1 by omega) with rfl | rfl
  · exact m.e0 i hi
  · exact m.e1 i hi
theorem RP.th {w : World} {g : Nat} {S : PS} (m : RP w g S) (c : Nat) (hc : c < 2) : w.cell? ⟨g, 160 + c, none⟩ = some (.int .i64 (S.th c)) := by
  rcases (show c = 0 ∨ c = 1 by omega) with rfl | rfl
  · exact m.t0
  · exact m.t1
theorem best_step {C : Nat → Bool} {pr : Nat → Int} (s n : Nat) : bstN C pr s (n + 1) = if C s && decide (pr (bstN C pr (s + 1) n) ≤ pr s) then s else bstN C pr (s + 1) n := rfl
theorem best_lt (C : Nat → Bool) (pr : Nat → Int) (s n : Nat) (h : s + n ≤ 32) : bstN C pr s n < 32 := by
  induction n generalizing s with
  | zero => simp [bstN]
  | succ n ih =>
    have := ih (s + 1) (by omega)
    rw [bstN]; split <;> omega
theorem five : ∀ a b c d : Bool, a = false ∨ (a = true ∧ b = false) ∨ (a = true ∧ b = true ∧ c = false) ∨ (a = true ∧ b = true ∧ c = true ∧ d = false) ∨ (a = true ∧ b = true ∧ c = true ∧ d = true) := by decide
end Go.Proofs.Ytikibfpfieoabaa
namespace Go.Proofs.Ytikibfpfieoabaa
open Go.ChangeShapes Go.WideShapes Go.ChangeAt Go.RowKit
set_option linter.unusedVariables false
set_option linter.unusedSimpArgs false
theorem four : ∀ a b d : Bool, a = false ∨ (a = true ∧ b = false) ∨ (a = true ∧ b = true ∧ d = false) ∨ (a = true ∧ b = true ∧ d = true) := by decide
theorem PS.Ok.pend_yes {S : PS} (ok : S.Ok) (c i : Nat) (h1 : 1 ≤ i) (h2 : i < 32) (hp : S.pe i = true) (he : S.en c i = true) (ht : S.th c < S.pr i) : decide (S.th c < S.pr (S.bst c)) = true := by
  have h0 := ok.tl c
  have := (ok.bst_is c).all i h1 h2 (by simp only [PS.can, hp, he, Bool.true_and, decide_eq_true_eq]; omega)
  simp only [decide_eq_true_eq]; omega
theorem PS.Ok.pend_no {S : PS} (ok : S.Ok) (c : Nat) (h : ∀ j, 1 ≤ j → j < 32 → ¬ (S.pe j = true ∧ S.en c j = true ∧ S.th c < S.pr j)) : decide (S.th c < S.pr (S.bst c)) = false := by
  have h0 := ok.tl c
  simp only [decide_eq_false_iff_not]
  intro ht
  rcases (ok.bst_is c).at_ with e | ⟨a1, a2, a3⟩
  · rw [e, ok.r0] at ht; omega
  · simp only [PS.can, Bool.and_eq_true] at a3
    exact h _ a1 a2 ⟨a3.1.1, a3.1.2, ht⟩
end Go.Proofs.Ytikibfpfieoabaa
namespace Go.Proofs.Ytikibfpfieoabaa
open Go.ChangeShapes Go.WideShapes Go.ChangeAt Go.RowKit
set_option linter.unusedVariables false
set_option linter.unusedSimpArgs false
theorem fr_kp {w w1 w2 : World} {R : Nat → Prop} (h : Fr w w1 R) (k : Kp w1 w2) : Fr w w2 R := h.kp k
theorem RP.as {w : World} {g : Nat} {S S' : PS} (m : RP w g S) (h1 : ∀ i, i < 32 → S.pe i = S'.pe i) (h2 : ∀ i, i < 32 → S.se i = S'.se i) (h3 : ∀ i, i < 32 → S.en 0 i = S'.en 0 i) (h4 : ∀ i, i < 32 → S.en 1 i = S'.en 1 i) (h5 : ∀ i, i < 32 → S.pr i = S'.pr i) (h6 : S.th 0 = S'.th 0) (h7 : S.th 1 = S'.th 1) : RP w g S' :=
  ⟨m.lt, m.fz, fun i hi => h5 i hi ▸ m.pr i hi, fun i hi => h1 i hi ▸ m.pe i hi, fun i hi => h2 i hi ▸ m.se i hi, fun i hi => h3 i hi ▸ m.e0 i hi, fun i hi => h4 i hi ▸ m.e1 i hi, h6 ▸ m.t0, h7 ▸ m.t1⟩
/-- What is enabled told for the sources below s. -/
def PS.enTo (S : PS) (c : Nat) (v : Int) (s : Nat) : PS := { S with en := fun d i => if d = c ∧ 0 < i ∧ i < s then bitI v i else S.en d i }
end Go.Proofs.Ytikibfpfieoabaa
namespace Go.Proofs.Ytikibfpfieoabaa
open Go.ChangeShapes Go.WideShapes Go.ChangeAt Go.RowKit
set_option linter.unusedVariables false
set_option linter.unusedSimpArgs false
theorem isPr_nat {off : Int} (h : isPr off = true) : ∃ k : Nat, off = ((4 * k : Nat) : Int) ∧ k < 32 := by
  simp only [isPr, Bool.and_eq_true, decide_eq_true_eq, beq_iff_eq] at h
  obtain ⟨⟨h1, h2⟩, h3⟩ := h
  obtain ⟨o, rfl⟩ := Int.eq_ofNat_of_zero_le h1
  exact ⟨o / 4, by omega, by omega⟩
theorem isPr_mk (k : Nat) (h : k < 32) : isPr ((4 * k : Nat) : Int) = true := by simp [isPr]; omega
theorem tmod_zero' (off : Int) (n : Int) (hn : 0 < n) : (off.tmod n == 0) = (off % n == 0) := by
  rw [Int.tmod_eq_emod]
  by_cases c : 0 ≤ off ∨ n ∣ off
  · rw [if_pos c]; simp
  · rw [if_neg c]
    have h0 := Int.emod_nonneg off (show n ≠ 0 by omega)
    have h1 := Int.emod_lt_of_pos off hn
    have h2 : off % n ≠ 0 := fun e => c (.inr (Int.dvd_of_emod_eq_zero e))
    have a : (off % n == 0) = false := by simpa using h2
    have b : (off % n - (n.natAbs : Int) == 0) = false := by simp; omega
    rw [a]; exact b
/-- A place that is no priority's, told as the test tells it. -/
theorem isPr_no {off : Int} (h : isPr off = false) : decide (0 ≤ off) = false ∨ (decide (0 ≤ off) = true ∧ decide (off < 128) = false) ∨ (decide (0 ≤ off) = true ∧ decide (off < 128) = true ∧ (off.tmod 4 == 0) = false) := by
  rw [tmod_zero' _ _ (by decide)]
  unfold isPr at h
  cases a : decide (0 ≤ off) <;> cases b : decide (off < 128) <;> cases c : (off % 4 == 0) <;> simp_all
/-- The kinds of places. -/
theorem rg_ways (off : Int) : isPr off = true ∨ off = 4096 ∨ off = 8192 ∨ off = 8320 ∨ off = 2097152 ∨ off = 2101248 ∨ off = 2097156 ∨ off = 2101252 ∨ (isPr off = false ∧ (off == 4096) = false ∧ (off == 8192) = false ∧ (off == 8320) = false ∧ (off == 2097152) = false ∧ (off == 2101248) = false ∧ (off == 2097156) = false ∧ (off == 2101252) = false) := by
  cases h : isPr off
  · by_cases a1 : off = 4096
    · exact .inr (.inl a1)
    by_cases a2 : off = 8192
    · exact .inr (.inr (.inl a2))
    by_cases a3 : off = 8320
    · exact .inr (.inr (.inr (.inl a3)))
    by_cases a4 : off = 2097152
    · exact .inr (.inr (.inr (.inr (.inl a4))))
    by_cases a5 : off = 2101248
    · exact .inr (.inr (.inr (.inr (.inr (.inl a5)))))
    by_cases a6 : off = 2097156
    · exact .inr (.inr (.inr (.inr (.inr (.inr (.inl a6))))))
    by_cases a7 : off = 2101252
    · exact .inr (.inr (.inr (.inr (.inr (.inr (.inr (.inl a7)))))))
    · exact .inr (.inr (.inr (.inr (.inr (.inr (.inr (.inr ⟨rfl, by simpa using a1, by simpa using a2, by simpa using a3, by simpa using a4, by simpa using a5, by simpa using a6, by simpa using a7⟩)))))))
  · exact .inl rfl
theorem rgO_no {off : Int} (h : isPr off = false ∧ (off == 4096) = false ∧ (off == 8192) = false ∧ (off == 8320) = false ∧ (off == 2097152) = false ∧ (off == 2101248) = false ∧ (off == 2097156) = false ∧ (off == 2101252) = false) : rgO off 4 = false := by
  obtain ⟨h0, h1, h2, h3, h4, h5, h6, h7⟩ := h
  unfold rgO isRg
  rw [h0, h1, h2, h3, h4, h5, h6, h7]; rfl
theorem val_pr (S : PS) (k : Nat) (h : k < 32) : S.val ((4 * k : Nat) : Int) = S.pr k := by
  unfold PS.val
  rw [if_pos (isPr_mk k h), Int.toNat_natCast]
  congr 1; omega
theorem rgO_pr (k : Nat) (h : k < 32) : rgO ((4 * k : Nat) : Int) 4 = true := by
  unfold rgO isRg
  rw [isPr_mk k h]; simp
theorem ldS_oth (S : PS) (off size : Int) (h1 : off ≠ 2097156) (h2 : off ≠ 2101252) : S.ldS off size = S := by
  unfold PS.ldS
  rw [if_neg (fun x => h1 x.2), if_neg (fun x => h2 x.2)]
theorem ldS_size (S : PS) (off size : Int) (h : size ≠ 4) : S.ldS off size = S := by
  unfold PS.ldS
  rw [if_neg (fun x => h x.1), if_neg (fun x => h x.1)]
theorem stS_size (S : PS) (off size v : Int) (h : size ≠ 4) : S.stS off size v = S := by unfold PS.stS; rw [if_neg h]
theorem stS_4 (S : PS) (off v : Int) : S.stS off 4 v = S.put off v := by unfold PS.stS; rw [if_pos rfl]
theorem put_pr (S : PS) (k : Nat) (h : k < 32) (v : Int) : S.put ((4 * k : Nat) : Int) v = S.prio k v := by
  unfold PS.put
  rw [if_pos (isPr_mk k h), Int.toNat_natCast]
  congr 1; omega
theorem put_no (S : PS) {off : Int} (v : Int) (h : isPr off = false ∧ (off == 4096) = false ∧ (off == 8192) = false ∧ (off == 8320) = false ∧ (off == 2097152) = false ∧ (off == 2101248) = false ∧ (off == 2097156) = false ∧ (off == 2101252) = false) : S.put off v = S := by
  obtain ⟨h0, h1, h2, h3, h4, h5, h6, h7⟩ := h
  simp only [beq_eq_false_iff_ne] at h1 h2 h3 h4 h5 h6 h7
  unfold PS.put
  rw [if_neg (by rw [h0]; simp), if_neg h2, if_neg h3, if_neg h4, if_neg h5, if_neg h6, if_neg h7]
theorem val_4096 (S : PS) : S.val 4096 = (bw S.pe : Nat) := by
  unfold PS.val
  rw [if_neg (by decide), if_pos rfl]
theorem val_8192 (S : PS) : S.val 8192 = (bw (S.en 0) : Nat) := by
  unfold PS.val
  rw [if_neg (by decide), if_neg (by decide), if_pos rfl]
theorem val_8320 (S : PS) : S.val 8320 = (bw (S.en 1) : Nat) := by
  unfold PS.val
  rw [if_neg (by decide), if_neg (by decide), if_neg (by decide), if_pos rfl]
theorem val_2097152 (S : PS) : S.val 2097152 = S.th 0 := by
  unfold PS.val
  rw [if_neg (by decide), if_neg (by decide), if_neg (by decide), if_neg (by decide), if_pos rfl]
theorem val_2101248 (S : PS) : S.val 2101248 = S.th 1 := by
  unfold PS.val
  rw [if_neg (by decide), if_neg (by decide), if_neg (by decide), if_neg (by decide), if_neg (by decide), if_pos rfl]
theorem val_2097156 (S : PS) : S.val 2097156 = (S.bst 0 : Nat) := by
  unfold PS.val
  rw [if_neg (by decide), if_neg (by decide), if_neg (by decide), if_neg (by decide), if_neg (by decide), if_neg (by decide), if_pos rfl]
theorem val_2101252 (S : PS) : S.val 2101252 = (S.bst 1 : Nat) := by
  unfold PS.val
  rw [if_neg (by decide), if_neg (by decide), if_neg (by decide), if_neg (by decide), if_neg (by decide), if_neg (by decide), if_neg (by decide), if_pos rfl]
theorem put_8192 (S : PS) (v : Int) : S.put 8192 v = S.enab 0 v := by
  unfold PS.put
  rw [if_neg (by decide), if_pos rfl]
theorem put_8320 (S : PS) (v : Int) : S.put 8320 v = S.enab 1 v := by
  unfold PS.put
  rw [if_neg (by decide), if_neg (by decide), if_pos rfl]
theorem put_2097152 (S : PS) (v : Int) : S.put 2097152 v = S.thrs 0 v := by
  unfold PS.put
  rw [if_neg (by decide), if_neg (by decide), if_neg (by decide), if_pos rfl]
theorem put_2101248 (S : PS) (v : Int) : S.put 2101248 v = S.thrs 1 v := by
  unfold PS.put
  rw [if_neg (by decide), if_neg (by decide), if_neg (by decide), if_neg (by decide), if_pos rfl]
theorem put_2097156 (S : PS) (v : Int) : S.put 2097156 v = S.comp 0 v := by
  unfold PS.put
  rw [if_neg (by decide), if_neg (by decide), if_neg (by decide), if_neg (by decide), if_neg (by decide), if_pos rfl]
theorem put_2101252 (S : PS) (v : Int) : S.put 2101252 v = S.comp 1 v := by
  unfold PS.put
  rw [if_neg (by decide), if_neg (by decide), if_neg (by decide), if_neg (by decide), if_neg (by decide), if_neg (by decide), if_pos rfl]
theorem put_4096 (S : PS) (v : Int) : S.put 4096 v = S := by
  unfold PS.put
  rw [if_neg (by decide), if_neg (by decide), if_neg (by decide), if_neg (by decide), if_neg (by decide), if_neg (by decide), if_neg (by decide)]
end Go.Proofs.Ytikibfpfieoabaa
namespace Go.Proofs.Ytikibfpfieoabaa
open Go.ChangeShapes Go.WideShapes Go.ChangeAt Go.RowKit
set_option linter.unusedVariables false
set_option linter.unusedSimpArgs false
/-- Its cells at first. -/
def plZ : List Value := (List.replicate 32 [Value.int .i64 0, .bool false, .bool false, .bool false, .bool false]).flatten ++ [.int .i64 0, .int .i64 0]
theorem plic_ne : (plZ.toArray = #[]) = False := by simp [plZ]
theorem plZ_pr : ∀ i, i < 32 → plZ[i * 5]? = some (Value.int .i64 0)
  | 0, _ => rfl
  | 1, _ => rfl
  | 2, _ => rfl
  | 3, _ => rfl
  | 4, _ => rfl
  | 5, _ => rfl
  | 6, _ => rfl
  | 7, _ => rfl
  | 8, _ => rfl
  | 9, _ => rfl
  | 10, _ => rfl
  | 11, _ => rfl
  | 12, _ => rfl
  | 13, _ => rfl
  | 14, _ => rfl
  | 15, _ => rfl
  | 16, _ => rfl
  | 17, _ => rfl
  | 18, _ => rfl
  | 19, _ => rfl
  | 20, _ => rfl
  | 21, _ => rfl
  | 22, _ => rfl
  | 23, _ => rfl
  | 24, _ => rfl
  | 25, _ => rfl
  | 26, _ => rfl
  | 27, _ => rfl
  | 28, _ => rfl
  | 29, _ => rfl
  | 30, _ => rfl
  | 31, _ => rfl
  | n + 32, h => absurd h (by omega)
theorem plZ_pe : ∀ i, i < 32 → plZ[i * 5 + 1]? = some (Value.bool false)
  | 0, _ => rfl
  | 1, _ => rfl
  | 2, _ => rfl
  | 3, _ => rfl
  | 4, _ => rfl
  | 5, _ => rfl
  | 6, _ => rfl
  | 7, _ => rfl
  | 8, _ => rfl
  | 9, _ => rfl
  | 10, _ => rfl
  | 11, _ => rfl
  | 12, _ => rfl
  | 13, _ => rfl
  | 14, _ => rfl
  | 15, _ => rfl
  | 16, _ => rfl
  | 17, _ => rfl
  | 18, _ => rfl
  | 19, _ => rfl
  | 20, _ => rfl
  | 21, _ => rfl
  | 22, _ => rfl
  | 23, _ => rfl
  | 24, _ => rfl
  | 25, _ => rfl
  | 26, _ => rfl
  | 27, _ => rfl
  | 28, _ => rfl
  | 29, _ => rfl
  | 30, _ => rfl
  | 31, _ => rfl
  | n + 32, h => absurd h (by omega)
theorem plZ_se : ∀ i, i < 32 → plZ[i * 5 + 2]? = some (Value.bool false)
  | 0, _ => rfl
  | 1, _ => rfl
  | 2, _ => rfl
  | 3, _ => rfl
  | 4, _ => rfl
  | 5, _ => rfl
  | 6, _ => rfl
  | 7, _ => rfl
  | 8, _ => rfl
  | 9, _ => rfl
  | 10, _ => rfl
  | 11, _ => rfl
  | 12, _ => rfl
  | 13, _ => rfl
  | 14, _ => rfl
  | 15, _ => rfl
  | 16, _ => rfl
  | 17, _ => rfl
  | 18, _ => rfl
  | 19, _ => rfl
  | 20, _ => rfl
  | 21, _ => rfl
  | 22, _ => rfl
  | 23, _ => rfl
  | 24, _ => rfl
  | 25, _ => rfl
  | 26, _ => rfl
  | 27, _ => rfl
  | 28, _ => rfl
  | 29, _ => rfl
  | 30, _ => rfl
  | 31, _ => rfl
  | n + 32, h => absurd h (by omega)
theorem plZ_e0 : ∀ i, i < 32 → plZ[i * 5 + 3]? = some (Value.bool false)
  | 0, _ => rfl
  | 1, _ => rfl
  | 2, _ => rfl
  | 3, _ => rfl
  | 4, _ => rfl
  | 5, _ => rfl
  | 6, _ => rfl
  | 7, _ => rfl
  | 8, _ => rfl
  | 9, _ => rfl
  | 10, _ => rfl
  | 11, _ => rfl
  | 12, _ => rfl
  | 13, _ => rfl
  | 14, _ => rfl
  | 15, _ => rfl
  | 16, _ => rfl
  | 17, _ => rfl
  | 18, _ => rfl
  | 19, _ => rfl
  | 20, _ => rfl
  | 21, _ => rfl
  | 22, _ => rfl
  | 23, _ => rfl
  | 24, _ => rfl
  | 25, _ => rfl
  | 26, _ => rfl
  | 27, _ => rfl
  | 28, _ => rfl
  | 29, _ => rfl
  | 30, _ => rfl
  | 31, _ => rfl
  | n + 32, h => absurd h (by omega)
theorem plZ_e1 : ∀ i, i < 32 → plZ[i * 5 + 4]? = some (Value.bool false)
  | 0, _ => rfl
  | 1, _ => rfl
  | 2, _ => rfl
  | 3, _ => rfl
  | 4, _ => rfl
  | 5, _ => rfl
  | 6, _ => rfl
  | 7, _ => rfl
  | 8, _ => rfl
  | 9, _ => rfl
  | 10, _ => rfl
  | 11, _ => rfl
  | 12, _ => rfl
  | 13, _ => rfl
  | 14, _ => rfl
  | 15, _ => rfl
  | 16, _ => rfl
  | 17, _ => rfl
  | 18, _ => rfl
  | 19, _ => rfl
  | 20, _ => rfl
  | 21, _ => rfl
  | 22, _ => rfl
  | 23, _ => rfl
  | 24, _ => rfl
  | 25, _ => rfl
  | 26, _ => rfl
  | 27, _ => rfl
  | 28, _ => rfl
  | 29, _ => rfl
  | 30, _ => rfl
  | 31, _ => rfl
  | n + 32, h => absurd h (by omega)
end Go.Proofs.Ytikibfpfieoabaa
