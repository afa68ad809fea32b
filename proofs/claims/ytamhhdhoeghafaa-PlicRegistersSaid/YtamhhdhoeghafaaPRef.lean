/-
  The document's interrupt controller in memory; lines, the best, bits, claims, what is enabled, what is completed. No condition.
-/
import Derived.Test.YtamhhdhoeghafaaPSpec
import Derived.Test.YtamhhdhoeghafaaQFr
import Derived.StillTailTactics
namespace Go.Proofs.Ytamhhdhoeghafaa
open Go.ChangeShapes Go.WideShapes Go.ChangeAt Go.RowKit
set_option linter.unusedVariables false
set_option linter.unusedSimpArgs false
/-- The document's controller: five cells a source, two thresholds. -/
structure RP (w : World) (g : Nat) (S : PS) : Prop where
  lt : g < w.heap.size
  fz : ∀ j, w.frozen? ⟨g, j, none⟩ = false
  pr : ∀ i, i < 32 → w.cell? ⟨g, i * 5, none⟩ = some (.int .i64 (S.pr i))
  pe : ∀ i, i < 32 → w.cell? ⟨g, i * 5 + 1, none⟩ = some (.bool (S.pe i))
  se : ∀ i, i < 32 → w.cell? ⟨g, i * 5 + 2, none⟩ = some (.bool (S.se i))
  e0 : ∀ i, i < 32 → w.cell? ⟨g, i * 5 + 3, none⟩ = some (.bool (S.en 0 i))
  e1 : ∀ i, i < 32 → w.cell? ⟨g, i * 5 + 4, none⟩ = some (.bool (S.en 1 i))
  t0 : w.cell? ⟨g, 160, none⟩ = some (.int .i64 (S.th 0))
  t1 : w.cell? ⟨g, 161, none⟩ = some (.int .i64 (S.th 1))
theorem RP.block {w w' : World} {g : Nat} {S : PS} (m : RP w g S) (hs : w.heap.size ≤ w'.heap.size) (e : w'.heap[g]? = w.heap[g]?) : RP w' g S := by
  have c : ∀ j, w'.cell? ⟨g, j, none⟩ = w.cell? ⟨g, j, none⟩ := fun j => World.cell?_of_block e
  exact ⟨Nat.lt_of_lt_of_le m.lt hs, fun j => (World.frozen?_of_block (a := ⟨g, j, none⟩) e).trans (m.fz j), fun i h => (c _).trans (m.pr i h), fun i h => (c _).trans (m.pe i h), fun i h => (c _).trans (m.se i h), fun i h => (c _).trans (m.e0 i h), fun i h => (c _).trans (m.e1 i h), (c _).trans m.t0, (c _).trans m.t1⟩
theorem RP.fr {w w' : World} {g : Nat} {S : PS} {R : Nat → Prop} (m : RP w g S) (k : Fr w w' R) (h : ¬ R g) : RP w' g S := m.block k.size (k.block g m.lt h)
theorem RP.below {w w' : World} {g : Nat} {S : PS} (m : RP w g S) (k : Below w.heap.size w w') : RP w' g S := m.block k.size (k.block g m.lt)
theorem RP.kp {w w' : World} {g : Nat} {S : PS} (m : RP w g S) (k : Kp w w') : RP w' g S := m.below k.1
theorem RP.like {w : World} {g : Nat} {S S' : PS} (m : RP w g S) (h : S.Like S') (h0 : S.se 0 = S'.se 0) : RP w g S' :=
  ⟨m.lt, m.fz, fun i hi => h.pr i hi ▸ m.pr i hi, fun i hi => h.pe i hi ▸ m.pe i hi, fun i hi => by
    by_cases e : i = 0
    · subst e; exact h0 ▸ m.se 0 hi
    · exact h.se i (by omega) hi ▸ m.se i hi, fun i hi => h.en 0 i (by decide) hi ▸ m.e0 i hi, fun i hi => h.en 1 i (by decide) hi ▸ m.e1 i hi, h.th 0 (by decide) ▸ m.t0, h.th 1 (by decide) ▸ m.t1⟩
theorem cell_oth {w : World} {g i j : Nat} {u : Value} {v : Option Value} (h : w.cell? ⟨g, i, none⟩ = v) (e : i ≠ j) : (w.setCell ⟨g, j, none⟩ u).cell? ⟨g, i, none⟩ = v := by
  rw [World.cell?_setCell_other w ⟨g, j, none⟩ ⟨g, i, none⟩ u (fun x => e (by cases x; rfl))]; exact h
theorem cell_self {w : World} {g i : Nat} {u v : Value} (h : w.cell? ⟨g, i, none⟩ = some v) : (w.setCell ⟨g, i, none⟩ u).cell? ⟨g, i, none⟩ = some u := by simp [go_sem, h]
/-- One source's truth, or number, turned. -/
def upd {α : Type} (f : Nat → α) (i : Nat) (v : α) : Nat → α := fun k => if k = i then v else f k
theorem RP.setPe {w : World} {g : Nat} {S : PS} (m : RP w g S) (i : Nat) (hi : i < 32) (v : Bool) : RP (w.setCell ⟨g, i * 5 + 1, none⟩ (.bool v)) g { S with pe := upd S.pe i v } := by
  refine ⟨by simpa [World.setCell] using m.lt, fun j => by rw [World.frozen?_setCell]; exact m.fz j, fun k h => cell_oth (m.pr k h) (by omega), fun k h => ?_, fun k h => cell_oth (m.se k h) (by omega), fun k h => cell_oth (m.e0 k h) (by omega), fun k h => cell_oth (m.e1 k h) (by omega), cell_oth m.t0 (by omega), cell_oth m.t1 (by omega)⟩
  show _ = some (Value.bool (if k = i then v else S.pe k))
  by_cases e : k = i
  · subst e; rw [if_pos rfl]; exact cell_self (m.pe k h)
  · rw [if_neg e]; exact cell_oth (m.pe k h) (by omega)
theorem RP.setSe {w : World} {g : Nat} {S : PS} (m : RP w g S) (i : Nat) (hi : i < 32) (v : Bool) : RP (w.setCell ⟨g, i * 5 + 2, none⟩ (.bool v)) g { S with se := upd S.se i v } := by
  refine ⟨by simpa [World.setCell] using m.lt, fun j => by rw [World.frozen?_setCell]; exact m.fz j, fun k h => cell_oth (m.pr k h) (by omega), fun k h => cell_oth (m.pe k h) (by omega), fun k h => ?_, fun k h => cell_oth (m.e0 k h) (by omega), fun k h => cell_oth (m.e1 k h) (by omega), cell_oth m.t0 (by omega), cell_oth m.t1 (by omega)⟩
  show _ = some (Value.bool (if k = i then v else S.se k))
  by_cases e : k = i
  · subst e; rw [if_pos rfl]; exact cell_self (m.se k h)
  · rw [if_neg e]; exact cell_oth (m.se k h) (by omega)
theorem RP.setPr {w : World} {g : Nat} {S : PS} (m : RP w g S) (i : Nat) (hi : i < 32) (v : Int) : RP (w.setCell ⟨g, i * 5, none⟩ (.int .i64 v)) g { S with pr := upd S.pr i v } := by
  refine ⟨by simpa [World.setCell] using m.lt, fun j => by rw [World.frozen?_setCell]; exact m.fz j, fun k h => ?_, fun k h => cell_oth (m.pe k h) (by omega), fun k h => cell_oth (m.se k h) (by omega), fun k h => cell_oth (m.e0 k h) (by omega), fun k h => cell_oth (m.e1 k h) (by omega), cell_oth m.t0 (by omega), cell_oth m.t1 (by omega)⟩
  show _ = some (Value.int .i64 (if k = i then v else S.pr k))
  by_cases e : k = i
  · subst e; rw [if_pos rfl]; exact cell_self (m.pr k h)
  · rw [if_neg e]; exact cell_oth (m.pr k h) (by omega)
theorem RP.setEn {w : World} {g : Nat} {S : PS} (m : RP w g S) (c i : Nat) (hc : c < 2) (hi : i < 32) (v : Bool) : RP (w.setCell ⟨g, i * 5 + 3 + c, none⟩ (.bool v)) g { S with en := upd S.en c (upd (S.en c) i v) } := by
  refine ⟨by simpa [World.setCell] using m.lt, fun j => by rw [World.frozen?_setCell]; exact m.fz j, fun k h => cell_oth (m.pr k h) (by omega), fun k h => cell_oth (m.pe k h) (by omega), fun k h => cell_oth (m.se k h) (by omega), fun k h => ?_, fun k h => ?_, cell_oth m.t0 (by omega), cell_oth m.t1 (by omega)⟩
  · show _ = some (Value.bool ((if 0 = c then upd (S.en c) i v else S.en 0) k))
    by_cases e : c = 0
    · subst e
      rw [if_pos rfl]
      show _ = some (Value.bool (if k = i then v else S.en 0 k))
      by_cases e : k = i
      · subst e; rw [if_pos rfl]; exact cell_self (m.e0 k h)
      · rw [if_neg e]; exact cell_oth (m.e0 k h) (by omega)
    · rw [if_neg (by omega)]; exact cell_oth (m.e0 k h) (by omega)
  · show _ = some (Value.bool ((if 1 = c then upd (S.en c) i v else S.en 1) k))
    by_cases e : c = 1
    · subst e
      rw [if_pos rfl]
      show _ = some (Value.bool (if k = i then v else S.en 1 k))
      by_cases e : k = i
      · subst e; rw [if_pos rfl]; exact cell_self (m.e1 k h)
      · rw [if_neg e]; exact cell_oth (m.e1 k h) (by omega)
    · rw [if_neg (by omega)]; exact cell_oth (m.e1 k h) (by omega)
theorem RP.setTh {w : World} {g : Nat} {S : PS} (m : RP w g S) (c : Nat) (hc : c < 2) (v : Int) : RP (w.setCell ⟨g, 160 + c, none⟩ (.int .i64 v)) g { S with th := upd S.th c v } := by
  refine ⟨by simpa [World.setCell] using m.lt, fun j => by rw [World.frozen?_setCell]; exact m.fz j, fun k h => cell_oth (m.pr k h) (by omega), fun k h => cell_oth (m.pe k h) (by omega), fun k h => cell_oth (m.se k h) (by omega), fun k h => cell_oth (m.e0 k h) (by omega), fun k h => cell_oth (m.e1 k h) (by omega), ?_, ?_⟩
  · show _ = some (Value.int .i64 (if 0 = c then v else S.th 0))
    by_cases e : 0 = c
    · subst e; rw [if_pos rfl]; exact cell_self m.t0
    · rw [if_neg e]; exact cell_oth m.t0 (by omega)
  · show _ = some (Value.int .i64 (if 1 = c then v else S.th 1))
    by_cases e : 1 = c
    · subst e; rw [if_pos rfl]; exact cell_self m.t1
    · rw [if_neg e]; exact cell_oth m.t1 (by omega)
/-- The lines of the sources below s told. -/
def PS.linesTo (S : PS) (m : Int) (s : Nat) : PS := { S with pe := fun i => if 0 < i ∧ i < s then bitI m i && !S.se i else S.pe i }
theorem PS.linesTo_end {S : PS} (h : S.Ok) (m : Int) : (S.linesTo m 32).Like (S.lines m) := by
  refine ⟨fun i hi => ?_, fun _ _ _ => rfl, fun _ _ _ _ => rfl, fun _ _ => rfl, fun _ _ => rfl⟩
  show (if 0 < i ∧ i < 32 then bitI m i && !S.se i else S.pe i) = (decide (0 < i) && bitI m i && !S.se i)
  by_cases e : 0 < i
  · rw [if_pos ⟨e, hi⟩]; simp [e]
  · rw [if_neg (by omega)]; obtain rfl : i = 0 := by omega
    rw [h.p0]; simp
set_option maxHeartbeats 4000000 in
theorem rlines_w {w : World} {g : Nat} {S : PS} (m : RP w g S) (ok : S.Ok) (l : Int) (l0 : 0 ≤ l) (l1 : l < 4294967296) :
    Calls Try.prog 12 #[.pointer (some ⟨g, 0, none⟩), .int .u32 l] w fun e w' => e = .returned (.tuple #[]) ∧ RP w' g (S.lines l) ∧ Fr w w' (fun i => i = g) := by
  have HM := Lib.hid m
  clear m
  go_enter Try.func12, Try.ntmps12
  go_wp2
  go_loopw [4] (fun i wr => ∃ s : Nat, 1 ≤ s ∧ s ≤ 32 ∧ i = .int .i64 (s : Int) ∧ RP wr g (S.linesTo l s) ∧ Fr w wr (fun i => i = g)) (fun i _ => 32 - (intOf i).toNat)
  case atStart => exact ⟨1, Nat.le_refl _, by decide, rfl, HM.out.like ⟨fun i hi => by show _ = (if 0 < i ∧ i < 1 then _ else S.pe i); rw [if_neg (by omega)], fun _ _ _ => rfl, fun _ _ _ _ => rfl, fun _ _ => rfl, fun _ _ => rfl⟩ rfl, Fr.refl _ _⟩
  case round =>
    obtain ⟨s, hs0, hs, rfl, hm, hf⟩ := hrel
    have z := hm.fz (s * 5 + 1)
    have hcs := hm.se s
    have hcp := hm.pe s
    have HM2 := Lib.hid hm
    have HF := Lib.hid hf
    clear hm hf
    by_cases hlt : s < 32
    · have cs := hcs hlt
      have cp := hcp hlt
      clear hcs hcp
      obtain ⟨b, hb⟩ : ∃ b, bitI l s = b := ⟨_, rfl⟩
      have hb2 : ((l / 2 ^ s).tmod 2 == 1) = b := by rw [Int.tmod_eq_emod_of_nonneg (Int.ediv_nonneg l0 (Int.le_of_lt (Int.pow_pos (by decide))))]; exact hb
      obtain ⟨x, hx⟩ : ∃ x, S.se s = x := ⟨_, rfl⟩
      have cs2 : wr.cell? ⟨g, s * 5 + 2, none⟩ = some (.bool x) := by rw [← hx]; exact cs
      have HB := Lib.hid hb
      have HX := Lib.hid hx
      clear cs hb hx
      have HD : Hid (RP (wr.setCell ⟨g, s * 5 + 1, none⟩ (.bool (b && !x))).drew g (S.linesTo l (s + 1))) := Lib.hid (by
        have h := HM2.out.setPe s hlt (b && !x)
        refine RP.like (S := { S.linesTo l s with pe := upd (S.linesTo l s).pe s (b && !x) }) ⟨h.lt, h.fz, h.pr, h.pe, h.se, h.e0, h.e1, h.t0, h.t1⟩ ⟨fun i hi => ?_, fun _ _ _ => rfl, fun _ _ _ _ => rfl, fun _ _ => rfl, fun _ _ => rfl⟩ rfl
        show (if i = s then b && !x else if 0 < i ∧ i < s then bitI l i && !S.se i else S.pe i) = (if 0 < i ∧ i < s + 1 then bitI l i && !S.se i else S.pe i)
        by_cases e : i = s
        · subst e; rw [if_pos rfl, if_pos (by omega), HB.out, HX.out]
        · rw [if_neg e]
          by_cases c : 0 < i ∧ i < s
          · rw [if_pos c, if_pos (by omega)]
          · rw [if_neg c, if_neg (by omega)])
      have HG := Lib.hid (HF.out.setCell (p := ⟨g, s * 5 + 1, none⟩) (.inr rfl) (.bool (b && !x))).drew
      have f1 : (0 : Int) ≤ (s : Int) := by omega
      have f2 : (s : Int) < 32 := by omega
      clear HM2 HF HB HX
      cases b <;> cases x
      all_goals
        go_wp2
        refine wp_region_still_tail 17 (by kernel_rfl) (by kernel_rfl) ?_
        simp only [List.take_succ_cons, List.take_zero, List.drop_succ_cons, List.drop_zero]
        repeat (with_reducible refine wpStill_step (fun K hK => ?_); go_simp; with_reducible refine hK _ ?_; clear hK K)
        with_reducible refine wpStill_nil ?_
        change wpList _ _ _ _ _ wr.drew
        go_wp2
        go_roundw
        case rel => exact ⟨s + 1, by omega, by omega, by go_num, HD.out, HG.out⟩
        case measure => simp [intOf]; omega
    · clear hcs hcp
      obtain rfl : s = 32 := by omega
      go_wp2
      refine bodyPost_end (v := .tuple #[]) (by simp [results, Try.results12, go_sem]) rfl ⟨rfl, HM2.out.like (PS.linesTo_end ok l) rfl, HF.out⟩
end Go.Proofs.Ytamhhdhoeghafaa
