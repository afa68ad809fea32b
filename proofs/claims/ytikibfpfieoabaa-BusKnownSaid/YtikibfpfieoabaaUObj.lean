/-
  The program's UART and switch in memory: sixteen bytes that go round, where the first one is, how many are kept, whether it is enabled, what was told. No condition.
-/
import Derived.Test.YtikibfpfieoabaaUB
import Derived.Test.YtikibfpfieoabaaFrAt
import Derived.StillTailTactics
namespace Go.Proofs.Ytikibfpfieoabaa
open Go.ChangeShapes Go.WideShapes Go.ChangeAt Go.RowKit
set_option linter.unusedVariables false
set_option linter.unusedSimpArgs false
/-- The bytes that go round: their cells; those that wait, from the first one on. -/
structure CR (w : World) (g f : Nat) (l : List Int) : Prop where
  lt : g < w.heap.size
  fz : ∀ j, w.frozen? ⟨g, j, none⟩ = false
  f16 : f < 16
  cb : ∀ i, i < 16 → ∃ x, w.cell? ⟨g, i, none⟩ = some (.int .u8 x)
  cl : ∀ i x, l[i]? = some x → w.cell? ⟨g, (f + i) % 16, none⟩ = some (.int .u8 x)
/-- The UART. -/
structure CU (w : World) (g : Nat) (S : US) : Prop where
  row : ∃ f, CR w g f S.l ∧ w.cell? ⟨g, 16, none⟩ = some (.int .i64 ((f : Nat) : Int))
  ck : w.cell? ⟨g, 17, none⟩ = some (.int .i64 ((S.l.length : Nat) : Int))
  ce : w.cell? ⟨g, 18, none⟩ = some (.bool S.en)
  ct : w.cell? ⟨g, 19, none⟩ = some (.int .i64 S.told)
theorem CR.block {w w' : World} {g f : Nat} {l : List Int} (m : CR w g f l) (hs : w.heap.size ≤ w'.heap.size) (e : w'.heap[g]? = w.heap[g]?) : CR w' g f l := by
  have c : ∀ j, w'.cell? ⟨g, j, none⟩ = w.cell? ⟨g, j, none⟩ := fun j => World.cell?_of_block e
  exact ⟨Nat.lt_of_lt_of_le m.lt hs, fun j => (World.frozen?_of_block (a := ⟨g, j, none⟩) e).trans (m.fz j), m.f16, fun i h => let ⟨x, y⟩ := m.cb i h; ⟨x, (c _).trans y⟩, fun i x h => (c _).trans (m.cl i x h)⟩
theorem CU.block {w w' : World} {g : Nat} {S : US} (m : CU w g S) (hs : w.heap.size ≤ w'.heap.size) (e : w'.heap[g]? = w.heap[g]?) : CU w' g S := by
  have c : ∀ j, w'.cell? ⟨g, j, none⟩ = w.cell? ⟨g, j, none⟩ := fun j => World.cell?_of_block e
  obtain ⟨f, r, cf⟩ := m.row
  exact ⟨⟨f, r.block hs e, (c _).trans cf⟩, (c _).trans m.ck, (c _).trans m.ce, (c _).trans m.ct⟩
theorem CU.lt {w : World} {g : Nat} {S : US} (m : CU w g S) : g < w.heap.size := by obtain ⟨f, r, _⟩ := m.row; exact r.lt
theorem CU.fz {w : World} {g : Nat} {S : US} (m : CU w g S) (j : Nat) : w.frozen? ⟨g, j, none⟩ = false := by obtain ⟨f, r, _⟩ := m.row; exact r.fz j
theorem CU.fr {w w' : World} {g : Nat} {S : US} {R : Nat → Prop} (m : CU w g S) (k : Fr w w' R) (h : ¬ R g) : CU w' g S := m.block k.size (k.block g m.lt h)
theorem CU.drew {w : World} {g : Nat} {S : US} (m : CU w g S) : CU w.drew g S := m.block (Nat.le_refl _) rfl
/-- A cell behind the bytes turns. -/
theorem CR.far {w : World} {g f : Nat} {l : List Int} (m : CR w g f l) (j : Nat) (hj : 16 ≤ j) (u : Value) : CR (w.setCell ⟨g, j, none⟩ u) g f l :=
  ⟨by simpa [World.setCell] using m.lt, fun i => by rw [World.frozen?_setCell]; exact m.fz i, m.f16, fun i h => let ⟨x, y⟩ := m.cb i h; ⟨x, cell_othU y (by omega)⟩, fun i x h => cell_othU (m.cl i x h) (by omega)⟩
/-- A byte is put behind the last one. -/
theorem CR.put {w : World} {g f : Nat} {l : List Int} (m : CR w g f l) (hl : l.length < 16) (b : Int) : CR (w.setCell ⟨g, (f + l.length) % 16, none⟩ (.int .u8 b)) g f (l ++ [b]) := by
  have hf := m.f16
  refine ⟨by simpa [World.setCell] using m.lt, fun i => by rw [World.frozen?_setCell]; exact m.fz i, hf, fun i h => ?_, fun i x h => ?_⟩
  · obtain ⟨x, y⟩ := m.cb i h
    by_cases e : i = (f + l.length) % 16
    · subst e; exact ⟨b, cell_selfU y⟩
    · exact ⟨x, cell_othU y e⟩
  · rcases Nat.lt_or_ge i l.length with a | a
    · rw [List.getElem?_append_left a] at h
      exact cell_othU (m.cl i x h) (by omega)
    · rw [List.getElem?_append_right a] at h
      have : i = l.length := by
        rcases Nat.eq_or_lt_of_le a with q | q
        · exact q.symm
        · rw [List.getElem?_eq_none (by simp; omega)] at h; exact absurd h (by simp)
      subst this
      simp at h
      subst h
      obtain ⟨y, hy⟩ := m.cb ((f + l.length) % 16) (Nat.mod_lt _ (by decide))
      exact cell_selfU hy
/-- The first byte is taken away. -/
theorem CR.cut {w : World} {g f : Nat} {x : Int} {r : List Int} (m : CR w g f (x :: r)) (hl : (x :: r).length ≤ 16) (b : Int) : CR (w.setCell ⟨g, f, none⟩ (.int .u8 b)) g ((f + 1) % 16) r := by
  have hf := m.f16
  refine ⟨by simpa [World.setCell] using m.lt, fun i => by rw [World.frozen?_setCell]; exact m.fz i, Nat.mod_lt _ (by decide), fun i h => ?_, fun i y h => ?_⟩
  · obtain ⟨x, y⟩ := m.cb i h
    by_cases e : i = f
    · subst e; exact ⟨b, cell_selfU y⟩
    · exact ⟨x, cell_othU y e⟩
  · have hi : i < r.length := by
      rcases Nat.lt_or_ge i r.length with a | a
      · exact a
      · rw [List.getElem?_eq_none a] at h; exact absurd h (by simp)
    have c := m.cl (i + 1) y (by simpa using h)
    simp only [List.length_cons] at hl
    rw [show ((f + 1) % 16 + i) % 16 = (f + (i + 1)) % 16 by omega]
    exact cell_othU c (by omega)
theorem u8_wrap {v : Int} : IntKind.u8.wrap v = v % 256 := by rw [IntKind.wrap_u8]

/-! The calls of the bytes. -/
theorem take_no {w : World} {g : Nat} {S : US} (m : CU w g S) (h : S.l = []) :
    Calls Try.prog 105 #[.pointer (some ⟨g, 0, none⟩)] w fun e w' => e = .returned (.int .u8 0) ∧ w = w' := by
  have c : w.cell? ⟨g, 17, none⟩ = some (.int .i64 0) := by rw [m.ck, h]; rfl
  clear m h
  go_enter Try.func105, Try.ntmps105
  go_wp2
  go_ret
  exact ⟨rfl, rfl⟩
set_option maxHeartbeats 4000000 in
theorem take_yes {w : World} {g : Nat} {S : US} {x : Int} {r : List Int} (m : CU w g S) (hl : S.l.length ≤ 16) (h : S.l = x :: r) :
    Calls Try.prog 105 #[.pointer (some ⟨g, 0, none⟩)] w fun e w' => e = .returned (.int .u8 x) ∧ CU w' g { S with l := r } ∧ Fr w w' (fun i => i = g) := by
  obtain ⟨f, R, cf⟩ := m.row
  have hf := R.f16
  rw [h] at R
  have ck : w.cell? ⟨g, 17, none⟩ = some (.int .i64 ((r.length + 1 : Nat) : Int)) := by rw [m.ck, h]; rfl
  have ce := Lib.hid m.ce
  have ct := Lib.hid m.ct
  have c0 : w.cell? ⟨g, f, none⟩ = some (.int .u8 x) := by have := R.cl 0 x rfl; rwa [Nat.add_zero, Nat.mod_eq_of_lt hf] at this
  have cc := Lib.hid (R.cut (by rw [← h]; exact hl) 0)
  rw [h] at hl
  obtain ⟨n, hn⟩ : ∃ n : Nat, n = r.length := ⟨_, rfl⟩
  simp only [List.length_cons, ← hn] at hl
  rw [← hn] at ck
  have t0 : (((n + 1 : Nat) : Int) == 0) = false := by rw [beq_eq_false_iff_ne]; omega
  have f0 : (0 : Int) ≤ (f : Int) := by omega
  have f1 : (f : Int) < 16 := by omega
  have e0 : IntKind.i64.wrap ((f : Int) + 1) = ((f + 1 : Nat) : Int) := by rw [IntKind.wrap_i64]; omega
  have e1 : (((f + 1 : Nat) : Int)).tmod 16 = (((f + 1) % 16 : Nat) : Int) := by rw [Int.tmod_eq_emod_of_nonneg (by omega)]; omega
  have e2 : IntKind.i64.wrap (((n + 1 : Nat) : Int) - 1) = (n : Int) := by rw [IntKind.wrap_i64]; omega
  have e3 : IntKind.i64.wrap (((f + 1) % 16 : Nat) : Int) = (((f + 1) % 16 : Nat) : Int) := IntWalk.i64_in _ (by omega)
  have HN := Lib.hid hn
  have z := R.fz
  have HM := Lib.hid m
  have zf := z f
  have z16 := z 16
  have z17 := z 17
  clear m R hl hn z h
  obtain ⟨k, hk⟩ : ∃ k : Int, k = ((n + 1 : Nat) : Int) := ⟨_, rfl⟩
  obtain ⟨a, ha⟩ : ∃ a : Int, a = ((f + 1 : Nat) : Int) := ⟨_, rfl⟩
  obtain ⟨q, hq⟩ : ∃ q : Int, q = (((f + 1) % 16 : Nat) : Int) := ⟨_, rfl⟩
  obtain ⟨nn, hnn⟩ : ∃ nn : Int, nn = (n : Int) := ⟨_, rfl⟩
  rw [← hk] at ck t0 e2
  rw [← ha] at e0 e1
  rw [← hq] at e1 e3
  rw [← hnn] at e2
  have HQ := Lib.hid hq
  have HNN := Lib.hid hnn
  clear hk ha hq hnn
  go_enter Try.func105, Try.ntmps105
  go_wp2
  refine wp_region_still_lit (by kernel_rfl) (by kernel_rfl) ?_
  repeat (with_reducible refine wpStill_step (fun K hK => ?_); go_simp; with_reducible refine hK _ ?_; clear hK K)
  with_reducible refine wpStill_nil ?_
  change Exit.then _ _ _ _ w.drew
  obtain ⟨w1, hw1⟩ : ∃ w1, w1 = w.drew := ⟨_, rfl⟩
  have c0 : w1.cell? ⟨g, f, none⟩ = some (.int .u8 x) := by subst hw1; exact c0
  have cf : w1.cell? ⟨g, 16, none⟩ = some (.int .i64 (f : Int)) := by subst hw1; exact cf
  have ck : w1.cell? ⟨g, 17, none⟩ = some (.int .i64 k) := by subst hw1; exact ck
  have zf : w1.frozen? ⟨g, f, none⟩ = false := by subst hw1; exact zf
  rw [← hw1]
  have kf : Fr w w1 (fun i => i = g) := by subst hw1; exact (Fr.refl w _).drew
  have z16 : w1.frozen? ⟨g, 16, none⟩ = false := by subst hw1; exact z16
  have z17 : w1.frozen? ⟨g, 17, none⟩ = false := by subst hw1; exact z17
  have ce : w1.cell? ⟨g, 18, none⟩ = some (.bool S.en) := by subst hw1; exact ce.out
  have ct : w1.cell? ⟨g, 19, none⟩ = some (.int .i64 S.told) := by subst hw1; exact ct.out
  have cc : CR (w1.setCell ⟨g, f, none⟩ (.int .u8 0)) g ((f + 1) % 16) r := by subst hw1; exact cc.out.block (Nat.le_refl _) rfl
  clear hw1
  go_wp2
  refine wp_region_still_tail 8 (by kernel_rfl) (by kernel_rfl) ?_
  simp only [List.take_succ_cons, List.take_zero, List.drop_succ_cons, List.drop_zero]
  repeat (with_reducible refine wpStill_step (fun K hK => ?_); go_simp; with_reducible refine hK _ ?_; clear hK K)
  with_reducible refine wpStill_nil ?_
  change wpList _ _ _ _ _ w1.drew
  have zf : w1.drew.frozen? ⟨g, f, none⟩ = false := zf
  have c0 : w1.drew.cell? ⟨g, f, none⟩ = some (.int .u8 x) := c0
  go_upto_region 5 with (fail)
  obtain ⟨w2, hw2⟩ : ∃ w2, w2 = (w1.setCell ⟨g, f, none⟩ (.int .u8 0)).drew := ⟨_, rfl⟩
  have cf : w2.cell? ⟨g, 16, none⟩ = some (.int .i64 (f : Int)) := by rw [hw2]; exact cell_othU (w := w1) cf (by omega)
  have ck : w2.cell? ⟨g, 17, none⟩ = some (.int .i64 k) := by rw [hw2]; exact cell_othU (w := w1) ck (by omega)
  have ce := Lib.hid (show w2.cell? ⟨g, 18, none⟩ = some (.bool S.en) by rw [hw2]; exact cell_othU (w := w1) ce (by omega))
  have ct := Lib.hid (show w2.cell? ⟨g, 19, none⟩ = some (.int .i64 S.told) by rw [hw2]; exact cell_othU (w := w1) ct (by omega))
  have z16 : w2.frozen? ⟨g, 16, none⟩ = false := by rw [hw2]; exact (World.frozen?_setCell w1 _ _ _).trans z16
  have z17 : w2.frozen? ⟨g, 17, none⟩ = false := by rw [hw2]; exact (World.frozen?_setCell w1 _ _ _).trans z17
  have cc := Lib.hid (show CR w2 g ((f + 1) % 16) r by rw [hw2]; exact cc.block (Nat.le_refl _) rfl)
  have kf := Lib.hid (show Fr w w2 (fun i => i = g) by rw [hw2]; exact (kf.setCell (p := ⟨g, f, none⟩) (.inr rfl) _).drew)
  rw [← hw2]
  clear hw2
  go_wp2
  go_ret
  refine ⟨rfl, ⟨⟨(f + 1) % 16, ?_, ?_⟩, ?_, ?_, ?_⟩, ?_⟩
  · exact (cc.out.far 16 (by decide) _).far 17 (by decide) _
  · rw [← HQ.out]; exact cell_othU (cell_selfU cf) (by decide)
  · show _ = some (Value.int .i64 ((r.length : Nat) : Int))
    rw [← HN.out, ← HNN.out]; exact cell_selfU (cell_othU ck (by decide))
  · exact cell_othU (cell_othU ce.out (by decide)) (by decide)
  · exact cell_othU (cell_othU ct.out (by decide)) (by decide)
  · exact (kf.out.setCell (p := ⟨g, 16, none⟩) (.inr rfl) _).setCell (p := ⟨g, 17, none⟩) (.inr rfl) _

theorem waits_u {w : World} {g : Nat} {S : US} (m : CU w g S) :
    Calls Try.prog 107 #[.pointer (some ⟨g, 0, none⟩)] w fun e w' => e = .returned (.int .i64 (S.l.length : Int)) ∧ w = w' := by
  have c := m.ck
  clear m
  go_enter Try.func107, Try.ntmps107
  go_wp2
  go_ret
  exact ⟨rfl, rfl⟩
theorem bit_u (w : World) (b : Bool) : Calls Try.prog 106 #[.bool b] w fun e w' => e = .returned (.int .u64 (if b = true then 1 else 0)) ∧ w = w' := by
  cases b
  all_goals
    go_enter Try.func106, Try.ntmps106
    go_wp2
    go_ret
    exact ⟨rfl, rfl⟩
theorem isreg_u (w : World) (off size : Int) : Calls Try.prog 102 #[.int .i64 off, .int .i64 size] w fun e w' => e = .returned (.bool (rgU off size)) ∧ w = w' := by
  cases h : rgU off size with
  | true =>
    obtain ⟨rfl, h⟩ := rgU_yes h
    have a0 : decide (0 ≤ off) = true := by simp; omega
    have a1 : decide (off ≤ 7) = true := by simp; omega
    clear h
    go_enter Try.func102, Try.ntmps102
    go_wp2
    go_ret
    exact ⟨rfl, rfl⟩
  | false =>
    rcases rgU_no h with a0 | ⟨rfl, a0⟩ | ⟨rfl, a0, a1⟩
    · clear h
      go_enter Try.func102, Try.ntmps102
      go_wp2
      go_ret
      exact ⟨rfl, rfl⟩
    · have a1 : decide (0 ≤ off) = false := by simp at a0 ⊢; omega
      clear h a0
      go_enter Try.func102, Try.ntmps102
      go_wp2
      go_ret
      exact ⟨rfl, rfl⟩
    · have a2 : decide (0 ≤ off) = true := by simp at a0 ⊢; omega
      have a3 : decide (off ≤ 7) = false := by simp at a1 ⊢; omega
      clear h a0 a1
      go_enter Try.func102, Try.ntmps102
      go_wp2
      go_ret
      exact ⟨rfl, rfl⟩
theorem issw_u (w : World) (off size : Int) : Calls Try.prog 110 #[.int .i64 off, .int .i64 size] w fun e w' => e = .returned (.bool (pwO off size)) ∧ w = w' := by
  cases h : pwO off size with
  | true =>
    simp only [pwO, Bool.and_eq_true, beq_iff_eq] at h
    obtain ⟨rfl, rfl⟩ := h
    go_enter Try.func110, Try.ntmps110
    go_wp2
    go_ret
    exact ⟨rfl, rfl⟩
  | false =>
    by_cases a : off = 0
    · subst a
      rcases pwO_no h with b | ⟨rfl, b⟩
      · clear h
        go_enter Try.func110, Try.ntmps110
        go_wp2
        go_ret
        exact ⟨rfl, rfl⟩
      · cases b
    · have b : (off == 0) = false := by simpa using a
      clear h a
      go_enter Try.func110, Try.ntmps110
      go_wp2
      go_ret
      exact ⟨rfl, rfl⟩
end Go.Proofs.Ytikibfpfieoabaa
