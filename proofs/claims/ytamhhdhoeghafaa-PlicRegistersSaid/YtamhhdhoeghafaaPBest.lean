/-
  The document's interrupt controller: the best source, whether a context is interrupted. No condition.
-/
import Derived.Test.YtamhhdhoeghafaaPRef
namespace Go.Proofs.Ytamhhdhoeghafaa
open Go.ChangeShapes Go.WideShapes Go.ChangeAt Go.RowKit
set_option linter.unusedVariables false
set_option linter.unusedSimpArgs false
theorem RP.en {w : World} {g : Nat} {S : PS} (m : RP w g S) (c i : Nat) (hc : c < 2) (hi : i < 32) : w.cell? ⟨g, i * 5 + 3 + c, none⟩ = some (.bool (S.en c i)) := by
  rcases (show c = 0 ∨ c = 1 by omega) with rfl | rfl
  · exact m.e0 i hi
  · exact m.e1 i hi
theorem RP.th {w : World} {g : Nat} {S : PS} (m : RP w g S) (c : Nat) (hc : c < 2) : w.cell? ⟨g, 160 + c, none⟩ = some (.int .i64 (S.th c)) := by
  rcases (show c = 0 ∨ c = 1 by omega) with rfl | rfl
  · exact m.t0
  · exact m.t1
theorem best_step {C : Nat → Bool} {pr : Nat → Int} (s n : Nat) : bstN C pr s (n + 1) = if C s && decide (pr (bstN C pr (s + 1) n) ≤ pr s) then s else bstN C pr (s + 1) n := rfl
theorem best_lt (C : Nat → Bool) (pr : Nat → Int) (s n : Nat) (h : s + n ≤ 32) : bstN C pr s n < 32 := by
  induction n generalizing s with
  | zero => simp [bstN]
  | succ n ih =>
    have := ih (s + 1) (by omega)
    rw [bstN]; split <;> omega
theorem five : ∀ a b c d : Bool, a = false ∨ (a = true ∧ b = false) ∨ (a = true ∧ b = true ∧ c = false) ∨ (a = true ∧ b = true ∧ c = true ∧ d = false) ∨ (a = true ∧ b = true ∧ c = true ∧ d = true) := by decide
set_option maxHeartbeats 8000000 in
theorem rbest_0 {w : World} {g : Nat} {S : PS} (m : RP w g S) (ok : S.Ok) :
    Calls Try.prog 34 #[.pointer (some ⟨g, 0, none⟩), .int .i64 0] w fun e w' => e = .returned (.int .i64 (S.bst 0 : Nat)) ∧ Kp w w' := by
  have HM := Lib.hid m
  have hg := m.lt
  clear m
  go_enter Try.func34, Try.ntmps34
  go_wp2
  go_loopw [5, 6] (fun b i wr => ∃ s : Nat, s ≤ 31 ∧ i = .int .i64 (s : Int) ∧ b = .int .i64 ((bstN (S.can 0) S.pr (s + 1) (31 - s) : Nat) : Int) ∧ Kp w wr) (fun _ i _ => (intOf i).toNat)
  case atStart => exact ⟨31, Nat.le_refl _, rfl, rfl, Kp.refl w⟩
  case round =>
    obtain ⟨s, hs, rfl, rfl, hk⟩ := hrel
    have hm := HM.out.kp hk
    have HK := Lib.hid hk
    have hsz := hk.size
    have hgr := hm.lt
    clear hk
    by_cases hlt : 1 ≤ s
    · have hst := best_step (C := S.can 0) (pr := S.pr) s (31 - s)
      rw [show 31 - s + 1 = 31 - (s - 1) by omega] at hst
      have hbl := best_lt (S.can 0) S.pr (s + 1) (31 - s) (by omega)
      have hcb := hm.pr (bstN (S.can 0) S.pr (s + 1) (31 - s)) hbl
      have hcan : S.can 0 s = (S.pe s && S.en 0 s && decide (0 < S.pr s)) := rfl
      rw [hcan] at hst
      have hge : bstN (S.can 0) S.pr s (31 - (s - 1)) = bstN (S.can 0) S.pr (s - 1 + 1) (31 - (s - 1)) := by rw [show s - 1 + 1 = s by omega]
      rw [hge] at hst
      obtain ⟨nb, hnb⟩ : ∃ nb, bstN (S.can 0) S.pr (s - 1 + 1) (31 - (s - 1)) = nb := ⟨_, rfl⟩
      rw [hnb] at hst
      have HNB := Lib.hid hnb
      generalize bstN (S.can 0) S.pr (s + 1) (31 - s) = b at hst hbl hcb ⊢
      have c0 := hm.pr s (by omega)
      have c1 := hm.pe s (by omega)
      have c2 := hm.se s (by omega)
      have c3 := hm.e0 s (by omega)
      have c4 := hm.e1 s (by omega)
      have hrl := ok.rl s
      have hrh := ok.rh s
      clear hm hcan hge hnb
      generalize S.pr s = p at hst c0 hrl hrh
      generalize S.pr b = q at hst hcb
      generalize S.pe s = b1 at hst c1
      generalize S.se s = b2 at c2
      generalize S.en 0 s = y0 at hst c3
      generalize S.en 1 s = y1 at c4
      obtain ⟨d1, hd1⟩ : ∃ d, decide (0 < p) = d := ⟨_, rfl⟩
      obtain ⟨d2, hd2⟩ : ∃ d, decide (q ≤ p) = d := ⟨_, rfl⟩
      rw [hd1, hd2] at hst
      have HST := Lib.hid hst
      clear hst
      have f1 : (1 : Int) ≤ (s : Int) := by omega
      have f2 : (b : Int) < 32 := by omega
      have hne : ¬ wr.heap.size = g := by omega
      have hA := At.new wr [.int .i64 p, .bool b1, .bool b2, .bool y0, .bool y1] 59
      have x0 := hA 0 _ rfl
      have x1 := hA 1 _ rfl
      have x2 := hA 2 _ rfl
      have x3 := hA 3 _ rfl
      have x4 := hA 4 _ rfl
      have xq := ((Kp.alloc wr #[.int .i64 p, .bool b1, .bool b2, .bool y0, .bool y1] 59).cell (p := ⟨g, b * 5, none⟩) hgr).trans hcb
      have HK5 := Lib.hid (HK.out.allocs #[.int .i64 p, .bool b1, .bool b2, .bool y0, .bool y1] 59)
      clear hA
      have e5 : ([.int .i64 p, .bool b1, .bool b2, .bool y0, .bool y1] : List Value).toArray = #[.int .i64 p, .bool b1, .bool b2, .bool y0, .bool y1] := rfl
      rw [e5] at x0 x1 x2 x3 x4
      clear e5
      obtain ⟨w5, hw5⟩ : ∃ w5, w5 = wr.alloc (.cells #[.int .i64 p, .bool b1, .bool b2, .bool y0, .bool y1] 59) := ⟨_, rfl⟩
      rw [← hw5] at x0 x1 x2 x3 x4 xq HK5
      have HW5 := Lib.hid hw5
      clear hw5
      rcases five b1 y0 d1 d2 with rfl | ⟨rfl, rfl⟩ | ⟨rfl, rfl, rfl⟩ | ⟨rfl, rfl, rfl, rfl⟩ | ⟨rfl, rfl, rfl, rfl⟩
      all_goals
        go_upto_region 6 with fail
        rw [← HW5.out]
        refine wp_region_still_lit (by kernel_rfl) (by kernel_rfl) ?_
        repeat (with_reducible refine wpStill_step (fun K hK => ?_); go_simp; with_reducible refine hK _ ?_; clear hK K)
        with_reducible refine wpStill_nil ?_
        change Exit.then _ _ _ _ w5.drew
        go_wp2
        go_roundw
        case rel => exact ⟨s - 1, by omega, by rw [show (s : Int) - 1 = ((s - 1 : Nat) : Int) by omega], by rw [HNB.out, HST.out]; simp, HK5.out.drew⟩
        case measure => simp [intOf]; omega
    · clear hm
      obtain rfl : s = 0 := by omega
      go_wp2
      go_ret
      exact ⟨rfl, HK.out⟩
set_option maxHeartbeats 8000000 in
theorem rbest_1 {w : World} {g : Nat} {S : PS} (m : RP w g S) (ok : S.Ok) :
    Calls Try.prog 34 #[.pointer (some ⟨g, 0, none⟩), .int .i64 1] w fun e w' => e = .returned (.int .i64 (S.bst 1 : Nat)) ∧ Kp w w' := by
  have HM := Lib.hid m
  have hg := m.lt
  clear m
  go_enter Try.func34, Try.ntmps34
  go_wp2
  go_loopw [5, 6] (fun b i wr => ∃ s : Nat, s ≤ 31 ∧ i = .int .i64 (s : Int) ∧ b = .int .i64 ((bstN (S.can 1) S.pr (s + 1) (31 - s) : Nat) : Int) ∧ Kp w wr) (fun _ i _ => (intOf i).toNat)
  case atStart => exact ⟨31, Nat.le_refl _, rfl, rfl, Kp.refl w⟩
  case round =>
    obtain ⟨s, hs, rfl, rfl, hk⟩ := hrel
    have hm := HM.out.kp hk
    have HK := Lib.hid hk
    have hsz := hk.size
    have hgr := hm.lt
    clear hk
    by_cases hlt : 1 ≤ s
    · have hst := best_step (C := S.can 1) (pr := S.pr) s (31 - s)
      rw [show 31 - s + 1 = 31 - (s - 1) by omega] at hst
      have hbl := best_lt (S.can 1) S.pr (s + 1) (31 - s) (by omega)
      have hcb := hm.pr (bstN (S.can 1) S.pr (s + 1) (31 - s)) hbl
      have hcan : S.can 1 s = (S.pe s && S.en 1 s && decide (0 < S.pr s)) := rfl
      rw [hcan] at hst
      have hge : bstN (S.can 1) S.pr s (31 - (s - 1)) = bstN (S.can 1) S.pr (s - 1 + 1) (31 - (s - 1)) := by rw [show s - 1 + 1 = s by omega]
      rw [hge] at hst
      obtain ⟨nb, hnb⟩ : ∃ nb, bstN (S.can 1) S.pr (s - 1 + 1) (31 - (s - 1)) = nb := ⟨_, rfl⟩
      rw [hnb] at hst
      have HNB := Lib.hid hnb
      generalize bstN (S.can 1) S.pr (s + 1) (31 - s) = b at hst hbl hcb ⊢
      have c0 := hm.pr s (by omega)
      have c1 := hm.pe s (by omega)
      have c2 := hm.se s (by omega)
      have c3 := hm.e0 s (by omega)
      have c4 := hm.e1 s (by omega)
      have hrl := ok.rl s
      have hrh := ok.rh s
      clear hm hcan hge hnb
      generalize S.pr s = p at hst c0 hrl hrh
      generalize S.pr b = q at hst hcb
      generalize S.pe s = b1 at hst c1
      generalize S.se s = b2 at c2
      generalize S.en 0 s = y0 at c3
      generalize S.en 1 s = y1 at hst c4
      obtain ⟨d1, hd1⟩ : ∃ d, decide (0 < p) = d := ⟨_, rfl⟩
      obtain ⟨d2, hd2⟩ : ∃ d, decide (q ≤ p) = d := ⟨_, rfl⟩
      rw [hd1, hd2] at hst
      have HST := Lib.hid hst
      clear hst
      have f1 : (1 : Int) ≤ (s : Int) := by omega
      have f2 : (b : Int) < 32 := by omega
      have hne : ¬ wr.heap.size = g := by omega
      have hA := At.new wr [.int .i64 p, .bool b1, .bool b2, .bool y0, .bool y1] 59
      have x0 := hA 0 _ rfl
      have x1 := hA 1 _ rfl
      have x2 := hA 2 _ rfl
      have x3 := hA 3 _ rfl
      have x4 := hA 4 _ rfl
      have xq := ((Kp.alloc wr #[.int .i64 p, .bool b1, .bool b2, .bool y0, .bool y1] 59).cell (p := ⟨g, b * 5, none⟩) hgr).trans hcb
      have HK5 := Lib.hid (HK.out.allocs #[.int .i64 p, .bool b1, .bool b2, .bool y0, .bool y1] 59)
      clear hA
      have e5 : ([.int .i64 p, .bool b1, .bool b2, .bool y0, .bool y1] : List Value).toArray = #[.int .i64 p, .bool b1, .bool b2, .bool y0, .bool y1] := rfl
      rw [e5] at x0 x1 x2 x3 x4
      clear e5
      obtain ⟨w5, hw5⟩ : ∃ w5, w5 = wr.alloc (.cells #[.int .i64 p, .bool b1, .bool b2, .bool y0, .bool y1] 59) := ⟨_, rfl⟩
      rw [← hw5] at x0 x1 x2 x3 x4 xq HK5
      have HW5 := Lib.hid hw5
      clear hw5
      rcases five b1 y1 d1 d2 with rfl | ⟨rfl, rfl⟩ | ⟨rfl, rfl, rfl⟩ | ⟨rfl, rfl, rfl, rfl⟩ | ⟨rfl, rfl, rfl, rfl⟩
      all_goals
        go_upto_region 6 with fail
        rw [← HW5.out]
        refine wp_region_still_lit (by kernel_rfl) (by kernel_rfl) ?_
        repeat (with_reducible refine wpStill_step (fun K hK => ?_); go_simp; with_reducible refine hK _ ?_; clear hK K)
        with_reducible refine wpStill_nil ?_
        change Exit.then _ _ _ _ w5.drew
        go_wp2
        go_roundw
        case rel => exact ⟨s - 1, by omega, by rw [show (s : Int) - 1 = ((s - 1 : Nat) : Int) by omega], by rw [HNB.out, HST.out]; simp, HK5.out.drew⟩
        case measure => simp [intOf]; omega
    · clear hm
      obtain rfl : s = 0 := by omega
      go_wp2
      go_ret
      exact ⟨rfl, HK.out⟩
end Go.Proofs.Ytamhhdhoeghafaa
