/-
  The document's interrupt controller: whether a context is interrupted. No condition.
-/
import Derived.Test.YtamhhdhoeghafaaPBest
namespace Go.Proofs.Ytamhhdhoeghafaa
open Go.ChangeShapes Go.WideShapes Go.ChangeAt Go.RowKit
set_option linter.unusedVariables false
set_option linter.unusedSimpArgs false
theorem four : ∀ a b d : Bool, a = false ∨ (a = true ∧ b = false) ∨ (a = true ∧ b = true ∧ d = false) ∨ (a = true ∧ b = true ∧ d = true) := by decide
theorem PS.Ok.pend_yes {S : PS} (ok : S.Ok) (c i : Nat) (h1 : 1 ≤ i) (h2 : i < 32) (hp : S.pe i = true) (he : S.en c i = true) (ht : S.th c < S.pr i) : decide (S.th c < S.pr (S.bst c)) = true := by
  have h0 := ok.tl c
  have := (ok.bst_is c).all i h1 h2 (by simp only [PS.can, hp, he, Bool.true_and, decide_eq_true_eq]; omega)
  simp only [decide_eq_true_eq]; omega
theorem PS.Ok.pend_no {S : PS} (ok : S.Ok) (c : Nat) (h : ∀ j, 1 ≤ j → j < 32 → ¬ (S.pe j = true ∧ S.en c j = true ∧ S.th c < S.pr j)) : decide (S.th c < S.pr (S.bst c)) = false := by
  have h0 := ok.tl c
  simp only [decide_eq_false_iff_not]
  intro ht
  rcases (ok.bst_is c).at_ with e | ⟨a1, a2, a3⟩
  · rw [e, ok.r0] at ht; omega
  · simp only [PS.can, Bool.and_eq_true] at a3
    exact h _ a1 a2 ⟨a3.1.1, a3.1.2, ht⟩
set_option maxHeartbeats 8000000 in
theorem rpend_0 {w : World} {g : Nat} {S : PS} (m : RP w g S) (ok : S.Ok) :
    Calls Try.prog 18 #[.pointer (some ⟨g, 0, none⟩), .int .i64 0] w fun e w' => e = .returned (.bool (decide (S.th 0 < S.pr (S.bst 0)))) ∧ Kp w w' := by
  have HM := Lib.hid m
  have hg := m.lt
  clear m
  go_enter Try.func18, Try.ntmps18
  go_wp2
  go_loopw [5] (fun i wr => ∃ s : Nat, 1 ≤ s ∧ s ≤ 32 ∧ i = .int .i64 (s : Int) ∧ (∀ j, 1 ≤ j → j < s → ¬ (S.pe j = true ∧ S.en 0 j = true ∧ S.th 0 < S.pr j)) ∧ Kp w wr) (fun i _ => 32 - (intOf i).toNat)
  case atStart => exact ⟨1, Nat.le_refl _, by decide, rfl, fun j h1 h2 => by omega, Kp.refl w⟩
  case round =>
    obtain ⟨s, hs0, hs, rfl, hno, hk⟩ := hrel
    have hm := HM.out.kp hk
    have HK := Lib.hid hk
    have HNO := Lib.hid hno
    have hsz := hk.size
    have hgr := hm.lt
    clear hk hno
    by_cases hlt : s < 32
    · have c0 := hm.pr s (by omega)
      have c1 := hm.pe s (by omega)
      have c2 := hm.se s (by omega)
      have c3 := hm.e0 s (by omega)
      have c4 := hm.e1 s (by omega)
      have ct := hm.t0
      have hrl := ok.rl s
      have hrh := ok.rh s
      have htl := ok.tl 0
      have hth := ok.th8 0
      obtain ⟨P, hP⟩ : ∃ P, P = S.pr s := ⟨_, rfl⟩
      obtain ⟨b1, hb1⟩ : ∃ b, b = S.pe s := ⟨_, rfl⟩
      obtain ⟨b2, hb2⟩ : ∃ b, b = S.se s := ⟨_, rfl⟩
      obtain ⟨y0, hy0⟩ : ∃ b, b = S.en 0 s := ⟨_, rfl⟩
      obtain ⟨y1, hy1⟩ : ∃ b, b = S.en 1 s := ⟨_, rfl⟩
      obtain ⟨t, ht⟩ : ∃ t, t = S.th 0 := ⟨_, rfl⟩
      rw [← hP] at c0 hrl hrh
      rw [← hb1] at c1
      rw [← hb2] at c2
      rw [← hy0] at c3
      rw [← hy1] at c4
      rw [← ht] at ct htl hth
      obtain ⟨d1, hd1⟩ : ∃ d, decide (t < P) = d := ⟨_, rfl⟩
      have HP := Lib.hid hP
      have HB1 := Lib.hid hb1
      have HE := Lib.hid hy0
      have HT := Lib.hid ht
      have HD1 := Lib.hid hd1
      clear hm hP hb1 hb2 hy0 hy1 ht
      have f1 : (1 : Int) ≤ (s : Int) := by omega
      have f2 : (s : Int) < 32 := by omega
      have hA := At.new wr [.int .i64 P, .bool b1, .bool b2, .bool y0, .bool y1] 59
      have x0 := hA 0 _ rfl
      have x1 := hA 1 _ rfl
      have x2 := hA 2 _ rfl
      have x3 := hA 3 _ rfl
      have x4 := hA 4 _ rfl
      have xt := ((Kp.alloc wr #[.int .i64 P, .bool b1, .bool b2, .bool y0, .bool y1] 59).cell (p := ⟨g, 160, none⟩) hgr).trans ct
      have HK5 := Lib.hid (HK.out.allocs #[.int .i64 P, .bool b1, .bool b2, .bool y0, .bool y1] 59)
      clear hA
      have e5 : ([.int .i64 P, .bool b1, .bool b2, .bool y0, .bool y1] : List Value).toArray = #[.int .i64 P, .bool b1, .bool b2, .bool y0, .bool y1] := rfl
      rw [e5] at x0 x1 x2 x3 x4
      clear e5
      obtain ⟨w5, hw5⟩ : ∃ w5, w5 = wr.alloc (.cells #[.int .i64 P, .bool b1, .bool b2, .bool y0, .bool y1] 59) := ⟨_, rfl⟩
      rw [← hw5] at x0 x1 x2 x3 x4 xt HK5
      have HW5 := Lib.hid hw5
      clear hw5
      rcases four b1 y0 d1 with rfl | ⟨rfl, rfl⟩ | ⟨rfl, rfl, rfl⟩ | ⟨rfl, rfl, rfl⟩
      all_goals
        go_upto_region 7 with fail
        rw [← HW5.out]
        refine wp_region_still_lit (by kernel_rfl) (by kernel_rfl) ?_
        repeat (with_reducible refine wpStill_step (fun K hK => ?_); go_simp; with_reducible refine hK _ ?_; clear hK K)
        with_reducible refine wpStill_nil ?_
        change Exit.then _ _ _ _ w5.drew
        go_wp2
      rotate_left 3
      · go_ret
        refine ⟨ret_bool ?_, HK5.out.drew⟩
        exact (ok.pend_yes 0 s hs0 hlt HB1.out.symm HE.out.symm (by rw [← HT.out, ← HP.out]; exact of_decide_eq_true HD1.out)).symm
      all_goals
        go_roundw
        case rel =>
          refine ⟨s + 1, by omega, by omega, by go_num, fun j h1 h2 h => ?_, HK5.out.drew⟩
          by_cases ej : j = s
          · subst ej
            rw [← HB1.out, ← HE.out, ← HT.out, ← HP.out] at h
            obtain ⟨q1, q2, q3⟩ := h
            first | exact absurd q1 (by decide) | exact absurd q2 (by decide) | exact absurd q3 (of_decide_eq_false HD1.out)
          · exact HNO.out j h1 (by omega) h
        case measure => simp [intOf]; omega
    · clear hm
      obtain rfl : s = 32 := by omega
      go_wp2
      go_ret
      exact ⟨ret_bool (ok.pend_no 0 HNO.out).symm, HK.out⟩
set_option maxHeartbeats 8000000 in
theorem rpend_1 {w : World} {g : Nat} {S : PS} (m : RP w g S) (ok : S.Ok) :
    Calls Try.prog 18 #[.pointer (some ⟨g, 0, none⟩), .int .i64 1] w fun e w' => e = .returned (.bool (decide (S.th 1 < S.pr (S.bst 1)))) ∧ Kp w w' := by
  have HM := Lib.hid m
  have hg := m.lt
  clear m
  go_enter Try.func18, Try.ntmps18
  go_wp2
  go_loopw [5] (fun i wr => ∃ s : Nat, 1 ≤ s ∧ s ≤ 32 ∧ i = .int .i64 (s : Int) ∧ (∀ j, 1 ≤ j → j < s → ¬ (S.pe j = true ∧ S.en 1 j = true ∧ S.th 1 < S.pr j)) ∧ Kp w wr) (fun i _ => 32 - (intOf i).toNat)
  case atStart => exact ⟨1, Nat.le_refl _, by decide, rfl, fun j h1 h2 => by omega, Kp.refl w⟩
  case round =>
    obtain ⟨s, hs0, hs, rfl, hno, hk⟩ := hrel
    have hm := HM.out.kp hk
    have HK := Lib.hid hk
    have HNO := Lib.hid hno
    have hsz := hk.size
    have hgr := hm.lt
    clear hk hno
    by_cases hlt : s < 32
    · have c0 := hm.pr s (by omega)
      have c1 := hm.pe s (by omega)
      have c2 := hm.se s (by omega)
      have c3 := hm.e0 s (by omega)
      have c4 := hm.e1 s (by omega)
      have ct := hm.t1
      have hrl := ok.rl s
      have hrh := ok.rh s
      have htl := ok.tl 1
      have hth := ok.th8 1
      obtain ⟨P, hP⟩ : ∃ P, P = S.pr s := ⟨_, rfl⟩
      obtain ⟨b1, hb1⟩ : ∃ b, b = S.pe s := ⟨_, rfl⟩
      obtain ⟨b2, hb2⟩ : ∃ b, b = S.se s := ⟨_, rfl⟩
      obtain ⟨y0, hy0⟩ : ∃ b, b = S.en 0 s := ⟨_, rfl⟩
      obtain ⟨y1, hy1⟩ : ∃ b, b = S.en 1 s := ⟨_, rfl⟩
      obtain ⟨t, ht⟩ : ∃ t, t = S.th 1 := ⟨_, rfl⟩
      rw [← hP] at c0 hrl hrh
      rw [← hb1] at c1
      rw [← hb2] at c2
      rw [← hy0] at c3
      rw [← hy1] at c4
      rw [← ht] at ct htl hth
      obtain ⟨d1, hd1⟩ : ∃ d, decide (t < P) = d := ⟨_, rfl⟩
      have HP := Lib.hid hP
      have HB1 := Lib.hid hb1
      have HE := Lib.hid hy1
      have HT := Lib.hid ht
      have HD1 := Lib.hid hd1
      clear hm hP hb1 hb2 hy0 hy1 ht
      have f1 : (1 : Int) ≤ (s : Int) := by omega
      have f2 : (s : Int) < 32 := by omega
      have hA := At.new wr [.int .i64 P, .bool b1, .bool b2, .bool y0, .bool y1] 59
      have x0 := hA 0 _ rfl
      have x1 := hA 1 _ rfl
      have x2 := hA 2 _ rfl
      have x3 := hA 3 _ rfl
      have x4 := hA 4 _ rfl
      have xt := ((Kp.alloc wr #[.int .i64 P, .bool b1, .bool b2, .bool y0, .bool y1] 59).cell (p := ⟨g, 161, none⟩) hgr).trans ct
      have HK5 := Lib.hid (HK.out.allocs #[.int .i64 P, .bool b1, .bool b2, .bool y0, .bool y1] 59)
      clear hA
      have e5 : ([.int .i64 P, .bool b1, .bool b2, .bool y0, .bool y1] : List Value).toArray = #[.int .i64 P, .bool b1, .bool b2, .bool y0, .bool y1] := rfl
      rw [e5] at x0 x1 x2 x3 x4
      clear e5
      obtain ⟨w5, hw5⟩ : ∃ w5, w5 = wr.alloc (.cells #[.int .i64 P, .bool b1, .bool b2, .bool y0, .bool y1] 59) := ⟨_, rfl⟩
      rw [← hw5] at x0 x1 x2 x3 x4 xt HK5
      have HW5 := Lib.hid hw5
      clear hw5
      rcases four b1 y1 d1 with rfl | ⟨rfl, rfl⟩ | ⟨rfl, rfl, rfl⟩ | ⟨rfl, rfl, rfl⟩
      all_goals
        go_upto_region 7 with fail
        rw [← HW5.out]
        refine wp_region_still_lit (by kernel_rfl) (by kernel_rfl) ?_
        repeat (with_reducible refine wpStill_step (fun K hK => ?_); go_simp; with_reducible refine hK _ ?_; clear hK K)
        with_reducible refine wpStill_nil ?_
        change Exit.then _ _ _ _ w5.drew
        go_wp2
      rotate_left 3
      · go_ret
        refine ⟨ret_bool ?_, HK5.out.drew⟩
        exact (ok.pend_yes 1 s hs0 hlt HB1.out.symm HE.out.symm (by rw [← HT.out, ← HP.out]; exact of_decide_eq_true HD1.out)).symm
      all_goals
        go_roundw
        case rel =>
          refine ⟨s + 1, by omega, by omega, by go_num, fun j h1 h2 h => ?_, HK5.out.drew⟩
          by_cases ej : j = s
          · subst ej
            rw [← HB1.out, ← HE.out, ← HT.out, ← HP.out] at h
            obtain ⟨q1, q2, q3⟩ := h
            first | exact absurd q1 (by decide) | exact absurd q2 (by decide) | exact absurd q3 (of_decide_eq_false HD1.out)
          · exact HNO.out j h1 (by omega) h
        case measure => simp [intOf]; omega
    · clear hm
      obtain rfl : s = 32 := by omega
      go_wp2
      go_ret
      exact ⟨ret_bool (ok.pend_no 1 HNO.out).symm, HK.out⟩
set_option maxHeartbeats 4000000 in
theorem rpend_w {w : World} {g : Nat} {S : PS} (m : RP w g S) (ok : S.Ok) (c : Int) :
    Calls Try.prog 18 #[.pointer (some ⟨g, 0, none⟩), .int .i64 c] w fun e w' => e = .returned (.bool (S.pend c)) ∧ Kp w w' := by
  by_cases h0 : c = 0
  · subst h0; exact rpend_0 m ok
  · by_cases h1 : c = 1
    · subst h1; exact rpend_1 m ok
    · have t0 : (c == 0) = false := by simpa using h0
      have t1 : (c == 1) = false := by simpa using h1
      have t2 : (c != 0) = true := by simpa using h0
      have t3 : (c != 1) = true := by simpa using h1
      have hp : S.pend c = false := by unfold PS.pend; rw [t0, t1]; rfl
      rw [hp]
      clear hp h0 h1 m ok
      go_enter Try.func18, Try.ntmps18
      go_wp2
      go_ret
      exact ⟨rfl, Kp.refl w⟩
end Go.Proofs.Ytamhhdhoeghafaa
