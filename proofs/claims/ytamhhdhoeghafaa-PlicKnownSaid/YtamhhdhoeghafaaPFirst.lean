/-
  The program's interrupt controller: whom a context would claim. No condition.
-/
import Derived.Test.YtamhhdhoeghafaaPFind
import Derived.Deep.QuietTactic
import Derived.BigQuiet
namespace Go.Proofs.Ytamhhdhoeghafaa
open Go.ChangeShapes Go.WideShapes Go.ChangeAt Go.RowKit
set_option linter.unusedVariables false
set_option linter.unusedSimpArgs false
theorem drewN_drewN (w : World) (n k : Nat) : (w.drewN n).drewN k = w.drewN (n + k) := by simp [World.drewN, Nat.add_assoc]
theorem aload_q {w : World} {g o : Nat} {x : Int} (hc : w.cell? ⟨g, o, none⟩ = some (.int .u32 x)) (n : Nat) :
    Calls Try.prog 22 #[.pointer (some ⟨g, o, none⟩)] (w.drewN n) fun e w'' => e = .returned (.int .u32 x) ∧ ∃ m, w'' = w.drewN m :=
  Calls.quiet_of_same ((aload_w (w := w.drewN n) hc).mono fun _ _ h => ⟨h.1, h.2.symm⟩)
/-- A bit of a word of 32, as the program reads it. -/
theorem bit_read (X s : Nat) (hX : X < 4294967296) : bits .and .u32 ((X : Int) / 2 ^ s) 1 = ((X.testBit s).toNat : Int) := by
  rw [show ((2 : Int) ^ s) = ((2 ^ s : Nat) : Int) by simp, ← Int.natCast_ediv, show (1 : Int) = ((1 : Nat) : Int) from rfl, u32_and_nat _ _ (Nat.lt_of_le_of_lt (Nat.div_le_self _ _) hX) (by decide), Nat.and_one_is_mod, Nat.testBit_eq_decide_div_mod_eq]
  generalize X / 2 ^ s = y
  rcases (show y % 2 = 0 ∨ y % 2 = 1 by omega) with h | h <;> simp [h]
theorem bboth : ∀ a b : Bool, (a = false ∨ b = false) ∨ (a = true ∧ b = true) := by decide
theorem first_stay {S : PS} (ok : S.Ok) (c s b : Nat) (h : IsBest (S.can c) S.pr 1 s b) (hn : S.pe s = true → S.en c s = true → ¬ S.pr b < S.pr s) : IsBest (S.can c) S.pr 1 (s + 1) b := by
  refine ⟨?_, fun i h1 h2 h3 => ?_⟩
  · rcases h.at_ with e | ⟨a, b, c⟩
    · exact .inl e
    · exact .inr ⟨a, by omega, c⟩
  · by_cases e : i = s
    · subst e
      simp only [PS.can, Bool.and_eq_true, decide_eq_true_eq] at h3
      have := hn h3.1.1 h3.1.2
      have hb : b = 0 ∨ b < i := by rcases h.at_ with e | e <;> omega
      rcases hb with e | e
      · subst e; have := ok.r0; omega
      · omega
    · exact h.all i h1 (by omega) h3
theorem first_take {S : PS} (ok : S.Ok) (c s b : Nat) (h : IsBest (S.can c) S.pr 1 s b) (h1 : S.pe s = true) (h2 : S.en c s = true) (h3 : S.pr b < S.pr s) : IsBest (S.can c) S.pr 1 (s + 1) s := by
  have hs : 1 ≤ s := by
    rcases s with _ | s
    · rw [ok.p0] at h1; cases h1
    · omega
  have hp := ok.rl b
  refine ⟨.inr ⟨hs, by omega, by simp only [PS.can, Bool.and_eq_true, decide_eq_true_eq]; exact ⟨⟨h1, h2⟩, by omega⟩⟩, fun i a1 a2 a3 => ?_⟩
  by_cases e : i = s
  · subst e; exact .inr ⟨rfl, Nat.le_refl _⟩
  · have := h.all i a1 (by omega) a3; omega
set_option maxHeartbeats 4000000 in
theorem cfirst_d {w : World} {g : Nat} {S : PS} {Q : Nat} (m : CP w g S Q) (ok : S.Ok) (c : Nat) (hc : c < 2) (o : Nat) (ho : o = 34 + 2 * c) :
    Calls Try.prog 30 #[.pointer (some ⟨g, 0, none⟩), .pointer (some ⟨g, o, none⟩)] w fun e w' => e = .returned (.int .u32 (S.bst c : Nat)) ∧ Kp w w' ∧ ∃ n, w' = w.drewN n := by
  have c0 := m.c0
  have ce := m.en c hc
  rw [← ho] at ce
  have HM := Lib.hid m
  have HX := Lib.hid (fun s => show (bw S.pe &&& bw (S.en c)).testBit s = (decide (s < 32) && S.pe s && S.en c s) by rw [Nat.testBit_and, bw_bit, bw_bit]; cases decide (s < 32) <;> simp)
  have hl : bw S.pe &&& bw (S.en c) < 4294967296 := Nat.lt_of_le_of_lt Nat.and_le_left (bw_lt _)
  have hand := u32_and_nat (bw S.pe) (bw (S.en c)) (bw_lt _) (bw_lt _)
  clear m ho
  generalize bw S.pe &&& bw (S.en c) = X at *
  generalize bw S.pe = P at *
  generalize bw (S.en c) = E at *
  go_enter Try.func30, Try.ntmps30
  go_wp2
  go_quiet ((go_at_call 22; exact aload_q c0 _))
  go_wp2
  have hk0 : Hid (Kp w (w.drewN nq) ∧ ∃ n, w.drewN nq = w.drewN n) := Lib.hid ⟨(Kp.refl w).drewN nq, nq, rfl⟩
  obtain ⟨w1, hw1⟩ : ∃ w1, w1 = w.drewN nq := ⟨_, rfl⟩
  rw [← hw1] at hk0 ⊢
  clear hw1
  go_loopw [6, 17] (fun b i wr => ∃ s b' : Nat, s ≤ 32 ∧ i = .int .u32 (s : Int) ∧ b = .int .u32 (b' : Int) ∧ b' < 32 ∧ IsBest (S.can c) S.pr 1 s b' ∧ Kp w wr ∧ ∃ n, wr = w.drewN n) (fun _ i _ => 32 - (intOf i).toNat)
  case atStart => exact ⟨0, 0, by omega, rfl, rfl, by omega, ⟨.inl rfl, fun i h1 h2 => by omega⟩, hk0.out⟩
  case round =>
    obtain ⟨s, b, hs, rfl, rfl, hb, hbest, hk⟩ := hrel
    have HB := Lib.hid hbest
    have HK := Lib.hid hk
    clear hbest
    by_cases hlt : s < 32
    · have hm := HM.out.kp hk.1
      have cp := hm.pr s hlt
      have cb := hm.pr b hb
      have hx := HX.out s
      rw [show decide (s < 32) = true by simpa using hlt, Bool.true_and] at hx
      have hr := bit_read X s hl
      rw [hx] at hr
      have f1 : (s : Int) < 32 := by omega
      have f0 : (0 : Int) ≤ (s : Int) := by omega
      have f2 : (b : Int) < 32 := by omega
      have f3 : (0 : Int) ≤ (b : Int) := by omega
      have hstay := fun h => Lib.hid (first_stay ok c s b HB.out h)
      have htake := fun h1 h2 h3 => Lib.hid (first_take ok c s b HB.out h1 h2 h3)
      clear hm hk hx
      generalize S.pr s = p at *
      generalize S.pr b = q at *
      generalize S.pe s = t1 at *
      generalize S.en c s = t2 at *
      rcases bboth t1 t2 with h12 | ⟨rfl, rfl⟩
      · have HN := hstay (fun a b => absurd (⟨a, b⟩ : t1 = true ∧ t2 = true) (by rcases h12 with rfl | rfl <;> simp))
        have hr1 : bits .and .u32 ((X : Int) / 2 ^ s) 1 = 0 := by rw [hr]; rcases h12 with rfl | rfl <;> simp
        clear hstay htake hr h12
        go_upto_region 6 with fail
        refine wp_region_still_lit (by kernel_rfl) (by kernel_rfl) ?_
        repeat (with_reducible refine wpStill_step (fun K hK => ?_); go_simp; with_reducible refine hK _ ?_; clear hK K)
        with_reducible refine wpStill_nil ?_
        change Exit.then _ _ _ _ wr.drew
        go_wp2
        go_roundw
        case rel => exact ⟨s + 1, b, by omega, by go_num, rfl, by omega, HN.out, HK.out.1.drew, HK.out.2.elim fun n e => ⟨n + 1, by rw [e]; rfl⟩⟩
        case measure => simp [intOf]; omega
      · have hr1 : bits .and .u32 ((X : Int) / 2 ^ s) 1 = 1 := by simpa using hr
        by_cases hd : q < p
        · have HN := htake rfl rfl hd
          have d : decide (q < p) = true := by simpa using hd
          clear hstay htake hr hd
          go_upto_region 6 with fail
          refine wp_region_still_lit (by kernel_rfl) (by kernel_rfl) ?_
          repeat (with_reducible refine wpStill_step (fun K hK => ?_); go_simp; with_reducible refine hK _ ?_; clear hK K)
          with_reducible refine wpStill_nil ?_
          change Exit.then _ _ _ _ wr.drew
          go_wp2
          go_roundw
          case rel => exact ⟨s + 1, s, by omega, by go_num, rfl, by omega, HN.out, HK.out.1.drew, HK.out.2.elim fun n e => ⟨n + 1, by rw [e]; rfl⟩⟩
          case measure => simp [intOf]; omega
        · have HN := hstay (fun _ _ => hd)
          have d : decide (q < p) = false := by simpa using hd
          clear hstay htake hr hd
          go_upto_region 6 with fail
          refine wp_region_still_lit (by kernel_rfl) (by kernel_rfl) ?_
          repeat (with_reducible refine wpStill_step (fun K hK => ?_); go_simp; with_reducible refine hK _ ?_; clear hK K)
          with_reducible refine wpStill_nil ?_
          change Exit.then _ _ _ _ wr.drew
          go_wp2
          go_roundw
          case rel => exact ⟨s + 1, b, by omega, by go_num, rfl, by omega, HN.out, HK.out.1.drew, HK.out.2.elim fun n e => ⟨n + 1, by rw [e]; rfl⟩⟩
          case measure => simp [intOf]; omega
    · obtain rfl : s = 32 := by omega
      have hb := ok.bst_eq c b HB.out
      go_wp2
      go_ret
      exact ⟨by rw [hb]; rfl, HK.out⟩
theorem cfirst_w {w : World} {g : Nat} {S : PS} {Q : Nat} (m : CP w g S Q) (ok : S.Ok) (c : Nat) (hc : c < 2) (o : Nat) (ho : o = 34 + 2 * c) :
    Calls Try.prog 30 #[.pointer (some ⟨g, 0, none⟩), .pointer (some ⟨g, o, none⟩)] w fun e w' => e = .returned (.int .u32 (S.bst c : Nat)) ∧ Kp w w' :=
  (cfirst_d m ok c hc o ho).mono fun _ _ h => ⟨h.1, h.2.1⟩
theorem CP.drewN {w : World} {g : Nat} {S : PS} {Q : Nat} (m : CP w g S Q) (n : Nat) : CP (w.drewN n) g S Q := ⟨m.lt, m.fz, m.c0, m.c1, m.pr, m.en, m.th, m.hq, m.hs⟩
theorem cfirst_q {w : World} {g : Nat} {S : PS} {Q : Nat} (m : CP w g S Q) (ok : S.Ok) (c : Nat) (hc : c < 2) (o : Nat) (ho : o = 34 + 2 * c) (n : Nat) :
    Calls Try.prog 30 #[.pointer (some ⟨g, 0, none⟩), .pointer (some ⟨g, o, none⟩)] (w.drewN n) fun e w'' => e = .returned (.int .u32 (S.bst c : Nat)) ∧ ∃ m, w'' = w.drewN m :=
  (cfirst_d (m.drewN n) ok c hc o ho).mono fun _ _ h => ⟨h.1, h.2.2.elim fun k e => ⟨n + k, by rw [e]; exact drewN_drewN w n k⟩⟩
end Go.Proofs.Ytamhhdhoeghafaa
