/-
  The program's interrupt controller: which register stands at an offset. No condition.
  The program's interrupt controller: whom a context would claim. No condition.
  Words of 32 bits, as the interrupt controller of the program turns them. No condition.
  The program's interrupt controller: what is claimed, what is completed. No condition.
-/
import Derived.Test.YtikibfpfieoabaaPObj
import Derived.Deep.QuietTactic
import Derived.BigQuiet
namespace Go.Proofs.Ytikibfpfieoabaa
open Go.ChangeShapes Go.WideShapes Go.ChangeAt Go.RowKit
set_option linter.unusedVariables false
set_option linter.unusedSimpArgs false
set_option maxRecDepth 4000
set_option maxHeartbeats 4000000 in
theorem cfind_pr (w : World) (k : Nat) (hk : k < 32) :
    Calls Try.prog 89 #[.int .i64 ((4 * k : Nat) : Int), .int .i64 4] w fun e w' => e = .returned (.tuple #[.int .i64 1, .int .i64 (k : Int)]) ∧ w = w' := by
  have f0 : decide (((4 * k : Nat) : Int) < 0) = false := by simp; omega
  have f1 : (((4 * k : Nat) : Int).tmod 4 != 0) = false := by rw [Int.tmod_eq_emod_of_nonneg (by omega)]; simp
  have f1' : (((4 * k : Nat) : Int) % 4 != 0) = false := by simp
  have f2 : decide (((4 * k : Nat) : Int) < 128) = true := by simp; omega
  have f3 : ((4 * k : Nat) : Int).tdiv 4 = (k : Int) := by rw [Int.tdiv_eq_ediv_of_nonneg (by omega)]; omega
  have f4 : ((4 * k : Nat) : Int) / 4 = (k : Int) := by omega
  generalize ((4 * k : Nat) : Int) = o at *
  go_enter Try.func89, Try.ntmps89
  go_wp2
  go_ret2
  exact ⟨rfl, rfl⟩
theorem cfind_pend (w : World) :
    Calls Try.prog 89 #[.int .i64 4096, .int .i64 4] w fun e w' => e = .returned (.tuple #[.int .i64 2, .int .i64 0]) ∧ w = w' := by
  go_enter Try.func89, Try.ntmps89
  go_wp2
  go_ret2
  exact ⟨rfl, rfl⟩
set_option maxHeartbeats 4000000 in
theorem cfind_8192 (w : World) :
    Calls Try.prog 89 #[.int .i64 8192, .int .i64 4] w fun e w' => e = .returned (.tuple #[.int .i64 3, .int .i64 0]) ∧ w = w' := by
  go_enter Try.func89, Try.ntmps89
  go_wp2
  go_loop [27] (fun i => ∃ k : Nat, k ≤ 0 ∧ i = .int .i64 (k : Int)) (fun i => 0 - (intOf i).toNat)
  case atStart => exact ⟨0, by omega, rfl⟩
  case round =>
    obtain ⟨k, hk, rfl⟩ := hrel
    rcases (show k = 0 by omega) with rfl
    · go_wp2
      go_ret2
      exact ⟨rfl, rfl⟩
set_option maxHeartbeats 4000000 in
theorem cfind_8320 (w : World) :
    Calls Try.prog 89 #[.int .i64 8320, .int .i64 4] w fun e w' => e = .returned (.tuple #[.int .i64 3, .int .i64 1]) ∧ w = w' := by
  go_enter Try.func89, Try.ntmps89
  go_wp2
  go_loop [27] (fun i => ∃ k : Nat, k ≤ 1 ∧ i = .int .i64 (k : Int)) (fun i => 1 - (intOf i).toNat)
  case atStart => exact ⟨0, by omega, rfl⟩
  case round =>
    obtain ⟨k, hk, rfl⟩ := hrel
    rcases (show k = 0 ∨ k = 1 by omega) with rfl | rfl
    · go_wp2
      go_round
      case rel => exact ⟨1, by omega, by go_num⟩
      case measure => simp [intOf]
    · go_wp2
      go_ret2
      exact ⟨rfl, rfl⟩
set_option maxHeartbeats 4000000 in
theorem cfind_2097152 (w : World) :
    Calls Try.prog 89 #[.int .i64 2097152, .int .i64 4] w fun e w' => e = .returned (.tuple #[.int .i64 4, .int .i64 0]) ∧ w = w' := by
  go_enter Try.func89, Try.ntmps89
  go_wp2
  go_loop [27] (fun i => ∃ k : Nat, k ≤ 0 ∧ i = .int .i64 (k : Int)) (fun i => 0 - (intOf i).toNat)
  case atStart => exact ⟨0, by omega, rfl⟩
  case round =>
    obtain ⟨k, hk, rfl⟩ := hrel
    rcases (show k = 0 by omega) with rfl
    · go_wp2
      go_ret2
      exact ⟨rfl, rfl⟩
set_option maxHeartbeats 4000000 in
theorem cfind_2101248 (w : World) :
    Calls Try.prog 89 #[.int .i64 2101248, .int .i64 4] w fun e w' => e = .returned (.tuple #[.int .i64 4, .int .i64 1]) ∧ w = w' := by
  go_enter Try.func89, Try.ntmps89
  go_wp2
  go_loop [27] (fun i => ∃ k : Nat, k ≤ 1 ∧ i = .int .i64 (k : Int)) (fun i => 1 - (intOf i).toNat)
  case atStart => exact ⟨0, by omega, rfl⟩
  case round =>
    obtain ⟨k, hk, rfl⟩ := hrel
    rcases (show k = 0 ∨ k = 1 by omega) with rfl | rfl
    · go_wp2
      go_round
      case rel => exact ⟨1, by omega, by go_num⟩
      case measure => simp [intOf]
    · go_wp2
      go_ret2
      exact ⟨rfl, rfl⟩
set_option maxHeartbeats 4000000 in
theorem cfind_2097156 (w : World) :
    Calls Try.prog 89 #[.int .i64 2097156, .int .i64 4] w fun e w' => e = .returned (.tuple #[.int .i64 5, .int .i64 0]) ∧ w = w' := by
  go_enter Try.func89, Try.ntmps89
  go_wp2
  go_loop [27] (fun i => ∃ k : Nat, k ≤ 0 ∧ i = .int .i64 (k : Int)) (fun i => 0 - (intOf i).toNat)
  case atStart => exact ⟨0, by omega, rfl⟩
  case round =>
    obtain ⟨k, hk, rfl⟩ := hrel
    rcases (show k = 0 by omega) with rfl
    · go_wp2
      go_ret2
      exact ⟨rfl, rfl⟩
set_option maxHeartbeats 4000000 in
theorem cfind_2101252 (w : World) :
    Calls Try.prog 89 #[.int .i64 2101252, .int .i64 4] w fun e w' => e = .returned (.tuple #[.int .i64 5, .int .i64 1]) ∧ w = w' := by
  go_enter Try.func89, Try.ntmps89
  go_wp2
  go_loop [27] (fun i => ∃ k : Nat, k ≤ 1 ∧ i = .int .i64 (k : Int)) (fun i => 1 - (intOf i).toNat)
  case atStart => exact ⟨0, by omega, rfl⟩
  case round =>
    obtain ⟨k, hk, rfl⟩ := hrel
    rcases (show k = 0 ∨ k = 1 by omega) with rfl | rfl
    · go_wp2
      go_round
      case rel => exact ⟨1, by omega, by go_num⟩
      case measure => simp [intOf]
    · go_wp2
      go_ret2
      exact ⟨rfl, rfl⟩
set_option maxHeartbeats 4000000 in
theorem cfind_no (w : World) (off size : Int) (h : rgO off size = false) :
    Calls Try.prog 89 #[.int .i64 off, .int .i64 size] w fun e w' => e = .returned (.tuple #[.int .i64 0, .int .i64 0]) ∧ w = w' := by
  by_cases h4 : size = 4
  · subst h4
    have ff : ((4 : Int) != 4) = false := rfl
    by_cases h0 : off < 0
    · have t0 : decide (off < 0) = true := by simpa using h0
      clear h
      go_enter Try.func89, Try.ntmps89
      go_wp2
      go_ret2
      exact ⟨rfl, rfl⟩
    · have t0 : decide (off < 0) = false := by simpa using h0
      by_cases h1 : off % 4 = 0
      · have t1 : (off % 4 != 0) = false := by simp [h1]
        have t1' : (off.tmod 4 != 0) = false := by rw [Int.tmod_eq_emod_of_nonneg (by omega)]; exact t1
        have hn : ¬ off < 128 ∧ ¬ off = 4096 ∧ ¬ off = 8192 ∧ ¬ off = 8320 ∧ ¬ off = 2097152 ∧ ¬ off = 2101248 ∧ ¬ off = 2097156 ∧ ¬ off = 2101252 := by
          simp only [rgO, isRg, isPr, Bool.and_eq_false_iff, Bool.or_eq_false_iff, beq_eq_false_iff_ne, decide_eq_false_iff_not] at h
          omega
        obtain ⟨n0, n1, n2, n3, n4, n5, n6, n7⟩ := hn
        have t2 : decide (off < 128) = false := by simpa using n0
        have s1 : (off == 4096) = false := by simpa using n1
        have s2 : (off == 8192) = false := by simpa using n2
        have s3 : (off == 8320) = false := by simpa using n3
        have s4 : (off == 2097152) = false := by simpa using n4
        have s5 : (off == 2101248) = false := by simpa using n5
        have s6 : (off == 2097156) = false := by simpa using n6
        have s7 : (off == 2101252) = false := by simpa using n7
        clear h h0 h1 n0 n1 n2 n3 n4 n5 n6 n7
        go_enter Try.func89, Try.ntmps89
        go_wp2
        go_loop [27] (fun i => ∃ k : Nat, k ≤ 2 ∧ i = .int .i64 (k : Int)) (fun i => 2 - (intOf i).toNat)
        case atStart => exact ⟨0, by omega, rfl⟩
        case round =>
          obtain ⟨k, hk, rfl⟩ := hrel
          rcases (show k = 0 ∨ k = 1 ∨ k = 2 by omega) with rfl | rfl | rfl
          · go_wp2
            go_round
            case rel => exact ⟨1, by omega, by go_num⟩
            case measure => simp [intOf]
          · go_wp2
            go_round
            case rel => exact ⟨2, by omega, by go_num⟩
            case measure => simp [intOf]
          · go_wp2
            go_ret2
            exact ⟨rfl, rfl⟩
      · have h2 : ¬ off.tmod 4 = 0 := by rw [Int.tmod_eq_emod_of_nonneg (by omega)]; exact h1
        have t1 : (off % 4 != 0) = true := by simpa using h1
        have t1' : (off.tmod 4 != 0) = true := by simpa using h2
        clear h h0 h1 h2
        go_enter Try.func89, Try.ntmps89
        go_wp2
        go_ret2
        exact ⟨rfl, rfl⟩
  · have t0 : (size != 4) = true := by simpa using h4
    clear h h4
    go_enter Try.func89, Try.ntmps89
    go_wp2
    go_ret2
    exact ⟨rfl, rfl⟩
end Go.Proofs.Ytikibfpfieoabaa
namespace Go.Proofs.Ytikibfpfieoabaa
open Go.ChangeShapes Go.WideShapes Go.ChangeAt Go.RowKit
set_option linter.unusedVariables false
set_option linter.unusedSimpArgs false
set_option maxRecDepth 4000
theorem drewN_drewN (w : World) (n k : Nat) : (w.drewN n).drewN k = w.drewN (n + k) := by simp [World.drewN, Nat.add_assoc]
theorem aload_q {w : World} {g o : Nat} {x : Int} (hc : w.cell? ⟨g, o, none⟩ = some (.int .u32 x)) (n : Nat) :
    Calls Try.prog 55 #[.pointer (some ⟨g, o, none⟩)] (w.drewN n) fun e w'' => e = .returned (.int .u32 x) ∧ ∃ m, w'' = w.drewN m :=
  Calls.quiet_of_same ((aload_w (w := w.drewN n) hc).mono fun _ _ h => ⟨h.1, h.2.symm⟩)
/-- A bit of a word of 32, as the program reads it. -/
theorem bit_read (X s : Nat) (hX : X < 4294967296) : bits .and .u32 ((X : Int) / 2 ^ s) 1 = ((X.testBit s).toNat : Int) := by
  rw [show ((2 : Int) ^ s) = ((2 ^ s : Nat) : Int) by simp, ← Int.natCast_ediv, show (1 : Int) = ((1 : Nat) : Int) from rfl, u32_and_nat _ _ (Nat.lt_of_le_of_lt (Nat.div_le_self _ _) hX) (by decide), Nat.and_one_is_mod, Nat.testBit_eq_decide_div_mod_eq]
  generalize X / 2 ^ s = y
  rcases (show y % 2 = 0 ∨ y % 2 = 1 by omega) with h | h <;> simp [h]
theorem bboth : ∀ a b : Bool, (a = false ∨ b = false) ∨ (a = true ∧ b = true) := by decide
theorem first_stay {S : PS} (ok : S.Ok) (c s b : Nat) (h : IsBest (S.can c) S.pr 1 s b) (hn : S.pe s = true → S.en c s = true → ¬ S.pr b < S.pr s) : IsBest (S.can c) S.pr 1 (s + 1) b := by
  refine ⟨?_, fun i h1 h2 h3 => ?_⟩
  · rcases h.at_ with e | ⟨a, b, c⟩
    · exact .inl e
    · exact .inr ⟨a, by omega, c⟩
  · by_cases e : i = s
    · subst e
      simp only [PS.can, Bool.and_eq_true, decide_eq_true_eq] at h3
      have := hn h3.1.1 h3.1.2
      have hb : b = 0 ∨ b < i := by rcases h.at_ with e | e <;> omega
      rcases hb with e | e
      · subst e; have := ok.r0; omega
      · omega
    · exact h.all i h1 (by omega) h3
theorem first_take {S : PS} (ok : S.Ok) (c s b : Nat) (h : IsBest (S.can c) S.pr 1 s b) (h1 : S.pe s = true) (h2 : S.en c s = true) (h3 : S.pr b < S.pr s) : IsBest (S.can c) S.pr 1 (s + 1) s := by
  have hs : 1 ≤ s := by
    rcases s with _ | s
    · rw [ok.p0] at h1; cases h1
    · omega
  have hp := ok.rl b
  refine ⟨.inr ⟨hs, by omega, by simp only [PS.can, Bool.and_eq_true, decide_eq_true_eq]; exact ⟨⟨h1, h2⟩, by omega⟩⟩, fun i a1 a2 a3 => ?_⟩
  by_cases e : i = s
  · subst e; exact .inr ⟨rfl, Nat.le_refl _⟩
  · have := h.all i a1 (by omega) a3; omega
set_option maxHeartbeats 4000000 in
theorem cfirst_d {w : World} {g : Nat} {S : PS} {Q : Nat} (m : CP w g S Q) (ok : S.Ok) (c : Nat) (hc : c < 2) (o : Nat) (ho : o = 34 + 2 * c) :
    Calls Try.prog 47 #[.pointer (some ⟨g, 0, none⟩), .pointer (some ⟨g, o, none⟩)] w fun e w' => e = .returned (.int .u32 (S.bst c : Nat)) ∧ Kp w w' ∧ ∃ n, w' = w.drewN n := by
  have c0 := m.c0
  have ce := m.en c hc
  rw [← ho] at ce
  have HM := Lib.hid m
  have HX := Lib.hid (fun s => show (bw S.pe &&& bw (S.en c)).testBit s = (decide (s < 32) && S.pe s && S.en c s) by rw [Nat.testBit_and, bw_bit, bw_bit]; cases decide (s < 32) <;> simp)
  have hl : bw S.pe &&& bw (S.en c) < 4294967296 := Nat.lt_of_le_of_lt Nat.and_le_left (bw_lt _)
  have hand := u32_and_nat (bw S.pe) (bw (S.en c)) (bw_lt _) (bw_lt _)
  clear m ho
  generalize bw S.pe &&& bw (S.en c) = X at *
  generalize bw S.pe = P at *
  generalize bw (S.en c) = E at *
  go_enter Try.func47, Try.ntmps47
  go_wp2
  go_quiet ((go_at_call 55; exact aload_q c0 _))
  go_wp2
  have hk0 : Hid (Kp w (w.drewN nq) ∧ ∃ n, w.drewN nq = w.drewN n) := Lib.hid ⟨(Kp.refl w).drewN nq, nq, rfl⟩
  obtain ⟨w1, hw1⟩ : ∃ w1, w1 = w.drewN nq := ⟨_, rfl⟩
  rw [← hw1] at hk0 ⊢
  clear hw1
  go_loopw [6, 17] (fun b i wr => ∃ s b' : Nat, s ≤ 32 ∧ i = .int .u32 (s : Int) ∧ b = .int .u32 (b' : Int) ∧ b' < 32 ∧ IsBest (S.can c) S.pr 1 s b' ∧ Kp w wr ∧ ∃ n, wr = w.drewN n) (fun _ i _ => 32 - (intOf i).toNat)
  case atStart => exact ⟨0, 0, by omega, rfl, rfl, by omega, ⟨.inl rfl, fun i h1 h2 => by omega⟩, hk0.out⟩
  case round =>
    obtain ⟨s, b, hs, rfl, rfl, hb, hbest, hk⟩ := hrel
    have HB := Lib.hid hbest
    have HK := Lib.hid hk
    clear hbest
    by_cases hlt : s < 32
    · have hm := HM.out.kp hk.1
      have cp := hm.pr s hlt
      have cb := hm.pr b hb
      have hx := HX.out s
      rw [show decide (s < 32) = true by simpa using hlt, Bool.true_and] at hx
      have hr := bit_read X s hl
      rw [hx] at hr
      have f1 : (s : Int) < 32 := by omega
      have f0 : (0 : Int) ≤ (s : Int) := by omega
      have f2 : (b : Int) < 32 := by omega
      have f3 : (0 : Int) ≤ (b : Int) := by omega
      have hstay := fun h => Lib.hid (first_stay ok c s b HB.out h)
      have htake := fun h1 h2 h3 => Lib.hid (first_take ok c s b HB.out h1 h2 h3)
      clear hm hk hx
      generalize S.pr s = p at *
      generalize S.pr b = q at *
      generalize S.pe s = t1 at *
      generalize S.en c s = t2 at *
      rcases bboth t1 t2 with h12 | ⟨rfl, rfl⟩
      · have HN := hstay (fun a b => absurd (⟨a, b⟩ : t1 = true ∧ t2 = true) (by rcases h12 with rfl | rfl <;> simp))
        have hr1 : bits .and .u32 ((X : Int) / 2 ^ s) 1 = 0 := by rw [hr]; rcases h12 with rfl | rfl <;> simp
        clear hstay htake hr h12
        go_upto_region 6 with fail
        refine wp_region_still_lit (by kernel_rfl) (by kernel_rfl) ?_
        repeat (with_reducible refine wpStill_step (fun K hK => ?_); go_simp; with_reducible refine hK _ ?_; clear hK K)
        with_reducible refine wpStill_nil ?_
        change Exit.then _ _ _ _ wr.drew
        go_wp2
        go_roundw
        case rel => exact ⟨s + 1, b, by omega, by go_num, rfl, by omega, HN.out, HK.out.1.drew, HK.out.2.elim fun n e => ⟨n + 1, by rw [e]; rfl⟩⟩
        case measure => simp [intOf]; omega
      · have hr1 : bits .and .u32 ((X : Int) / 2 ^ s) 1 = 1 := by simpa using hr
        by_cases hd : q < p
        · have HN := htake rfl rfl hd
          have d : decide (q < p) = true := by simpa using hd
          clear hstay htake hr hd
          go_upto_region 6 with fail
          refine wp_region_still_lit (by kernel_rfl) (by kernel_rfl) ?_
          repeat (with_reducible refine wpStill_step (fun K hK => ?_); go_simp; with_reducible refine hK _ ?_; clear hK K)
          with_reducible refine wpStill_nil ?_
          change Exit.then _ _ _ _ wr.drew
          go_wp2
          go_roundw
          case rel => exact ⟨s + 1, s, by omega, by go_num, rfl, by omega, HN.out, HK.out.1.drew, HK.out.2.elim fun n e => ⟨n + 1, by rw [e]; rfl⟩⟩
          case measure => simp [intOf]; omega
        · have HN := hstay (fun _ _ => hd)
          have d : decide (q < p) = false := by simpa using hd
          clear hstay htake hr hd
          go_upto_region 6 with fail
          refine wp_region_still_lit (by kernel_rfl) (by kernel_rfl) ?_
          repeat (with_reducible refine wpStill_step (fun K hK => ?_); go_simp; with_reducible refine hK _ ?_; clear hK K)
          with_reducible refine wpStill_nil ?_
          change Exit.then _ _ _ _ wr.drew
          go_wp2
          go_roundw
          case rel => exact ⟨s + 1, b, by omega, by go_num, rfl, by omega, HN.out, HK.out.1.drew, HK.out.2.elim fun n e => ⟨n + 1, by rw [e]; rfl⟩⟩
          case measure => simp [intOf]; omega
    · obtain rfl : s = 32 := by omega
      have hb := ok.bst_eq c b HB.out
      go_wp2
      go_ret
      exact ⟨by rw [hb]; rfl, HK.out⟩
theorem cfirst_w {w : World} {g : Nat} {S : PS} {Q : Nat} (m : CP w g S Q) (ok : S.Ok) (c : Nat) (hc : c < 2) (o : Nat) (ho : o = 34 + 2 * c) :
    Calls Try.prog 47 #[.pointer (some ⟨g, 0, none⟩), .pointer (some ⟨g, o, none⟩)] w fun e w' => e = .returned (.int .u32 (S.bst c : Nat)) ∧ Kp w w' :=
  (cfirst_d m ok c hc o ho).mono fun _ _ h => ⟨h.1, h.2.1⟩
theorem CP.drewN {w : World} {g : Nat} {S : PS} {Q : Nat} (m : CP w g S Q) (n : Nat) : CP (w.drewN n) g S Q := ⟨m.lt, m.fz, m.c0, m.c1, m.pr, m.en, m.th, m.hq, m.hs⟩
theorem cfirst_q {w : World} {g : Nat} {S : PS} {Q : Nat} (m : CP w g S Q) (ok : S.Ok) (c : Nat) (hc : c < 2) (o : Nat) (ho : o = 34 + 2 * c) (n : Nat) :
    Calls Try.prog 47 #[.pointer (some ⟨g, 0, none⟩), .pointer (some ⟨g, o, none⟩)] (w.drewN n) fun e w'' => e = .returned (.int .u32 (S.bst c : Nat)) ∧ ∃ m, w'' = w.drewN m :=
  (cfirst_d (m.drewN n) ok c hc o ho).mono fun _ _ h => ⟨h.1, h.2.2.elim fun k e => ⟨n + k, by rw [e]; exact drewN_drewN w n k⟩⟩
end Go.Proofs.Ytikibfpfieoabaa
namespace Go.Proofs.Ytikibfpfieoabaa
open Go.ChangeShapes Go.WideShapes Go.ChangeAt Go.RowKit
set_option linter.unusedVariables false
set_option linter.unusedSimpArgs false
set_option maxRecDepth 4000
theorem tb_max (i : Nat) : (4294967295 : Nat).testBit i = decide (i < 32) := by
  rw [show (4294967295 : Nat) = 2 ^ 32 - 1 from rfl, Nat.testBit_two_pow_sub_one]
theorem tb_sub (x i : Nat) (h : x < 4294967296) : (4294967295 - x).testBit i = (decide (i < 32) && !x.testBit i) := by
  rw [show 4294967295 - x = 2 ^ 32 - (x + 1) by omega, Nat.testBit_two_pow_sub_succ (by simpa using h)]
theorem pow_lt (s : Nat) (h : s < 32) : 2 ^ s < 4294967296 := by
  rw [show (4294967296 : Nat) = 2 ^ 32 from rfl]; exact Nat.pow_lt_pow_right (by decide) h
/-- The word without some bits. -/
theorem clr_eq (X Y : Nat) (hX : X < 4294967296) (hY : Y < 4294967296) : bits .and .u32 (X : Int) (bits .xor .u32 4294967295 (Y : Int)) = ((X &&& (4294967295 ^^^ Y) : Nat) : Int) := by
  rw [show (4294967295 : Int) = ((4294967295 : Nat) : Int) from rfl, u32_xor_nat _ _ (by decide) hY, u32_and_nat _ _ hX (Nat.xor_lt_two_pow (n := 32) (by decide) hY)]
theorem clr_bit (X Y i : Nat) (hi : i < 32) : (X &&& (4294967295 ^^^ Y)).testBit i = (X.testBit i && !Y.testBit i) := by
  rw [Nat.testBit_and, Nat.testBit_xor, tb_max, show decide (i < 32) = true by simpa using hi]; simp
theorem clr_lt (X Y : Nat) (hX : X < 4294967296) : X &&& (4294967295 ^^^ Y) < 4294967296 := Nat.lt_of_le_of_lt Nat.and_le_left hX
/-- One source's bit is taken out of what is pending. -/
theorem clr_bw (f : Nat → Bool) (s : Nat) (h : s < 32) : bits .and .u32 ((bw f : Nat) : Int) (bits .xor .u32 4294967295 ((2 ^ s : Nat) : Int)) = ((bw (fun i => if i = s then false else f i) : Nat) : Int) := by
  rw [clr_eq _ _ (bw_lt f) (pow_lt s h)]
  refine congrArg (fun n : Nat => (n : Int)) ?_
  symm
  refine bw_of _ (clr_lt _ _ (bw_lt f)) _ (fun i hi => ?_)
  rw [clr_bit _ _ _ hi, bw_bit, Nat.testBit_two_pow, show decide (i < 32) = true by simpa using hi]
  by_cases e : i = s
  · subst e; simp
  · have : ¬ s = i := fun x => e x.symm
    simp [e, this]
/-- One source's bit is put into what is in service. -/
theorem set_eq (X s : Nat) (hX : X < 4294967296) (h : s < 32) : bits .or .u32 (X : Int) ((2 ^ s : Nat) : Int) = ((X ||| 2 ^ s : Nat) : Int) := u32_or_nat _ _ hX (pow_lt s h)
theorem set_lt (X s : Nat) (hX : X < 4294967296) (h : s < 32) : X ||| 2 ^ s < 4294967296 := Nat.or_lt_two_pow (n := 32) hX (pow_lt s h)
theorem set_bit (X s i : Nat) : (X ||| 2 ^ s).testBit i = if i = s then true else X.testBit i := by
  rw [Nat.testBit_or, Nat.testBit_two_pow]
  by_cases e : i = s
  · subst e; simp
  · have : ¬ s = i := fun x => e x.symm
    simp [e, this]
theorem bitI_mod (v : Int) (i : Nat) (hi : i < 32) (v0 : 0 ≤ v) : (v % 4294967296).toNat.testBit i = bitI v i := by
  obtain ⟨V, rfl⟩ := Int.eq_ofNat_of_zero_le v0
  rw [bitI_nat, show ((V : Int) % 4294967296).toNat = V % 2 ^ 32 by omega, Nat.testBit_mod_two_pow, show decide (i < 32) = true by simpa using hi, Bool.true_and]
theorem one_bit (i : Nat) : Nat.testBit 1 (i + 1) = false := by rw [Nat.testBit_succ]; simp
/-- What is told of lines. -/
theorem lines_word (S : PS) (l : Nat) (Q : Nat) (hl : l < 4294967296) (hq : Q < 4294967296) (hs : ∀ i, 1 ≤ i → i < 32 → S.se i = Q.testBit i) :
    bits .andNot .u32 (bits .andNot .u32 (l : Int) 1) (Q : Int) = ((bw (S.lines (l : Int)).pe : Nat) : Int) := by
  rw [show (1 : Int) = ((1 : Nat) : Int) from rfl, u32_andNot_nat _ _ hl (by decide), u32_andNot_nat _ _ (Nat.lt_of_le_of_lt Nat.and_le_left hl) hq]
  refine congrArg (fun n : Nat => (n : Int)) ?_
  symm
  refine bw_of _ (Nat.lt_of_le_of_lt Nat.and_le_left (Nat.lt_of_le_of_lt Nat.and_le_left hl)) _ (fun i hi => ?_)
  rw [Nat.testBit_and, Nat.testBit_and, tb_sub _ _ hq, tb_sub _ _ (by decide), show decide (i < 32) = true by simpa using hi]
  show (decide (0 < i) && bitI (l : Int) i && !S.se i) = _
  rw [bitI_nat]
  rcases i with _ | i
  · simp
  · rw [hs (i + 1) (by omega) hi, one_bit]
    simp
/-- What is enabled. -/
theorem enab_word (v : Int) (v0 : 0 ≤ v) (v1 : v < 18446744073709551616) : bits .andNot .u32 (v % 4294967296) 1 = ((bw (fun i => decide (0 < i) && bitI v i) : Nat) : Int) := by
  have hb : ∀ i, i < 32 → _ := fun i hi => bitI_mod v i hi v0
  obtain ⟨x, hx, hlt⟩ : ∃ x : Nat, v % 4294967296 = (x : Int) ∧ x < 4294967296 := ⟨(v % 4294967296).toNat, by omega, by omega⟩
  rw [hx] at hb ⊢
  rw [show (1 : Int) = ((1 : Nat) : Int) from rfl, u32_andNot_nat _ _ hlt (by decide)]
  refine congrArg (fun n : Nat => (n : Int)) ?_
  symm
  refine bw_of _ (Nat.lt_of_le_of_lt Nat.and_le_left hlt) _ (fun i hi => ?_)
  rw [← hb i hi, Int.toNat_natCast, Nat.testBit_and, tb_sub _ _ (by decide), show decide (i < 32) = true by simpa using hi]
  rcases i with _ | i
  · simp
  · rw [one_bit]; simp [Bool.and_comm]
theorem thr_word (v : Int) (v0 : 0 ≤ v) : bits .and .u32 (v % 4294967296) 7 = v % 8 := by
  obtain ⟨x, hx, hlt⟩ : ∃ x : Nat, v % 4294967296 = (x : Int) ∧ x < 4294967296 := ⟨(v % 4294967296).toNat, by omega, by omega⟩
  rw [hx, show (7 : Int) = ((7 : Nat) : Int) from rfl, u32_and_nat _ _ hlt (by decide), show (7 : Nat) = 2 ^ 3 - 1 from rfl, Nat.and_two_pow_sub_one_eq_mod]
  omega
end Go.Proofs.Ytikibfpfieoabaa
namespace Go.Proofs.Ytikibfpfieoabaa
open Go.ChangeShapes Go.WideShapes Go.ChangeAt Go.RowKit
set_option linter.unusedVariables false
set_option linter.unusedSimpArgs false
set_option maxRecDepth 4000
theorem shl_word (s : Nat) (h : s < 32) : IntKind.u32.wrap (2 ^ s) = ((2 ^ s : Nat) : Int) := by
  have := pow_lt s h
  rw [IntKind.wrap_u32', show ((2 : Int) ^ s) = ((2 ^ s : Nat) : Int) by simp]
  generalize 2 ^ s = y at *
  omega
theorem max_word : (if IntKind.u32.signed = true then (-1 : Int) else IntKind.u32.max) = 4294967295 := by rfl
set_option maxHeartbeats 4000000 in
theorem cclaim_w {w : World} {g : Nat} {S : PS} {Q : Nat} (m : CP w g S Q) (ok : S.Ok) (c : Nat) (hc : c < 2) (o : Nat) (ho : o = 34 + 2 * c) :
    Calls Try.prog 92 #[.pointer (some ⟨g, 0, none⟩), .pointer (some ⟨g, o, none⟩)] w fun e w' => e = .returned (.int .u32 (S.bst c : Nat)) ∧ (∃ Q', CP w' g (S.claim c) Q') ∧ Fr w w' (fun i => i = g) := by
  have hcall := Lib.hid (fun w' (k : Kp w w') => cfirst_w (m.kp k) ok c hc o ho)
  have HM := Lib.hid m
  have hlt := ok.bst_lt c
  have hcl : S.claim c = if S.bst c = 0 then S else { S with pe := fun i => if i = S.bst c then false else S.pe i, se := fun i => if i = S.bst c then true else S.se i } := rfl
  rw [hcl]
  clear m hcl ho
  generalize S.bst c = s at *
  by_cases h : s = 0
  · subst h
    simp only [if_true]
    go_enter Try.func92, Try.ntmps92
    go_wp2_with (go_at_call 47; (with_reducible refine (hcall.out _ (Kp.refl _)).mono ?_); rintro e' w1 ⟨rfl, qk⟩; have HK := Lib.hid qk; clear qk)
    go_ret
    exact ⟨rfl, ⟨Q, HM.out.kp HK.out⟩, Fr.of_kp HK.out _⟩
  · simp only [if_neg h]
    have hb : ((s : Int) != 0) = true := by simpa using h
    have hsh := shl_word s hlt
    have hP : bits .and .u32 ((bw S.pe : Nat) : Int) (bits .xor .u32 (if IntKind.u32.signed = true then -1 else IntKind.u32.max) (2 ^ s)) = ((bw (fun i => if i = s then false else S.pe i) : Nat) : Int) := by
      rw [max_word, show ((2 : Int) ^ s) = ((2 ^ s : Nat) : Int) by simp]; exact clr_bw S.pe s hlt
    have hq := HM.out.hq
    have hQ : bits .or .u32 (Q : Int) (2 ^ s) = ((Q ||| 2 ^ s : Nat) : Int) := by rw [show ((2 : Int) ^ s) = ((2 ^ s : Nat) : Int) by simp]; exact set_eq Q s hq hlt
    have HQL := Lib.hid (set_lt Q s hq hlt)
    obtain ⟨h', hh⟩ : ∃ h' : Nat → Bool, (fun i => if i = s then true else S.se i) = h' := ⟨_, rfl⟩
    have HQS := Lib.hid (fun i (a : 1 ≤ i) (b : i < 32) => show h' i = (Q ||| 2 ^ s).testBit i by rw [← hh, set_bit, ← HM.out.hs i a b])
    rw [hh]
    clear hh
    have HH := Lib.hid h
    clear h
    generalize (fun i => if i = s then false else S.pe i) = f at *
    obtain ⟨x, hx⟩ : ∃ x : Int, x = ((bw f : Nat) : Int) := ⟨_, rfl⟩
    rw [← hx] at hP
    have HX := Lib.hid hx
    clear hx
    generalize Q ||| 2 ^ s = Q' at *
    go_enter Try.func92, Try.ntmps92
    go_upto_region 2 with (go_at_call 47; (with_reducible refine (hcall.out _ (Kp.refl _)).mono ?_); rintro e' w1 ⟨rfl, qk⟩; have HK := Lib.hid qk; clear qk)
    have HM1 := Lib.hid (HM.out.kp HK.out)
    have c0 := HM1.out.c0
    have c1 := HM1.out.c1
    have z0 := HM1.out.fz 0
    have z1 := HM1.out.fz 1
    go_wp2_with (first | (go_at_call 95; (with_reducible refine (aand_w c0 z0 hP).mono ?_); rintro e' w2 ⟨⟨v2, rfl⟩, hw2⟩; have HM2 := Lib.hid (hw2 ▸ HM1.out.setP f _ HX.out : CP w2 g { S with pe := f } Q); have HF2 := Lib.hid (hw2 ▸ (Fr.of_kp HK.out (fun i => i = g)).setCell (p := ⟨g, 0, none⟩) (.inr rfl) _ : Fr w w2 (fun i => i = g)); clear hw2) | (go_at_call 96; (with_reducible refine (aor_w HM2.out.c1 (HM2.out.fz 1) hQ).mono ?_); rintro e' w3 ⟨⟨v3, rfl⟩, hw3⟩; have HM3 := Lib.hid (hw3 ▸ HM2.out.setQ _ Q' _ rfl HQL.out HQS.out : CP w3 g { S with pe := f, se := h' } Q'); have HF3 := Lib.hid (hw3 ▸ HF2.out.setCell (p := ⟨g, 1, none⟩) (.inr rfl) _ : Fr w w3 (fun i => i = g)); clear hw3))
    go_ret
    exact ⟨rfl, ⟨Q', HM3.out⟩, HF3.out⟩
/-- One bit, if it is enabled. -/
theorem comp_word (s E : Nat) (hE : E < 4294967296) : bits .and .u32 (IntKind.u32.wrap (2 ^ s)) (E : Int) = (((if s < 32 ∧ E.testBit s = true then 2 ^ s else 0) : Nat) : Int) := by
  rw [IntKind.wrap_u32', show ((2 : Int) ^ s) % 4294967296 = ((2 ^ s % 2 ^ 32 : Nat) : Int) by rw [Int.natCast_emod]; simp, u32_and_nat _ _ (Nat.mod_lt _ (by decide)) hE]
  refine congrArg (fun n : Nat => (n : Int)) ?_
  apply Nat.eq_of_testBit_eq
  intro i
  rw [Nat.testBit_and, show (4294967296 : Nat) = 2 ^ 32 from rfl, Nat.testBit_mod_two_pow, Nat.testBit_two_pow]
  by_cases h : s < 32 ∧ E.testBit s = true
  · rw [if_pos h, Nat.testBit_two_pow]
    by_cases e : s = i
    · subst e; simp [h.1, h.2]
    · simp [e]
  · rw [if_neg h, Nat.zero_testBit]
    by_cases e : s = i
    · subst e
      by_cases a : s < 32
      · have : E.testBit s = false := by simpa using fun x => h ⟨a, x⟩
        simp [this]
      · simp [a]
    · simp [e]
/-- What completing leaves: by the number's lowest 32 bits. -/
def PS.compN (S : PS) (c u : Nat) : PS := if u < 32 ∧ S.en c u = true then { S with se := fun i => if i = u then false else S.se i } else S
set_option maxHeartbeats 4000000 in
theorem ccomp_w {w : World} {g : Nat} {S : PS} {Q : Nat} (m : CP w g S Q) (ok : S.Ok) (c : Nat) (hc : c < 2) (o : Nat) (ho : o = 34 + 2 * c) (u : Nat) (hu : u < 4294967296) :
    Calls Try.prog 94 #[.pointer (some ⟨g, 0, none⟩), .pointer (some ⟨g, o, none⟩), .int .u32 (u : Int)] w fun e w' => e = .returned (.tuple #[]) ∧ (∃ Q', CP w' g (S.compN c u) Q') ∧ Fr w w' (fun i => i = g) := by
  have ce := m.en c hc
  rw [← ho] at ce
  have c1 := m.c1
  have hE := bw_lt (S.en c)
  have hw := comp_word (min u 32) (bw (S.en c)) hE
  have hmin : (if min u 32 < 32 ∧ (bw (S.en c)).testBit (min u 32) = true then 2 ^ min u 32 else 0) = (if u < 32 ∧ (bw (S.en c)).testBit u = true then 2 ^ u else 0) := by
    by_cases h : u < 32
    · rw [show min u 32 = u by omega]
    · rw [if_neg (fun x => h (by omega)), if_neg (fun x => h x.1)]
  rw [hmin] at hw
  clear hmin
  obtain ⟨Y, hY⟩ : ∃ Y, Y = (if u < 32 ∧ (bw (S.en c)).testBit u = true then 2 ^ u else 0) := ⟨_, rfl⟩
  rw [← hY] at hw
  have hYl : Y < 4294967296 := by rw [hY]; split; exact pow_lt u (by omega); decide
  have hcl : bits .and .u32 (Q : Int) (bits .xor .u32 (if IntKind.u32.signed = true then -1 else IntKind.u32.max) (Y : Int)) = ((Q &&& (4294967295 ^^^ Y) : Nat) : Int) := by rw [max_word]; exact clr_eq Q Y m.hq hYl
  have HQL := Lib.hid (clr_lt Q Y m.hq)
  have HR : Hid (∀ w', w' = w.setCell ⟨g, 1, none⟩ (.int .u32 ((Q &&& (4294967295 ^^^ Y) : Nat) : Int)) → CP w' g (S.compN c u) (Q &&& (4294967295 ^^^ Y))) := Lib.hid (fun w' e => by
    subst e
    unfold PS.compN
    by_cases h : u < 32 ∧ S.en c u = true
    · rw [if_pos h]
      refine m.setQ _ _ _ rfl HQL.out (fun i a b => ?_)
      have : Y = 2 ^ u := by rw [hY, bw_bit, if_pos ⟨h.1, by simp [h.1, h.2]⟩]
      rw [clr_bit _ _ _ b, this, Nat.testBit_two_pow, ← m.hs i a b]
      by_cases e : i = u
      · subst e; simp
      · have : ¬ u = i := fun x => e x.symm
        simp [e, this]
    · rw [if_neg h]
      have : Y = 0 := by rw [hY, bw_bit, if_neg (fun x => h ⟨x.1, by simpa [x.1] using x.2⟩)]
      have hs := m.setQ S.se (Q &&& (4294967295 ^^^ Y)) _ rfl HQL.out (fun i a b => by rw [clr_bit _ _ _ b, this, Nat.zero_testBit, m.hs i a b]; simp)
      exact hs)
  have HM := Lib.hid m
  have HU := Lib.hid hu
  clear m ho hY hE hu
  generalize bw (S.en c) = E at *
  generalize Q &&& (4294967295 ^^^ Y) = Q' at *
  go_enter Try.func94, Try.ntmps94
  refine wp_region_still_tail 11 (by kernel_rfl) (by kernel_rfl) ?_
  simp only [List.take_succ_cons, List.take_zero, List.drop_succ_cons, List.drop_zero]
  repeat (with_reducible refine wpStill_step (fun K hK => ?_); go_simp; with_reducible refine hK _ ?_; clear hK K)
  with_reducible refine wpStill_nil ?_
  change wpList _ _ _ _ _ w.drew
  have z1 : w.drew.frozen? ⟨g, 1, none⟩ = false := HM.out.fz 1
  have c1' : w.drew.cell? ⟨g, 1, none⟩ = some (.int .u32 (Q : Int)) := c1
  generalize bits .xor .u32 (if IntKind.u32.signed = true then -1 else IntKind.u32.max) (Y : Int) = z at hcl ⊢
  clear hw
  go_wp2_with (go_at_call 95; (with_reducible refine (aand_w c1' z1 hcl).mono ?_); rintro e' w2 ⟨⟨v2, rfl⟩, hw2⟩)
  refine bodyPost_end (v := .tuple #[]) (by simp [results, Try.results94, go_sem]) rfl ⟨rfl, ⟨Q', ?_⟩, ?_⟩
  · exact (HR.out _ rfl).drew
  · exact ((Fr.refl w (fun i => i = g)).setCell (p := ⟨g, 1, none⟩) (.inr rfl) _).drew
end Go.Proofs.Ytikibfpfieoabaa
