/-
  The document's interrupt controller: bits, claims, what is enabled, what is completed. No condition.
-/
import Derived.Test.YtamhhdhoeghafaaPPend
namespace Go.Proofs.Ytamhhdhoeghafaa
open Go.ChangeShapes Go.WideShapes Go.ChangeAt Go.RowKit
set_option linter.unusedVariables false
set_option linter.unusedSimpArgs false
set_option maxHeartbeats 4000000 in
theorem rbits_p {w : World} {g : Nat} {S : PS} (m : RP w g S) :
    Calls Try.prog 25 #[.pointer (some ⟨g, 0, none⟩), .int .i64 (-1)] w fun e w' => e = .returned (.int .u64 (bw (S.pe) : Nat)) ∧ w = w' := by
  have HM := Lib.hid m
  clear m
  go_enter Try.func25, Try.ntmps25
  go_wp2
  go_loop [5, 6] (fun v i => ∃ k : Nat, k ≤ 32 ∧ i = .int .i64 ((k : Int) - 1) ∧ v = .int .u64 ((bwN (S.pe) k (32 - k) : Nat) : Int)) (fun _ i => (intOf i + 1).toNat)
  case atStart => exact ⟨32, Nat.le_refl _, rfl, rfl⟩
  case round =>
    obtain ⟨k, hk, rfl, rfl⟩ := hrel
    rcases k with _ | s
    · rw [show ((0 : Nat) : Int) - 1 = -1 from rfl, Nat.sub_zero]
      go_wp2
      go_ret
      exact ⟨rfl, rfl⟩
    · rw [show ((s + 1 : Nat) : Int) - 1 = (s : Int) by omega]
      have hc := HM.out.pe s (by omega)
      have hV := bwN_lt (S.pe) (s + 1) (32 - (s + 1))
      have hV2 : 2 ^ (32 - (s + 1)) ≤ 2 ^ 32 := Nat.pow_le_pow_right (by decide) (by omega)
      have hst : bwN (S.pe) s (32 - s) = ((S.pe) s).toNat + 2 * bwN (S.pe) (s + 1) (32 - (s + 1)) := by rw [show 32 - s = (32 - (s + 1)) + 1 by omega, bwN]
      have HST := Lib.hid hst
      clear hst
      have hV3 : bwN (S.pe) (s + 1) (32 - (s + 1)) < 4294967296 := by omega
      clear hV hV2
      generalize bwN (S.pe) (s + 1) (32 - (s + 1)) = V at *
      have f1 : (0 : Int) ≤ (s : Int) := by omega
      have f2 : (s : Int) < 32 := by omega
      obtain ⟨b, hb⟩ : ∃ b, b = (S.pe) s := ⟨_, rfl⟩
      rw [← hb] at hc
      have HB := Lib.hid hb
      clear hb
      cases b
      all_goals
        go_wp2
        go_round
        case rel => exact ⟨s, by omega, rfl, by (rw [HST.out, ← HB.out]; simp [Bool.toNat] <;> omega)⟩
        case measure => simp [intOf]
set_option maxHeartbeats 4000000 in
theorem rbits_0 {w : World} {g : Nat} {S : PS} (m : RP w g S) :
    Calls Try.prog 25 #[.pointer (some ⟨g, 0, none⟩), .int .i64 0] w fun e w' => e = .returned (.int .u64 (bw (S.en 0) : Nat)) ∧ w = w' := by
  have HM := Lib.hid m
  clear m
  go_enter Try.func25, Try.ntmps25
  go_wp2
  go_loop [5, 6] (fun v i => ∃ k : Nat, k ≤ 32 ∧ i = .int .i64 ((k : Int) - 1) ∧ v = .int .u64 ((bwN (S.en 0) k (32 - k) : Nat) : Int)) (fun _ i => (intOf i + 1).toNat)
  case atStart => exact ⟨32, Nat.le_refl _, rfl, rfl⟩
  case round =>
    obtain ⟨k, hk, rfl, rfl⟩ := hrel
    rcases k with _ | s
    · rw [show ((0 : Nat) : Int) - 1 = -1 from rfl, Nat.sub_zero]
      go_wp2
      go_ret
      exact ⟨rfl, rfl⟩
    · rw [show ((s + 1 : Nat) : Int) - 1 = (s : Int) by omega]
      have hc := HM.out.e0 s (by omega)
      have hV := bwN_lt (S.en 0) (s + 1) (32 - (s + 1))
      have hV2 : 2 ^ (32 - (s + 1)) ≤ 2 ^ 32 := Nat.pow_le_pow_right (by decide) (by omega)
      have hst : bwN (S.en 0) s (32 - s) = ((S.en 0) s).toNat + 2 * bwN (S.en 0) (s + 1) (32 - (s + 1)) := by rw [show 32 - s = (32 - (s + 1)) + 1 by omega, bwN]
      have HST := Lib.hid hst
      clear hst
      have hV3 : bwN (S.en 0) (s + 1) (32 - (s + 1)) < 4294967296 := by omega
      clear hV hV2
      generalize bwN (S.en 0) (s + 1) (32 - (s + 1)) = V at *
      have f1 : (0 : Int) ≤ (s : Int) := by omega
      have f2 : (s : Int) < 32 := by omega
      obtain ⟨b, hb⟩ : ∃ b, b = (S.en 0) s := ⟨_, rfl⟩
      rw [← hb] at hc
      have HB := Lib.hid hb
      clear hb
      cases b
      all_goals
        go_wp2
        go_round
        case rel => exact ⟨s, by omega, rfl, by (rw [HST.out, ← HB.out]; simp [Bool.toNat] <;> omega)⟩
        case measure => simp [intOf]
set_option maxHeartbeats 4000000 in
theorem rbits_1 {w : World} {g : Nat} {S : PS} (m : RP w g S) :
    Calls Try.prog 25 #[.pointer (some ⟨g, 0, none⟩), .int .i64 1] w fun e w' => e = .returned (.int .u64 (bw (S.en 1) : Nat)) ∧ w = w' := by
  have HM := Lib.hid m
  clear m
  go_enter Try.func25, Try.ntmps25
  go_wp2
  go_loop [5, 6] (fun v i => ∃ k : Nat, k ≤ 32 ∧ i = .int .i64 ((k : Int) - 1) ∧ v = .int .u64 ((bwN (S.en 1) k (32 - k) : Nat) : Int)) (fun _ i => (intOf i + 1).toNat)
  case atStart => exact ⟨32, Nat.le_refl _, rfl, rfl⟩
  case round =>
    obtain ⟨k, hk, rfl, rfl⟩ := hrel
    rcases k with _ | s
    · rw [show ((0 : Nat) : Int) - 1 = -1 from rfl, Nat.sub_zero]
      go_wp2
      go_ret
      exact ⟨rfl, rfl⟩
    · rw [show ((s + 1 : Nat) : Int) - 1 = (s : Int) by omega]
      have hc := HM.out.e1 s (by omega)
      have hV := bwN_lt (S.en 1) (s + 1) (32 - (s + 1))
      have hV2 : 2 ^ (32 - (s + 1)) ≤ 2 ^ 32 := Nat.pow_le_pow_right (by decide) (by omega)
      have hst : bwN (S.en 1) s (32 - s) = ((S.en 1) s).toNat + 2 * bwN (S.en 1) (s + 1) (32 - (s + 1)) := by rw [show 32 - s = (32 - (s + 1)) + 1 by omega, bwN]
      have HST := Lib.hid hst
      clear hst
      have hV3 : bwN (S.en 1) (s + 1) (32 - (s + 1)) < 4294967296 := by omega
      clear hV hV2
      generalize bwN (S.en 1) (s + 1) (32 - (s + 1)) = V at *
      have f1 : (0 : Int) ≤ (s : Int) := by omega
      have f2 : (s : Int) < 32 := by omega
      obtain ⟨b, hb⟩ : ∃ b, b = (S.en 1) s := ⟨_, rfl⟩
      rw [← hb] at hc
      have HB := Lib.hid hb
      clear hb
      cases b
      all_goals
        go_wp2
        go_round
        case rel => exact ⟨s, by omega, rfl, by (rw [HST.out, ← HB.out]; simp [Bool.toNat] <;> omega)⟩
        case measure => simp [intOf]
theorem fr_kp {w w1 w2 : World} {R : Nat → Prop} (h : Fr w w1 R) (k : Kp w1 w2) : Fr w w2 R := h.kp k
set_option maxHeartbeats 4000000 in
theorem rclaim_w {w : World} {g : Nat} {S : PS} (m : RP w g S) (ok : S.Ok) (c : Nat) (hc : c < 2) (ci : Int) (hci : ci = (c : Int)) :
    Calls Try.prog 26 #[.pointer (some ⟨g, 0, none⟩), .int .i64 ci] w fun e w' => e = .returned (.int .u64 (S.bst c : Nat)) ∧ RP w' g (S.claim c) ∧ Fr w w' (fun i => i = g) := by
  have hbest : Calls Try.prog 34 #[.pointer (some ⟨g, 0, none⟩), .int .i64 ci] w fun e w' => e = .returned (.int .i64 (S.bst c : Nat)) ∧ Kp w w' := by
    subst hci
    rcases (show c = 0 ∨ c = 1 by omega) with rfl | rfl
    · exact rbest_0 m ok
    · exact rbest_1 m ok
  have hlt := ok.bst_lt c
  have HBE := Lib.hid hbest
  have HM := Lib.hid m
  clear hbest m hci
  by_cases h0 : S.bst c = 0
  · have e : S.claim c = S := by unfold PS.claim; rw [if_pos h0]
    rw [e]
    rw [h0] at HBE ⊢
    clear e hlt
    go_enter Try.func26, Try.ntmps26
    go_wp2_with (go_at_call 34; (with_reducible refine HBE.out.mono ?_); rintro e' w1 ⟨rfl, k1⟩; have HK1 := Lib.hid k1; clear k1)
    go_ret
    exact ⟨rfl, HM.out.kp HK1.out, Fr.of_kp HK1.out _⟩
  · have e : S.claim c = { S with pe := upd S.pe (S.bst c) false, se := upd S.se (S.bst c) true } := by unfold PS.claim; rw [if_neg h0]; rfl
    rw [e]
    clear e
    obtain ⟨s, hs⟩ : ∃ s, S.bst c = s := ⟨_, rfl⟩
    rw [hs] at HBE hlt h0 ⊢
    clear hs
    have f1 : (0 : Int) < (s : Int) := by omega
    have f2 : (s : Int) < 32 := by omega
    have f3 : IntKind.u64.wrap (s : Int) = (s : Int) := by rw [IntKind.wrap_u64]; omega
    go_enter Try.func26, Try.ntmps26
    go_wp2_with (go_at_call 34; (with_reducible refine HBE.out.mono ?_); rintro e' w1 ⟨rfl, k1⟩; have m1 := HM.out.kp k1; have q1 := m1.pe s hlt; have q2 := m1.se s hlt; have z1 := m1.fz (s * 5 + 1); have z2 := m1.fz (s * 5 + 2); have HK1 := Lib.hid k1; have HM1 := Lib.hid m1; clear k1 m1)
    go_ret
    refine ⟨rfl, (HM1.out.setPe s hlt false).setSe s hlt true, ((Fr.of_kp HK1.out (fun i => i = g)).setCell (.inr rfl) _).setCell (.inr rfl) _⟩
theorem RP.as {w : World} {g : Nat} {S S' : PS} (m : RP w g S) (h1 : ∀ i, i < 32 → S.pe i = S'.pe i) (h2 : ∀ i, i < 32 → S.se i = S'.se i) (h3 : ∀ i, i < 32 → S.en 0 i = S'.en 0 i) (h4 : ∀ i, i < 32 → S.en 1 i = S'.en 1 i) (h5 : ∀ i, i < 32 → S.pr i = S'.pr i) (h6 : S.th 0 = S'.th 0) (h7 : S.th 1 = S'.th 1) : RP w g S' :=
  ⟨m.lt, m.fz, fun i hi => h5 i hi ▸ m.pr i hi, fun i hi => h1 i hi ▸ m.pe i hi, fun i hi => h2 i hi ▸ m.se i hi, fun i hi => h3 i hi ▸ m.e0 i hi, fun i hi => h4 i hi ▸ m.e1 i hi, h6 ▸ m.t0, h7 ▸ m.t1⟩
/-- What is enabled told for the sources below s. -/
def PS.enTo (S : PS) (c : Nat) (v : Int) (s : Nat) : PS := { S with en := fun d i => if d = c ∧ 0 < i ∧ i < s then bitI v i else S.en d i }
set_option maxHeartbeats 4000000 in
theorem renable_0 {w : World} {g : Nat} {S : PS} (m : RP w g S) (ok : S.Ok) (v : Int) (v0 : 0 ≤ v) (v1 : v < 18446744073709551616) :
    Calls Try.prog 28 #[.pointer (some ⟨g, 0, none⟩), .int .i64 0, .int .u64 v] w fun e w' => e = .returned (.tuple #[]) ∧ RP w' g (S.enab 0 v) ∧ Fr w w' (fun i => i = g) := by
  have HM := Lib.hid m
  clear m
  go_enter Try.func28, Try.ntmps28
  go_wp2
  go_loopw [6] (fun i wr => ∃ s : Nat, 1 ≤ s ∧ s ≤ 32 ∧ i = .int .i64 (s : Int) ∧ RP wr g (S.enTo 0 v s) ∧ Fr w wr (fun i => i = g)) (fun i _ => 32 - (intOf i).toNat)
  case atStart => exact ⟨1, Nat.le_refl _, by decide, rfl, HM.out.as (fun _ _ => rfl) (fun _ _ => rfl) (fun i hi => by show _ = (if 0 = 0 ∧ 0 < i ∧ i < 1 then bitI v i else S.en 0 i); rw [if_neg (by omega)]) (fun i hi => by show _ = (if 1 = 0 ∧ 0 < i ∧ i < 1 then bitI v i else S.en 1 i); rw [if_neg (by omega)]) (fun _ _ => rfl) rfl rfl, Fr.refl _ _⟩
  case round =>
    obtain ⟨s, hs0, hs, rfl, hm, hf⟩ := hrel
    have z := hm.fz (s * 5 + 3)
    have hcs := hm.e0 s
    have HM2 := Lib.hid hm
    have HF := Lib.hid hf
    clear hm hf
    by_cases hlt : s < 32
    · have cs := hcs hlt
      clear hcs
      obtain ⟨b, hb⟩ : ∃ b, bitI v s = b := ⟨_, rfl⟩
      have hb2 : ((v / 2 ^ s).tmod 2 == 1) = b := by rw [Int.tmod_eq_emod_of_nonneg (Int.ediv_nonneg v0 (Int.le_of_lt (Int.pow_pos (by decide))))]; exact hb
      have HB := Lib.hid hb
      clear hb
      have f1 : (0 : Int) ≤ (s : Int) := by omega
      have f2 : (s : Int) < 32 := by omega
      go_wp2
      go_roundw
      case rel =>
        refine ⟨s + 1, by omega, by omega, by go_num, (HM2.out.setEn 0 s (by decide) hlt b).as (fun _ _ => rfl) (fun _ _ => rfl) (fun i hi => ?_) (fun i hi => ?_) (fun _ _ => rfl) rfl rfl, HF.out.setCell (.inr rfl) _⟩
        · show (if 0 = 0 then upd ((S.enTo 0 v s).en 0) s b else (S.enTo 0 v s).en 0) i = (if 0 = 0 ∧ 0 < i ∧ i < s + 1 then bitI v i else S.en 0 i)
          show (if i = s then b else if 0 = 0 ∧ 0 < i ∧ i < s then bitI v i else S.en 0 i) = (if 0 = 0 ∧ 0 < i ∧ i < s + 1 then bitI v i else S.en 0 i)
          by_cases e : i = s
          · subst e; rw [if_pos rfl, if_pos (by omega), HB.out]
          · rw [if_neg e]
            by_cases k : 0 < i ∧ i < s
            · rw [if_pos ⟨rfl, k⟩, if_pos (by omega)]
            · rw [if_neg (by omega), if_neg (by omega)]
        · show (if 1 = 0 then upd ((S.enTo 0 v s).en 0) s b else (S.enTo 0 v s).en 1) i = (if 1 = 0 ∧ 0 < i ∧ i < s + 1 then bitI v i else S.en 1 i)
          rw [if_neg (by omega), if_neg (by omega)]
          show (if 1 = 0 ∧ 0 < i ∧ i < s then bitI v i else S.en 1 i) = _
          rw [if_neg (by omega)]
      case measure => simp [intOf]; omega
    · clear hcs
      obtain rfl : s = 32 := by omega
      have h0 := ok.e0 0
      have h1 := ok.e0 1
      go_wp2
      refine bodyPost_end (v := .tuple #[]) (by simp [results, Try.results28, go_sem]) rfl ⟨rfl, HM2.out.as (fun _ _ => rfl) (fun _ _ => rfl) (fun i hi => ?_) (fun i hi => ?_) (fun _ _ => rfl) rfl rfl, HF.out⟩
      · show (if 0 = 0 ∧ 0 < i ∧ i < 32 then bitI v i else S.en 0 i) = (if 0 = 0 then decide (0 < i) && bitI v i else S.en 0 i)
        by_cases e : 0 < i
        · by_cases k : 0 = 0
          · rw [if_pos ⟨k, e, hi⟩, if_pos k]; simp [e]
          · rw [if_neg (by omega), if_neg k]
        · obtain rfl : i = 0 := by omega
          rw [if_neg (by omega), h0]; simp
      · show (if 1 = 0 ∧ 0 < i ∧ i < 32 then bitI v i else S.en 1 i) = (if 1 = 0 then decide (0 < i) && bitI v i else S.en 1 i)
        by_cases e : 0 < i
        · by_cases k : 1 = 0
          · rw [if_pos ⟨k, e, hi⟩, if_pos k]; simp [e]
          · rw [if_neg (by omega), if_neg k]
        · obtain rfl : i = 0 := by omega
          rw [if_neg (by omega), h1]; simp
set_option maxHeartbeats 4000000 in
theorem renable_1 {w : World} {g : Nat} {S : PS} (m : RP w g S) (ok : S.Ok) (v : Int) (v0 : 0 ≤ v) (v1 : v < 18446744073709551616) :
    Calls Try.prog 28 #[.pointer (some ⟨g, 0, none⟩), .int .i64 1, .int .u64 v] w fun e w' => e = .returned (.tuple #[]) ∧ RP w' g (S.enab 1 v) ∧ Fr w w' (fun i => i = g) := by
  have HM := Lib.hid m
  clear m
  go_enter Try.func28, Try.ntmps28
  go_wp2
  go_loopw [6] (fun i wr => ∃ s : Nat, 1 ≤ s ∧ s ≤ 32 ∧ i = .int .i64 (s : Int) ∧ RP wr g (S.enTo 1 v s) ∧ Fr w wr (fun i => i = g)) (fun i _ => 32 - (intOf i).toNat)
  case atStart => exact ⟨1, Nat.le_refl _, by decide, rfl, HM.out.as (fun _ _ => rfl) (fun _ _ => rfl) (fun i hi => by show _ = (if 0 = 1 ∧ 0 < i ∧ i < 1 then bitI v i else S.en 0 i); rw [if_neg (by omega)]) (fun i hi => by show _ = (if 1 = 1 ∧ 0 < i ∧ i < 1 then bitI v i else S.en 1 i); rw [if_neg (by omega)]) (fun _ _ => rfl) rfl rfl, Fr.refl _ _⟩
  case round =>
    obtain ⟨s, hs0, hs, rfl, hm, hf⟩ := hrel
    have z := hm.fz (s * 5 + 4)
    have hcs := hm.e1 s
    have HM2 := Lib.hid hm
    have HF := Lib.hid hf
    clear hm hf
    by_cases hlt : s < 32
    · have cs := hcs hlt
      clear hcs
      obtain ⟨b, hb⟩ : ∃ b, bitI v s = b := ⟨_, rfl⟩
      have hb2 : ((v / 2 ^ s).tmod 2 == 1) = b := by rw [Int.tmod_eq_emod_of_nonneg (Int.ediv_nonneg v0 (Int.le_of_lt (Int.pow_pos (by decide))))]; exact hb
      have HB := Lib.hid hb
      clear hb
      have f1 : (0 : Int) ≤ (s : Int) := by omega
      have f2 : (s : Int) < 32 := by omega
      go_wp2
      go_roundw
      case rel =>
        refine ⟨s + 1, by omega, by omega, by go_num, (HM2.out.setEn 1 s (by decide) hlt b).as (fun _ _ => rfl) (fun _ _ => rfl) (fun i hi => ?_) (fun i hi => ?_) (fun _ _ => rfl) rfl rfl, HF.out.setCell (.inr rfl) _⟩
        · show (if 0 = 1 then upd ((S.enTo 1 v s).en 1) s b else (S.enTo 1 v s).en 0) i = (if 0 = 1 ∧ 0 < i ∧ i < s + 1 then bitI v i else S.en 0 i)
          rw [if_neg (by omega), if_neg (by omega)]
          show (if 0 = 1 ∧ 0 < i ∧ i < s then bitI v i else S.en 0 i) = _
          rw [if_neg (by omega)]
        · show (if 1 = 1 then upd ((S.enTo 1 v s).en 1) s b else (S.enTo 1 v s).en 1) i = (if 1 = 1 ∧ 0 < i ∧ i < s + 1 then bitI v i else S.en 1 i)
          show (if i = s then b else if 1 = 1 ∧ 0 < i ∧ i < s then bitI v i else S.en 1 i) = (if 1 = 1 ∧ 0 < i ∧ i < s + 1 then bitI v i else S.en 1 i)
          by_cases e : i = s
          · subst e; rw [if_pos rfl, if_pos (by omega), HB.out]
          · rw [if_neg e]
            by_cases k : 0 < i ∧ i < s
            · rw [if_pos ⟨rfl, k⟩, if_pos (by omega)]
            · rw [if_neg (by omega), if_neg (by omega)]
      case measure => simp [intOf]; omega
    · clear hcs
      obtain rfl : s = 32 := by omega
      have h0 := ok.e0 0
      have h1 := ok.e0 1
      go_wp2
      refine bodyPost_end (v := .tuple #[]) (by simp [results, Try.results28, go_sem]) rfl ⟨rfl, HM2.out.as (fun _ _ => rfl) (fun _ _ => rfl) (fun i hi => ?_) (fun i hi => ?_) (fun _ _ => rfl) rfl rfl, HF.out⟩
      · show (if 0 = 1 ∧ 0 < i ∧ i < 32 then bitI v i else S.en 0 i) = (if 0 = 1 then decide (0 < i) && bitI v i else S.en 0 i)
        by_cases e : 0 < i
        · by_cases k : 0 = 1
          · rw [if_pos ⟨k, e, hi⟩, if_pos k]; simp [e]
          · rw [if_neg (by omega), if_neg k]
        · obtain rfl : i = 0 := by omega
          rw [if_neg (by omega), h0]; simp
      · show (if 1 = 1 ∧ 0 < i ∧ i < 32 then bitI v i else S.en 1 i) = (if 1 = 1 then decide (0 < i) && bitI v i else S.en 1 i)
        by_cases e : 0 < i
        · by_cases k : 1 = 1
          · rw [if_pos ⟨k, e, hi⟩, if_pos k]; simp [e]
          · rw [if_neg (by omega), if_neg k]
        · obtain rfl : i = 0 := by omega
          rw [if_neg (by omega), h1]; simp
set_option maxHeartbeats 4000000 in
theorem rcomp_0 {w : World} {g : Nat} {S : PS} (m : RP w g S) (v : Int) (v0 : 0 ≤ v) (v1 : v < 18446744073709551616) :
    Calls Try.prog 29 #[.pointer (some ⟨g, 0, none⟩), .int .i64 0, .int .u64 v] w fun e w' => e = .returned (.tuple #[]) ∧ RP w' g (S.comp 0 v) ∧ Fr w w' (fun i => i = g) := by
  have HM := Lib.hid m
  clear m
  have hm0 := Int.emod_nonneg v (show (4294967296 : Int) ≠ 0 by decide)
  have ht : v.tmod 4294967296 = v % 4294967296 := Int.tmod_eq_emod_of_nonneg v0
  unfold PS.comp
  obtain ⟨u, hu⟩ := Int.eq_ofNat_of_zero_le hm0
  rw [hu] at ht ⊢
  have HU := Lib.hid hu
  clear hm0 hu
  by_cases h : u < 32
  · have ce := HM.out.e0 u h
    have cs := HM.out.se u h
    have z := HM.out.fz (u * 5 + 2)
    have f1 : (u : Int) < 32 := by omega
    have f2 : IntKind.i64.wrap (u : Int) = (u : Int) := IntWalk.i64_in _ (by omega)
    have d1 : decide ((u : Int) < 32) = true := by simpa using f1
    obtain ⟨b, hb⟩ : ∃ b, b = S.en 0 u := ⟨_, rfl⟩
    rw [← hb] at ce
    simp only [Int.toNat_natCast]
    rw [← hb]
    have f3 : ((u : Nat) : Int) < 32 := f1
    cases b
    · rw [if_neg (by simp)]
      clear hb
      go_enter Try.func29, Try.ntmps29
      go_wp2
      refine bodyPost_end (v := .tuple #[]) (by simp [results, Try.results29, go_sem]) rfl ⟨rfl, HM.out, Fr.refl _ _⟩
    · rw [if_pos ⟨f3, rfl⟩]
      clear hb
      have HD := Lib.hid (HM.out.setSe u h false)
      go_enter Try.func29, Try.ntmps29
      go_wp2
      refine bodyPost_end (v := .tuple #[]) (by simp [results, Try.results29, go_sem]) rfl ⟨rfl, HD.out, (Fr.refl _ (fun i => i = g)).setCell (.inr rfl) _⟩
  · have f1 : ¬ (u : Int) < 32 := by omega
    have d1 : decide ((u : Int) < 32) = false := by simpa using f1
    rw [if_neg (fun x => f1 x.1)]
    clear h
    go_enter Try.func29, Try.ntmps29
    go_wp2
    refine bodyPost_end (v := .tuple #[]) (by simp [results, Try.results29, go_sem]) rfl ⟨rfl, HM.out, Fr.refl _ _⟩
set_option maxHeartbeats 4000000 in
theorem rcomp_1 {w : World} {g : Nat} {S : PS} (m : RP w g S) (v : Int) (v0 : 0 ≤ v) (v1 : v < 18446744073709551616) :
    Calls Try.prog 29 #[.pointer (some ⟨g, 0, none⟩), .int .i64 1, .int .u64 v] w fun e w' => e = .returned (.tuple #[]) ∧ RP w' g (S.comp 1 v) ∧ Fr w w' (fun i => i = g) := by
  have HM := Lib.hid m
  clear m
  have hm0 := Int.emod_nonneg v (show (4294967296 : Int) ≠ 0 by decide)
  have ht : v.tmod 4294967296 = v % 4294967296 := Int.tmod_eq_emod_of_nonneg v0
  unfold PS.comp
  obtain ⟨u, hu⟩ := Int.eq_ofNat_of_zero_le hm0
  rw [hu] at ht ⊢
  have HU := Lib.hid hu
  clear hm0 hu
  by_cases h : u < 32
  · have ce := HM.out.e1 u h
    have cs := HM.out.se u h
    have z := HM.out.fz (u * 5 + 2)
    have f1 : (u : Int) < 32 := by omega
    have f2 : IntKind.i64.wrap (u : Int) = (u : Int) := IntWalk.i64_in _ (by omega)
    have d1 : decide ((u : Int) < 32) = true := by simpa using f1
    obtain ⟨b, hb⟩ : ∃ b, b = S.en 1 u := ⟨_, rfl⟩
    rw [← hb] at ce
    simp only [Int.toNat_natCast]
    rw [← hb]
    have f3 : ((u : Nat) : Int) < 32 := f1
    cases b
    · rw [if_neg (by simp)]
      clear hb
      go_enter Try.func29, Try.ntmps29
      go_wp2
      refine bodyPost_end (v := .tuple #[]) (by simp [results, Try.results29, go_sem]) rfl ⟨rfl, HM.out, Fr.refl _ _⟩
    · rw [if_pos ⟨f3, rfl⟩]
      clear hb
      have HD := Lib.hid (HM.out.setSe u h false)
      go_enter Try.func29, Try.ntmps29
      go_wp2
      refine bodyPost_end (v := .tuple #[]) (by simp [results, Try.results29, go_sem]) rfl ⟨rfl, HD.out, (Fr.refl _ (fun i => i = g)).setCell (.inr rfl) _⟩
  · have f1 : ¬ (u : Int) < 32 := by omega
    have d1 : decide ((u : Int) < 32) = false := by simpa using f1
    rw [if_neg (fun x => f1 x.1)]
    clear h
    go_enter Try.func29, Try.ntmps29
    go_wp2
    refine bodyPost_end (v := .tuple #[]) (by simp [results, Try.results29, go_sem]) rfl ⟨rfl, HM.out, Fr.refl _ _⟩
end Go.Proofs.Ytamhhdhoeghafaa
