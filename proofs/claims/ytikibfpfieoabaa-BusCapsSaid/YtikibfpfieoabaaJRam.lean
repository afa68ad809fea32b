/-
  A bus of 4096 bytes: places in its memory, parts of a number laid there. No condition.
-/
import Derived.Test.YtikibfpfieoabaaJOne
import Derived.Test.YtikibfpfieoabaaECap
import Derived.Test.YtikibfpfieoabaaCapEq
namespace Go.Proofs.Ytikibfpfieoabaa
open Go.ChangeShapes Go.WideShapes Go.ChangeAt Go.RowKit
set_option linter.unusedVariables false
set_option linter.unusedSimpArgs false
set_option maxRecDepth 4000
theorem ram_dv {S : BS} (hl : S.B.length = 4096) (o s : Nat) (hs : szB (s : Int) = true) (h : o + s ≤ 4096) : dvJ S.B.length (2147483648 + (o : Int)) s = 1 := by
  have h2 : inJ (2147483648 + (o : Int)) s 2147483648 S.B.length = true := by rw [hl]; simp [inJ]; omega
  rw [dvJ, if_pos hs, if_pos h2]
theorem ram_at {S : BS} (hl : S.B.length = 4096) (o s : Nat) (hs : szB (s : Int) = true) (h : o + s ≤ 4096) : S.ldV (2147483648 + (o : Int)) s = numB S.B o s ∧ S.ldO (2147483648 + (o : Int)) s = true ∧ S.ldS (2147483648 + (o : Int)) s = S ∧ ∀ v, S.stS (2147483648 + (o : Int)) s v = { S with B := layB S.B o v s, T := unT S.T o s } := by
  obtain ⟨h1, h2, h3, h4⟩ := bs_ld1 (ram_dv hl o s hs h)
  have e : (2147483648 + (o : Int)) - 2147483648 = o := by omega
  rw [e] at h1 h2 h4
  exact ⟨by rw [h1, ldN_nat _ _ _ hs (by omega)], by rw [h2, ldO_mk _ _ _ hs (by omega)], h3, fun v => by rw [h4 v, sB_nat _ _ _ _ hs (by omega), sT_nat _ _ _ _ hs (by omega)]⟩
theorem cap_at {S : BS} (hl : S.B.length = 4096) (q : Nat) (h : q < 256) : S.lcO (2147483648 + ((16 * q : Nat) : Int)) = true ∧ S.lcV (2147483648 + ((16 * q : Nat) : Int)) = unV (S.T.getD q false) (numB S.B (16 * q) 8) (numB S.B (16 * q + 8) 8) ∧ ∀ tg a m, S.scS (2147483648 + ((16 * q : Nat) : Int)) tg a m = { S with B := layB (layB S.B (16 * q) a 8) (16 * q + 8) m 8, T := S.T.set q tg } := by
  have e : (2147483648 + ((16 * q : Nat) : Int)) - 2147483648 = ((16 * q : Nat) : Int) := by omega
  have hc := cpO_mk S.B.length q (by omega)
  have ho : S.lcO (2147483648 + ((16 * q : Nat) : Int)) = true := by
    unfold BS.lcO
    rw [e, hc, hl]
    simp [inJ]; omega
  refine ⟨ho, ?_, fun tg a m => ?_⟩
  · unfold BS.lcV
    rw [if_pos ho, e]
    unfold cpT cpA cpM
    rw [if_pos hc, if_pos hc, if_pos hc, Int.toNat_natCast, Nat.mul_div_cancel_left _ (by decide)]
  · unfold BS.scS
    rw [if_pos ho, e]
    unfold cB cT
    rw [if_pos hc, if_pos hc, Int.toNat_natCast, Nat.mul_div_cancel_left _ (by decide)]
theorem parts_num (Z : List Int) (o : Nat) (a b : Int) (h : o + 16 ≤ Z.length) (i s : Nat) (hi : i + s ≤ 8) : numB (layB (layB Z o a 8) (o + 8) b 8) (o + i) s = a / 256 ^ i % 256 ^ s := by
  rw [numB_far _ _ _ _ (by rw [layB_len]; omega) _ _ (by omega)]
  exact numB_of (a / 256 ^ i) (o + i) s (fun j hj => by rw [layB_at _ _ _ _ (by omega), if_pos (by omega), show o + i + j - o = i + j by omega, Int.pow_add, Int.ediv_ediv_of_nonneg (Int.le_of_lt (Int.pow_pos (by decide)))])
def z4 : List Int := List.replicate 4096 0
theorem z4_len : z4.length = 4096 := List.length_replicate
def n4 : List Bool := List.replicate 256 false
theorem n4_no (q : Nat) : n4.getD q false = false := by
  rw [n4, List.getD_eq_getElem?_getD, List.getElem?_replicate]
  split <;> rfl
theorem n4_len : n4.length = 256 := List.length_replicate
/-- A bus whose memory holds two numbers of eight bytes. -/
def pS (q : Nat) (a b : Int) : BS := { BS.new 4096 with B := layB (layB z4 (16 * q) a 8) (16 * q + 8) b 8, T := unT (unT n4 (16 * q) 8) (16 * q + 8) 8 }
theorem pS_B (q : Nat) (a b : Int) : (pS q a b).B = layB (layB z4 (16 * q) a 8) (16 * q + 8) b 8 := by simp only [pS]
theorem pS_T (q : Nat) (a b : Int) : (pS q a b).T = unT (unT n4 (16 * q) 8) (16 * q + 8) 8 := by simp only [pS]
theorem pS_len (q : Nat) (a b : Int) : (pS q a b).B.length = 4096 := by show (layB (layB z4 _ _ _) _ _ _).length = 4096; rw [layB_len, layB_len, z4_len]
structure PF (S : BS) (P a b : Int) : Prop where
  ok : S.Ok
  ld : ∀ i s : Nat, szB (s : Int) = true → i + s ≤ 8 → S.ldV (P + i) s = a / 256 ^ i % 256 ^ s ∧ S.ldO (P + i) s = true ∧ S.ldS (P + i) s = S
  co : S.lcO P = true
  cv : S.lcV P = unV false a b
theorem pn_T (q : Nat) (hq : q < 256) : (unT (unT n4 (16 * q) 8) (16 * q + 8) 8).getD q false = false := by
  rw [unT_at _ _ _ (by rw [unT_len, n4_len]; omega), unT_at _ _ _ (by rw [n4_len]; omega), n4_no, Bool.false_and, Bool.false_and]
theorem pF (q : Nat) (hq : q < 256) (a b : Int) (a0 : 0 ≤ a) (a1 : a < 18446744073709551616) (b0 : 0 ≤ b) (b1 : b < 18446744073709551616) :
    (BS.new 4096).ldO (2147483648 + ((16 * q : Nat) : Int)) 8 = true ∧ ((BS.new 4096).stS (2147483648 + ((16 * q : Nat) : Int)) 8 a).ldO (2147483648 + ((16 * q + 8 : Nat) : Int)) 8 = true ∧ PF (((BS.new 4096).stS (2147483648 + ((16 * q : Nat) : Int)) 8 a).stS (2147483648 + ((16 * q + 8 : Nat) : Int)) 8 b) (2147483648 + ((16 * q : Nat) : Int)) a b := by
  obtain ⟨-, h2, -, h4⟩ := ram_at b4_len (16 * q) 8 (by decide) (by omega)
  have l1 : ((BS.new 4096).stS (2147483648 + ((16 * q : Nat) : Int)) ((8 : Nat) : Int) a).B.length = 4096 := by rw [h4]; exact (layB_len z4 _ _ _).trans z4_len
  obtain ⟨-, k2, -, k4⟩ := ram_at l1 (16 * q + 8) 8 (by decide) (by omega)
  have e : ((BS.new 4096).stS (2147483648 + ((16 * q : Nat) : Int)) 8 a).stS (2147483648 + ((16 * q + 8 : Nat) : Int)) 8 b = pS q a b := by
    have k := k4 b
    rw [h4] at k
    exact (congrArg (fun x : BS => x.stS (2147483648 + ((16 * q + 8 : Nat) : Int)) 8 b) (h4 a)).trans k
  refine ⟨h2, k2, ?_⟩
  rw [e]
  have hl := pS_len q a b
  refine ⟨?_, fun i s hs hi => ?_, (cap_at hl q hq).1, ?_⟩
  · rw [← e]; exact (b4_ok.stS _ _ _ a0 a1).stS _ _ _ b0 b1
  · obtain ⟨c1, c2, c3, -⟩ := ram_at hl (16 * q + i) s hs (by omega)
    rw [show 2147483648 + ((16 * q + i : Nat) : Int) = 2147483648 + ((16 * q : Nat) : Int) + (i : Int) by omega] at c1 c2 c3
    have c4 : numB (layB (layB z4 (16 * q) a 8) (16 * q + 8) b 8) (16 * q + i) s = a / 256 ^ i % 256 ^ s := parts_num z4 (16 * q) a b (by rw [z4_len]; omega) i s hi
    rw [pS_B] at c1
    exact ⟨c1.trans c4, c2, c3⟩
  · rw [(cap_at hl q hq).2.1]
    have n1 : numB (layB (layB z4 (16 * q) a 8) (16 * q + 8) b 8) (16 * q) 8 = a := by
      have h := parts_num z4 (16 * q) a b (by rw [z4_len]; omega) 0 8 (by omega)
      rw [Nat.add_zero, Int.pow_zero, Int.ediv_one, show ((256 : Int) ^ 8) = 18446744073709551616 from by decide, Int.emod_eq_of_lt a0 a1] at h
      exact h
    have n2 : numB (layB (layB z4 (16 * q) a 8) (16 * q + 8) b 8) (16 * q + 8) 8 = b := by
      have h := numB_lay (layB z4 (16 * q) a 8) (16 * q + 8) b 8 (by rw [layB_len, z4_len]; omega)
      rw [show ((256 : Int) ^ 8) = 18446744073709551616 from by decide, Int.emod_eq_of_lt b0 b1] at h
      exact h
    have n3 := pn_T q hq
    rw [pS_B, pS_T, n1, n2, n3]
theorem or_gen (v x : Int) (k n : Nat) (hn : k + n ≤ 64) (v0 : 0 ≤ v) (v1 : v < 2 ^ k) (x0 : 0 ≤ x) (x1 : x < 2 ^ n) : bits .or .u64 v (x * 2 ^ k) = v + x * 2 ^ k := by
  obtain ⟨V, rfl⟩ := Int.eq_ofNat_of_zero_le v0
  obtain ⟨c, rfl⟩ := Int.eq_ofNat_of_zero_le x0
  have e : ((2 : Int) ^ k) = ((2 ^ k : Nat) : Int) := by simp
  have e2 : ((2 : Int) ^ n) = ((2 ^ n : Nat) : Int) := by simp
  rw [e] at v1 ⊢
  rw [e2] at x1
  have hV : V < 2 ^ k := by omega
  have hc : c < 2 ^ n := by omega
  have hp : 2 ^ n * 2 ^ k ≤ 2 ^ 64 := by rw [← Nat.pow_add]; exact Nat.pow_le_pow_right (by decide) (by omega)
  have hm : c * 2 ^ k + 2 ^ k ≤ 2 ^ n * 2 ^ k := by rw [← Nat.succ_mul]; exact Nat.mul_le_mul_right _ hc
  have h := Nat.two_pow_add_eq_or_of_lt hV c
  rw [show ((c : Int) * ((2 ^ k : Nat) : Int)) = ((c * 2 ^ k : Nat) : Int) by simp]
  rw [bits_or_u64_nat _ _ (by omega) (by omega), Nat.or_comm, Nat.mul_comm c, ← h]
  simp; omega
end Go.Proofs.Ytikibfpfieoabaa
