/-
  Right capabilities in a bus's memory. No condition.
-/
import Derived.Test.YtikibfpfieoabaaJRam
import Derived.Test.YtikibfpfieoabaaCRight
namespace Go.Proofs.Ytikibfpfieoabaa
open Go.ChangeShapes Go.WideShapes Go.ChangeAt Go.RowKit
set_option linter.unusedVariables false
set_option linter.unusedSimpArgs false
set_option maxRecDepth 4000
theorem andNot7_all : (List.range 16384).all (fun n => bits .andNot .i64 (n : Int) 7 == (n : Int) - (n : Int) % 8) = true := by decide +kernel
theorem andNot7 (x : Int) (x0 : 0 ≤ x) (x1 : x < 16384) : bits .andNot .i64 x 7 = x - x % 8 := by
  obtain ⟨n, rfl⟩ := Int.eq_ofNat_of_zero_le x0
  have := List.all_eq_true.1 andNot7_all n (List.mem_range.2 (by omega))
  simpa using this
theorem right15 (tg : Bool) (pe ty mo e b t : Int) (bg : Bool) (a : Int) (p0 : -9223372036854775808 ≤ pe) (p1 : pe < 9223372036854775808) (y0 : -9223372036854775808 ≤ ty) (y1 : ty < 9223372036854775808) (o0 : -9223372036854775808 ≤ mo) (o1 : mo < 9223372036854775808) (e0 : -9223372036854775808 ≤ e) (e1 : e < 9223372036854775808) (b0 : -9223372036854775808 ≤ b) (b1 : b < 9223372036854775808) (t0 : -9223372036854775808 ≤ t) (t1 : t < 9223372036854775808) :
    ∃ P Y O E B T : Int, RightP P Y O E B T bg ∧ ∀ w : World, Calls Try.prog 6 #[.agg #[.bool tg, .int .i64 pe, .int .i64 ty, .int .i64 mo, .int .i64 e, .int .i64 b, .int .i64 t, .bool bg, .int .u64 a]] w fun r w' => r = .returned (.agg #[.bool tg, .int .i64 P, .int .i64 Y, .int .i64 O, .int .i64 E, .int .i64 B, .int .i64 T, .bool bg, .int .u64 a]) ∧ Kp w w' := by
  cases bg
  · exact ⟨pe % 65536, ty % 262144, mo % 2, 0, b % 16384, t % 4096, ⟨by omega, by omega, by omega, by omega, by omega, by omega, by omega, by omega, by omega, by omega, by omega, by omega, fun _ => rfl, fun h => (nomatch h), fun h => (nomatch h)⟩, fun w => right_false tg pe ty mo e b t a p0 p1 y0 y1 o0 o1 e0 e1 b0 b1 t0 t1 0 rfl w⟩
  · have hb := andNot7 (b % 16384) (by omega) (by omega)
    have ht := andNot7 (t % 4096) (by omega) (by omega)
    exact ⟨pe % 65536, ty % 262144, mo % 2, e % 53, bits .andNot .i64 (b % 16384) 7, bits .andNot .i64 (t % 4096) 7, ⟨by omega, by omega, by omega, by omega, by omega, by omega, by rw [hb]; omega, by rw [hb]; omega, by rw [ht]; omega, by rw [ht]; omega, by omega, by omega, fun h => (nomatch h), fun _ => by rw [hb]; omega, fun _ => by rw [ht]; omega⟩, fun w => right_true tg pe ty mo e b t a p0 p1 y0 y1 o0 o1 e0 e1 b0 b1 t0 t1 (e % 53) rfl w⟩
theorem unV_right {pe ty mo ex b t : Int} {bg : Bool} (h : RightP pe ty mo ex b t bg) (tg : Bool) (a : Int) : unV tg a (xk (bitsV pe ty mo ex b t bg)) = .agg #[.bool tg, .int .i64 pe, .int .i64 ty, .int .i64 mo, .int .i64 ex, .int .i64 b, .int .i64 t, .bool bg, .int .u64 a] := by
  have hb := bits_bd h
  obtain ⟨h1, h2, h3, h4, h5, h6, h7⟩ := f_bits h
  unfold unV
  rw [xk_xk _ hb.1 (by omega), h1, h2, h3, h4, h5, h6, h7]
/-- Two numbers laid beside each other. -/
def lay2 (B : List Int) (o : Nat) (a m : Int) : List Int := layB (layB B o a 8) (o + 8) m 8
theorem lay2_len (B : List Int) (o : Nat) (a m : Int) : (lay2 B o a m).length = B.length := by unfold lay2; rw [layB_len, layB_len]
theorem lay2_lo (B : List Int) (o : Nat) (a m : Int) (h : o + 16 ≤ B.length) (a0 : 0 ≤ a) (a1 : a < 18446744073709551616) : numB (lay2 B o a m) o 8 = a := by
  unfold lay2
  rw [numB_far _ _ _ _ (by rw [layB_len]; omega) _ _ (by omega), numB_lay _ _ _ _ (by omega), show ((256 : Int) ^ 8) = 18446744073709551616 from by decide, Int.emod_eq_of_lt a0 a1]
theorem lay2_hi (B : List Int) (o : Nat) (a m : Int) (h : o + 16 ≤ B.length) (a0 : 0 ≤ m) (a1 : m < 18446744073709551616) : numB (lay2 B o a m) (o + 8) 8 = m := by
  unfold lay2
  rw [numB_lay _ _ _ _ (by rw [layB_len]; omega), show ((256 : Int) ^ 8) = 18446744073709551616 from by decide, Int.emod_eq_of_lt a0 a1]
theorem lay2_far (B : List Int) (o : Nat) (a m : Int) (h : o + 16 ≤ B.length) (p k : Nat) (hd : p + k ≤ o ∨ o + 16 ≤ p) : numB (lay2 B o a m) p k = numB B p k := by
  unfold lay2
  rw [numB_far _ _ _ _ (by rw [layB_len]; omega) _ _ (by omega), numB_far _ _ _ _ (by omega) _ _ (by omega)]
/-- Two capabilities stored beside each other; then a byte put into the first. -/
structure CF (S1 S2 S3 : BS) (P k v : Int) (ct : Bool) (ca cm : Int) (dt : Bool) (da dm : Int) : Prop where
  k1 : S1.Ok
  k2 : S2.Ok
  k3 : S3.Ok
  o2 : S1.lcO (P + 16) = true
  l2 : S2.lcO P = true
  m2 : S2.lcO (P + 16) = true
  c2 : S2.lcV P = unV ct ca cm
  d2 : S2.lcV (P + 16) = unV dt da dm
  n1 : S2.ldV P 8 = ca
  n2 : S2.ldO P 8 = true
  n3 : S2.ldS P 8 = S2
  s2 : S2.ldO (P + k) 1 = true
  s3 : S2.stS (P + k) 1 v = S3
  l3 : S3.lcO P = true
  m3 : S3.lcO (P + 16) = true
  c3 : ∃ A M, S3.lcV P = unV false A M
  d3 : S3.lcV (P + 16) = unV dt da dm
theorem cF (q k : Nat) (hq : q < 255) (hk : k < 16) (v : Int) (v0 : 0 ≤ v) (v1 : v < 18446744073709551616) (ct : Bool) (ca cm : Int) (a0 : 0 ≤ ca) (a1 : ca < 18446744073709551616) (m0 : 0 ≤ cm) (m1 : cm < 18446744073709551616) (dt : Bool) (da dm : Int) (b0 : 0 ≤ da) (b1 : da < 18446744073709551616) (n0 : 0 ≤ dm) (n1 : dm < 18446744073709551616) (P : Int) (hP : P = 2147483648 + ((16 * q : Nat) : Int)) :
    (BS.new 4096).lcO P = true ∧ ∃ S1 S2 S3, (BS.new 4096).scS P ct ca cm = S1 ∧ S1.scS (P + 16) dt da dm = S2 ∧ CF S1 S2 S3 P k v ct ca cm dt da dm := by
  subst hP
  have e16 : 2147483648 + ((16 * q : Nat) : Int) + 16 = 2147483648 + ((16 * (q + 1) : Nat) : Int) := by omega
  have ek : 2147483648 + ((16 * q : Nat) : Int) + (k : Int) = 2147483648 + ((16 * q + k : Nat) : Int) := by omega
  rw [e16]
  obtain ⟨h1, -, h2⟩ := cap_at b4_len q (by omega)
  obtain ⟨S1, hS1⟩ : ∃ S1, (BS.new 4096).scS (2147483648 + ((16 * q : Nat) : Int)) ct ca cm = S1 := ⟨_, rfl⟩
  have hB1 : S1.B = lay2 z4 (16 * q) ca cm := by rw [← hS1, h2]; simp only [lay2, BS.new, z4]
  have hT1 : S1.T = n4.set q ct := by rw [← hS1, h2]; simp only [BS.new, n4]
  have l1 : S1.B.length = 4096 := by rw [hB1, lay2_len, z4_len]
  have ok1 : S1.Ok := by rw [← hS1]; exact b4_ok.scS _ _ _ _
  obtain ⟨i1, -, i2⟩ := cap_at l1 (q + 1) (by omega)
  obtain ⟨S2, hS2⟩ : ∃ S2, S1.scS (2147483648 + ((16 * (q + 1) : Nat) : Int)) dt da dm = S2 := ⟨_, rfl⟩
  have hB2 : S2.B = lay2 S1.B (16 * (q + 1)) da dm := by rw [← hS2, i2]; simp only [lay2]
  have hT2 : S2.T = S1.T.set (q + 1) dt := by rw [← hS2, i2]
  have l2 : S2.B.length = 4096 := by rw [hB2, lay2_len, l1]
  have ok2 : S2.Ok := by rw [← hS2]; exact ok1.scS _ _ _ _
  obtain ⟨j1, j2, -⟩ := cap_at l2 q (by omega)
  obtain ⟨k1, k2, -⟩ := cap_at l2 (q + 1) (by omega)
  have u1 : numB S2.B (16 * q) 8 = ca := by rw [hB2, lay2_far _ _ _ _ (by rw [l1]; omega) _ _ (by omega), hB1, lay2_lo _ _ _ _ (by rw [z4_len]; omega) a0 a1]
  have u2 : numB S2.B (16 * q + 8) 8 = cm := by rw [hB2, lay2_far _ _ _ _ (by rw [l1]; omega) _ _ (by omega), hB1, lay2_hi _ _ _ _ (by rw [z4_len]; omega) m0 m1]
  have u3 : numB S2.B (16 * (q + 1)) 8 = da := by rw [hB2, lay2_lo _ _ _ _ (by rw [l1]; omega) b0 b1]
  have u4 : numB S2.B (16 * (q + 1) + 8) 8 = dm := by rw [hB2, lay2_hi _ _ _ _ (by rw [l1]; omega) n0 n1]
  have lT : S1.T.length = 256 := by rw [hT1, List.length_set, n4_len]
  have t1 : S2.T.getD q false = ct := by rw [hT2, getD_set _ _ _ _ _ (by rw [lT]; omega), if_neg (by omega), hT1, getD_set _ _ _ _ _ (by rw [n4_len]; omega), if_pos rfl]
  have t2 : S2.T.getD (q + 1) false = dt := by rw [hT2, getD_set _ _ _ _ _ (by rw [lT]; omega), if_pos rfl]
  have lT2 : S2.T.length = 256 := by rw [hT2, List.length_set, lT]
  obtain ⟨r1, r2, r3, -⟩ := ram_at l2 (16 * q) 8 (by decide) (by omega)
  obtain ⟨-, w2, -, w4⟩ := ram_at l2 (16 * q + k) 1 (by decide) (by omega)
  obtain ⟨S3, hS3⟩ : ∃ S3, S2.stS (2147483648 + ((16 * q + k : Nat) : Int)) ((1 : Nat) : Int) v = S3 := ⟨_, rfl⟩
  have hB3 : S3.B = layB S2.B (16 * q + k) v 1 := by rw [← hS3, w4]
  have hT3 : S3.T = unT S2.T (16 * q + k) 1 := by rw [← hS3, w4]
  have l3 : S3.B.length = 4096 := by rw [hB3, layB_len, l2]
  obtain ⟨x1, x2, -⟩ := cap_at l3 q (by omega)
  obtain ⟨y1, y2, -⟩ := cap_at l3 (q + 1) (by omega)
  have v3 : numB S3.B (16 * (q + 1)) 8 = da := by rw [hB3, numB_far _ _ _ _ (by rw [l2]; omega) _ _ (by omega), u3]
  have v4 : numB S3.B (16 * (q + 1) + 8) 8 = dm := by rw [hB3, numB_far _ _ _ _ (by rw [l2]; omega) _ _ (by omega), u4]
  have d1 : (16 * q + k) / 16 = q := by omega
  have d2 : (16 * q + k + 1 - 1) / 16 = q := by omega
  have t3 : S3.T.getD q false = false := by rw [hT3, unT_at _ _ _ (by rw [lT2]; omega), d1, d2]; simp
  have t4 : S3.T.getD (q + 1) false = dt := by rw [hT3, unT_at _ _ _ (by rw [lT2]; omega), d1, d2, t2]; simp
  refine ⟨h1, S1, S2, S3, hS1, hS2, ?_⟩
  constructor
  · exact ok1
  · exact ok2
  · rw [← hS3]; exact ok2.stS _ _ _ v0 v1
  · rw [e16]; exact i1
  · exact j1
  · rw [e16]; exact k1
  · rw [j2, t1, u1, u2]
  · rw [e16, k2, t2, u3, u4]
  · exact r1.trans u1
  · exact r2
  · exact r3
  · rw [ek]; exact w2
  · rw [ek]; exact hS3
  · exact x1
  · rw [e16]; exact y1
  · exact ⟨_, _, by rw [x2, t3]⟩
  · rw [e16, y2, t4, v3, v4]
end Go.Proofs.Ytikibfpfieoabaa
