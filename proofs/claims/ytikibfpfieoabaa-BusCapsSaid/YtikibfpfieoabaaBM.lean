/-
  The plain mathematics of layer 3 (bounds): numbers of 65 bits as an upper and a lower part, shifted, added; where a mantissa leads; what is laid. No condition; nothing of a program.
  Contracts of package bounds' numbers of 65 bits (wide): sums, shifts, comparison, a range's top; each leaves what was there as it was. Numbers are within their types; the upper part is 0 or 1.
  Contracts of bounds.Within, bounds.In and bounds.Len: what they say of ranges, as true numbers. Numbers are within their types.
  The contract of bounds.Len: how many bytes a range has. Numbers are within their types.
  The plain mathematics of bounds.Of: where a mantissa leads, as the chapter says it, and what a capability's bounds are. No condition; nothing of a program.
  Contracts of bounds.Of and what it calls: the bounds of a capability whose fields are in their places are those of the plain mathematics. B below 2^14, T below 2^12, E from 0 to 52.
  The contract of bounds.Of: the bounds of a capability whose fields are in their places. B below 2^14, T below 2^12, E from 0 to 52.
  What '==' says of two ranges, and the contract of bounds.Fits. E from 0 to 52, B below 2^14, T below 2^12.
-/
import Derived.WalkKit
import Derived.Test.YtikibfpfieoabaaKp
import Derived.Laws.Externs
import Derived.IntWalk
import Derived.Deep.RegionHeld3
import Derived.Deep.DeepCutAuto
namespace Go.Proofs.Ytikibfpfieoabaa
open Go.RowKit
set_option linter.unusedVariables false
set_option linter.unusedSimpArgs false

/-- A number's bit 64, and its lowest 64 bits. -/
def wH (n : Int) : Int := n / 18446744073709551616 % 2
def wL (n : Int) : Int := n % 18446744073709551616
/-- The number of both. -/
def wN (h l : Int) : Int := h * 18446744073709551616 + l
theorem wH_lo (n : Int) : 0 ≤ wH n := by unfold wH; omega
theorem wH_hi (n : Int) : wH n < 2 := by unfold wH; omega
theorem wL_lo (n : Int) : 0 ≤ wL n := by unfold wL; omega
theorem wL_hi (n : Int) : wL n < 18446744073709551616 := by unfold wL; omega
theorem wN_of (n : Int) : wN (wH n) (wL n) = n % 36893488147419103232 := by unfold wN wH wL; omega
theorem wN_bd (h l : Int) (h0 : 0 ≤ h) (h1 : h < 2) (l0 : 0 ≤ l) (l1 : l < 18446744073709551616) : 0 ≤ wN h l ∧ wN h l < 36893488147419103232 := by unfold wN; omega
theorem wH_wN (h l : Int) (h0 : 0 ≤ h) (h1 : h < 2) (l0 : 0 ≤ l) (l1 : l < 18446744073709551616) : wH (wN h l) = h := by unfold wN wH; omega
theorem wL_wN (h l : Int) (h0 : 0 ≤ h) (h1 : h < 2) (l0 : 0 ≤ l) (l1 : l < 18446744073709551616) : wL (wN h l) = l := by unfold wN wL; omega
theorem wH_mod (n : Int) : wH (n % 36893488147419103232) = wH n := by unfold wH; omega
theorem wL_mod (n : Int) : wL (n % 36893488147419103232) = wL n := by unfold wL; omega
theorem wH_congr {a b : Int} (h : a % 36893488147419103232 = b % 36893488147419103232) : wH a = wH b := by rw [← wH_mod a, ← wH_mod b, h]
theorem wL_congr {a b : Int} (h : a % 36893488147419103232 = b % 36893488147419103232) : wL a = wL b := by rw [← wL_mod a, ← wL_mod b, h]

theorem pow_pos' (k : Nat) : (0 : Int) < 2 ^ k := Int.pow_pos (by omega)
theorem two_pow_add (a b : Nat) : (2 : Int) ^ (a + b) = 2 ^ a * 2 ^ b := Int.pow_add 2 a b
theorem pow64 : (2 : Int) ^ 64 = 18446744073709551616 := by decide
theorem pow_split (a : Nat) (h : a ≤ 64) : (2 : Int) ^ a * 2 ^ (64 - a) = 18446744073709551616 := by
  rw [← two_pow_add, show a + (64 - a) = 64 by omega, pow64]

theorem or_mod2 (a b : Int) (a0 : 0 ≤ a) (a1 : a < 18446744073709551616) (b0 : 0 ≤ b) (b1 : b < 18446744073709551616) :
    bits .or .u64 a b % 2 = max (a % 2) (b % 2) := by
  obtain ⟨n, rfl⟩ := Int.eq_ofNat_of_zero_le a0
  obtain ⟨k, rfl⟩ := Int.eq_ofNat_of_zero_le b0
  rw [bits_or_u64_nat n k (by omega) (by omega)]
  have h := Nat.or_mod_two_pow (a := n) (b := k) (n := 1)
  have e1 : n % 2 = 0 ∨ n % 2 = 1 := by omega
  have e2 : k % 2 = 0 ∨ k % 2 = 1 := by omega
  simp only [Nat.pow_one] at h
  rcases e1 with e1 | e1 <;> rcases e2 with e2 | e2 <;> rw [e1, e2] at h
  · have h2 : (n ||| k) % 2 = 0 := h
    omega
  · have h2 : (n ||| k) % 2 = 1 := h
    omega
  · have h2 : (n ||| k) % 2 = 1 := h
    omega
  · have h2 : (n ||| k) % 2 = 1 := h
    omega
theorem or_add (q l h : Int) (i : Nat) (hq : q = 2 ^ i) (hi : i < 64) (l0 : 0 ≤ l) (l1 : l < q) (h0 : 0 ≤ h) (h1 : h * q < 18446744073709551616) :
    bits .or .u64 (h * q) l = h * q + l := by
  obtain ⟨n, rfl⟩ := Int.eq_ofNat_of_zero_le l0
  obtain ⟨k, rfl⟩ := Int.eq_ofNat_of_zero_le h0
  subst hq
  have hb : n < 2 ^ i := by have h2 : ((n : Nat) : Int) < ((2 ^ i : Nat) : Int) := by simpa using l1
                            exact Int.ofNat_lt.mp h2
  have e : ((k : Int) * 2 ^ i) = ((2 ^ i * k : Nat) : Int) := by simp [Int.mul_comm]
  have hk : 2 ^ i * k < 18446744073709551616 := by rw [e] at h1; exact Int.ofNat_lt.mp h1
  have hi2 : 2 ^ i < 2 ^ 64 := Nat.pow_lt_pow_right (by omega) hi
  rw [e, bits_or_u64_nat _ _ hk (by omega), ← Nat.two_pow_add_eq_or_of_lt hb k]
  omega
theorem or_comm' (a b : Int) (a0 : 0 ≤ a) (a1 : a < 18446744073709551616) (b0 : 0 ≤ b) (b1 : b < 18446744073709551616) : bits .or .u64 a b = bits .or .u64 b a := by
  obtain ⟨n, rfl⟩ := Int.eq_ofNat_of_zero_le a0
  obtain ⟨k, rfl⟩ := Int.eq_ofNat_of_zero_le b0
  rw [bits_or_u64_nat _ _ (by omega) (by omega), bits_or_u64_nat _ _ (by omega) (by omega), Nat.or_comm]

/-- What 'up' makes. -/
theorem up_lo (l k : Int) (l0 : 0 ≤ l) (l1 : l < 18446744073709551616) (h : Int) (k0 : 0 ≤ k) (k1 : k ≤ 66) :
    IntKind.u64.wrap (l * 2 ^ min k.toNat 64) = wL (wN h l * 2 ^ k.toNat) := by
  obtain ⟨n, rfl⟩ := Int.eq_ofNat_of_zero_le k0
  simp only [Int.toNat_natCast, IntKind.wrap_u64, wL, wN]
  have c : n ≤ 64 ∨ n = 65 ∨ n = 66 := by omega
  rcases c with c | rfl | rfl
  · rw [Nat.min_eq_left c, Int.add_mul, Int.mul_assoc, Int.mul_comm 18446744073709551616, ← Int.mul_assoc, Int.add_comm, Int.add_mul_emod_self_right]
  · simp only [show min 65 64 = 64 from rfl, show (2 : Int) ^ 64 = 18446744073709551616 from by decide, show (2 : Int) ^ 65 = 36893488147419103232 from by decide]; omega
  · simp only [show min 66 64 = 64 from rfl, show (2 : Int) ^ 64 = 18446744073709551616 from by decide, show (2 : Int) ^ 66 = 73786976294838206464 from by decide]; omega
theorem up_hi (h l k : Int) (h0 : 0 ≤ h) (h1 : h < 2) (l0 : 0 ≤ l) (l1 : l < 18446744073709551616) (k0 : 0 ≤ k) (k1 : k ≤ 66) :
    (bits .or .u64 (IntKind.u64.wrap (h * 2 ^ min k.toNat 64)) (l / 2 ^ min (IntKind.u64.wrap (64 - k)).toNat 64)).tmod 2 = wH (wN h l * 2 ^ k.toNat) := by
  have hb := bits_lo_u64 .or (IntKind.u64.wrap (h * 2 ^ min k.toNat 64)) (l / 2 ^ min (IntKind.u64.wrap (64 - k)).toNat 64)
  have hw : ∀ z : Int, 0 ≤ IntKind.u64.wrap z ∧ IntKind.u64.wrap z < 18446744073709551616 := fun z => by rw [IntKind.wrap_u64]; omega
  have hd : ∀ n : Nat, 0 ≤ l / 2 ^ n ∧ l / 2 ^ n < 18446744073709551616 := fun n =>
    ⟨Int.ediv_nonneg l0 (Int.le_of_lt (pow_pos' n)), Int.lt_of_le_of_lt (Int.ediv_le_self _ l0) l1⟩
  rw [Int.tmod_eq_emod_of_nonneg hb, or_mod2 _ _ (hw _).1 (hw _).2 (hd _).1 (hd _).2]
  obtain ⟨n, rfl⟩ := Int.eq_ofNat_of_zero_le k0
  simp only [Int.toNat_natCast]
  have c : n = 0 ∨ (1 ≤ n ∧ n ≤ 64) ∨ n = 65 ∨ n = 66 := by omega
  rcases c with rfl | ⟨c1, c2⟩ | rfl | rfl
  · have e : (IntKind.u64.wrap (64 - ((0 : Nat) : Int))).toNat = 64 := by decide
    rw [e]
    simp only [show min 0 64 = 0 from rfl, Nat.min_self, pow64, Int.pow_zero, Int.mul_one, IntKind.wrap_u64, wH, wN]
    omega
  · have e : (IntKind.u64.wrap (64 - (n : Int))).toNat = 64 - n := by rw [IntKind.wrap_u64]; omega
    rw [e, Nat.min_eq_left c2, Nat.min_eq_left (show 64 - n ≤ 64 by omega)]
    have hs := pow_split n c2
    have hq := pow_pos' n
    have hr := pow_pos' (64 - n)
    have he : (2 : Int) ^ n = 2 * 2 ^ (n - 1) := by rw [show n = 1 + (n - 1) by omega, two_pow_add]; simp
    have hdv : l * 2 ^ n / 18446744073709551616 = l / 2 ^ (64 - n) := by
      rw [← hs, Int.mul_comm l, Int.mul_ediv_mul_of_pos _ _ hq]
    have hN : wN h l * 2 ^ n = h * 2 ^ n * 18446744073709551616 + l * 2 ^ n := by
      unfold wN; rw [Int.add_mul, Int.mul_assoc, Int.mul_comm 18446744073709551616, ← Int.mul_assoc]
    unfold wH
    rw [hN, Int.add_comm, Int.add_mul_ediv_right _ _ (by omega), hdv]
    have hev : (h * 2 ^ n) % 2 = 0 := by rw [he, ← Int.mul_assoc, Int.mul_comm h 2, Int.mul_assoc]; omega
    rw [IntKind.wrap_u64]
    generalize h * 2 ^ n = x at *
    generalize l / 2 ^ (64 - n) = y at *
    omega
  · have e : (IntKind.u64.wrap (64 - ((65 : Nat) : Int))).toNat = 18446744073709551615 := by decide
    rw [e]
    simp only [show min 65 64 = 64 from rfl, show min 18446744073709551615 64 = 64 from rfl, pow64, show (2 : Int) ^ 65 = 36893488147419103232 from by decide, IntKind.wrap_u64, wH, wN]
    omega
  · have e : (IntKind.u64.wrap (64 - ((66 : Nat) : Int))).toNat = 18446744073709551614 := by decide
    rw [e]
    simp only [show min 66 64 = 64 from rfl, show min 18446744073709551614 64 = 64 from rfl, pow64, show (2 : Int) ^ 66 = 73786976294838206464 from by decide, IntKind.wrap_u64, wH, wN]
    omega
/-- What 'down' makes. -/
theorem down_all (h l k : Int) (h0 : 0 ≤ h) (h1 : h < 2) (l0 : 0 ≤ l) (l1 : l < 18446744073709551616) (k0 : 0 ≤ k) (k1 : k ≤ 63) :
    h / 2 ^ k.toNat = wH (wN h l / 2 ^ k.toNat) ∧
    bits .or .u64 (l / 2 ^ k.toNat) (IntKind.u64.wrap (h * 2 ^ (64 - k).toNat)) = wL (wN h l / 2 ^ k.toNat) := by
  obtain ⟨n, rfl⟩ := Int.eq_ofNat_of_zero_le k0
  simp only [Int.toNat_natCast]
  have e : (64 - (n : Int)).toNat = 64 - n := by omega
  rw [e]
  have hs := pow_split n (by omega)
  have hq := pow_pos' n
  have hr := pow_pos' (64 - n)
  have hdb : 0 ≤ l / 2 ^ n ∧ l / 2 ^ n < 18446744073709551616 :=
    ⟨Int.ediv_nonneg l0 (Int.le_of_lt hq), Int.lt_of_le_of_lt (Int.ediv_le_self _ l0) l1⟩
  have hN : wN h l / 2 ^ n = h * 2 ^ (64 - n) + l / 2 ^ n := by
    unfold wN
    rw [← hs, show h * (2 ^ n * 2 ^ (64 - n)) = h * 2 ^ (64 - n) * 2 ^ n by rw [Int.mul_assoc, Int.mul_comm (2 ^ n)], Int.add_comm, Int.add_mul_ediv_right _ _ (by omega), Int.add_comm]
  have hlt : l / 2 ^ n < 2 ^ (64 - n) := by
    apply Int.ediv_lt_of_lt_mul hq; rw [Int.mul_comm, hs]; exact l1
  rw [hN]
  by_cases c : n = 0
  · subst c
    have e0 : ∀ z : Int, z / 2 ^ 0 = z := fun z => by simp
    simp only [show 64 - 0 = 64 from rfl, pow64, e0, IntKind.wrap_u64]
    rw [show h * 18446744073709551616 % 18446744073709551616 = 0 by omega]
    refine ⟨by unfold wH; omega, ?_⟩
    rw [or_comm' _ _ l0 l1 (by omega) (by omega)]
    obtain ⟨m, rfl⟩ := Int.eq_ofNat_of_zero_le l0
    have := bits_or_u64_nat 0 m (by omega) (by omega)
    rw [Int.natCast_zero] at this
    rw [this, Nat.zero_or]; unfold wL; omega
  · have h2 : (2 : Int) ^ (64 - n) ≤ 9223372036854775808 := by
      have : (2 : Int) ^ (64 - n) * 2 ≤ 18446744073709551616 := by
        rw [← hs, Int.mul_comm]
        apply Int.mul_le_mul_of_nonneg_right _ (Int.le_of_lt hr)
        rw [show n = 1 + (n - 1) by omega, two_pow_add]; have := pow_pos' (n - 1); omega
      omega
    have hc : h = 0 ∨ h = 1 := by omega
    have hz : h / 2 ^ n = 0 := by
      apply Int.ediv_eq_zero_of_lt h0
      rw [show n = 1 + (n - 1) by omega, two_pow_add]; have := pow_pos' (n - 1); omega
    have hm : h * 2 ^ (64 - n) + l / 2 ^ n < 18446744073709551616 ∧ 0 ≤ h * 2 ^ (64 - n) ∧ h * 2 ^ (64 - n) < 18446744073709551616 := by
      rcases hc with rfl | rfl <;> omega
    refine ⟨by rw [hz]; unfold wH; omega, ?_⟩
    rw [IntKind.wrap_u64, Int.emod_eq_of_lt hm.2.1 hm.2.2, or_comm' _ _ hdb.1 hdb.2 hm.2.1 hm.2.2, or_add (2 ^ (64 - n)) _ h (64 - n) rfl (by omega) hdb.1 hlt h0 hm.2.2]
    unfold wL; omega
end Go.Proofs.Ytikibfpfieoabaa
namespace Go.Proofs.Ytikibfpfieoabaa
open Go.ChangeShapes Go.WideShapes Go.ChangeAt Go.RowKit
set_option linter.unusedVariables false
set_option linter.unusedSimpArgs false

theorem ret_wide {a b c d : Int} (h : a = b) (h2 : c = d) : Ending.returned (.agg #[.int .u64 a, .int .u64 c]) = .returned (.agg #[.int .u64 b, .int .u64 d]) := by rw [h, h2]

def ltB (a b : Int) : Bool := decide (a < b)

end Go.Proofs.Ytikibfpfieoabaa
namespace Go.Proofs.Ytikibfpfieoabaa
open Go.ChangeShapes Go.WideShapes Go.ChangeAt Go.RowKit
set_option linter.unusedVariables false
set_option linter.unusedSimpArgs false

def topN (t : Int) (o : Bool) : Int := wN (b01 o) t
theorem topN_bd (t : Int) (o : Bool) (t0 : 0 ≤ t) (t1 : t < 18446744073709551616) : 0 ≤ topN t o ∧ topN t o < 36893488147419103232 := wN_bd _ _ (b01_lo o) (b01_hi o) t0 t1
def withinB (b t : Int) (o : Bool) (c u : Int) (p : Bool) : Bool := decide (c ≤ b) && !ltB (topN u p) (topN t o)
def inB (b t : Int) (o : Bool) (a n : Int) : Bool := decide (0 ≤ n) && decide (b ≤ a) && !ltB (topN t o) (a + n)
def lenV (b t : Int) (o : Bool) : Int := if topN t o < b then 0 else if b + 18446744073709551616 ≤ topN t o then 18446744073709551615 else topN t o - b

theorem len_m (b t : Int) (o : Bool) (b0 : 0 ≤ b) (b1 : b < 18446744073709551616) (t0 : 0 ≤ t) (t1 : t < 18446744073709551616) :
    wN 0 b = b ∧ wN (wH (wN 0 b + wN 1 0)) (wL (wN 0 b + wN 1 0)) = b + 18446744073709551616 ∧ (topN t o < b → lenV b t o = 0) ∧ (b ≤ topN t o → b + 18446744073709551616 ≤ topN t o → lenV b t o = 18446744073709551615) ∧
    (b ≤ topN t o → topN t o < b + 18446744073709551616 → lenV b t o = IntKind.u64.wrap (t - b)) := by
  refine ⟨by unfold wN; omega, by rw [wN_of]; unfold wN; omega, fun h => by simp [lenV, h], fun h1 h2 => ?_, fun h1 h2 => ?_⟩
  · unfold lenV; rw [if_neg (by omega), if_pos h2]
  · unfold lenV; rw [if_neg (by omega), if_neg (by omega), IntKind.wrap_u64]
    cases o <;> simp only [topN, wN, b01, if_true, if_false, Bool.false_eq_true] at * <;> omega
end Go.Proofs.Ytikibfpfieoabaa
namespace Go.Proofs.Ytikibfpfieoabaa
open Go.ChangeShapes Go.WideShapes Go.ChangeAt Go.RowKit
set_option linter.unusedVariables false
set_option linter.unusedSimpArgs false
/-- What Len's first statement leaves. -/
def LenMid (w : World) (b t : Int) (o : Bool) (s3 s4 : Value) (wx : World) : Prop := ∃ g h : Nat, s3 = .pointer (some ⟨g, 0, none⟩) ∧ s4 = .pointer (some ⟨h, 0, none⟩) ∧
  wx.cell? ⟨g, 0, none⟩ = some (.int .u64 0) ∧ wx.cell? ⟨g, 1, none⟩ = some (.int .u64 b) ∧ wx.cell? ⟨h, 0, none⟩ = some (.int .u64 (b01 o)) ∧ wx.cell? ⟨h, 1, none⟩ = some (.int .u64 t) ∧
  wx.cell? ⟨w.heap.size, 0, none⟩ = some (.int .u64 b) ∧ wx.cell? ⟨w.heap.size, 1, none⟩ = some (.int .u64 t) ∧ w.heap.size < g ∧ w.heap.size < h ∧ g < wx.heap.size ∧ h < wx.heap.size ∧ Kp w wx
end Go.Proofs.Ytikibfpfieoabaa
namespace Go.Proofs.Ytikibfpfieoabaa
open Go.RowKit
set_option linter.unusedVariables false
set_option linter.unusedSimpArgs false

/-- T of 14 bits. -/
def t14 (b t : Int) (g : Bool) : Int := (b / 4096 + b01 (ltB t (b % 4096)) + b01 g) % 4 * 4096 + t
/-- The corner; the middle; the upper part; the step. -/
def corV (b : Int) : Int := (b / 2048 + 7) % 8 * 2048
def midV (e a : Int) : Int := a / 2 ^ e.toNat % 16384
def uppV (e a : Int) : Int := a / 2 ^ (e + 14).toNat
def stepV (b e a x : Int) : Int := if x < corV b ∧ corV b ≤ midV e a then 1 else if corV b ≤ x ∧ midV e a < corV b then -1 else 0
/-- Where a mantissa leads. -/
def plcV (b e a x : Int) : Int := (uppV e a + stepV b e a x) * 2 ^ (e + 14).toNat + x * 2 ^ e.toNat
/-- Is a top 2^64 off? -/
def farB (h l k : Int) : Bool := decide (1 < (wN h l / 9223372036854775808 - k / 9223372036854775808) % 4)
/-- The bounds: the base, the top's lowest 64 bits, whether it is over. -/
def ofB (e b a : Int) : Int := wL (plcV b e a b)
def ofT (e b t : Int) (g : Bool) (a : Int) : Int := wL (plcV b e a (t14 b t g))
def ofH (e b t : Int) (g : Bool) (a : Int) : Int := wH (plcV b e a (t14 b t g))
def ofF (e b t : Int) (g : Bool) (a : Int) : Bool := decide (e < 51) && farB (ofH e b t g a) (ofT e b t g a) (ofB e b a)
def ofO (e b t : Int) (g : Bool) (a : Int) : Bool := if ofF e b t g a then ofH e b t g a == 0 else ofH e b t g a == 1
theorem t14_bd (b t : Int) (g : Bool) (b0 : 0 ≤ b) (t0 : 0 ≤ t) (t1 : t < 4096) : 0 ≤ t14 b t g ∧ t14 b t g < 16384 := by
  unfold t14; omega
theorem corV_bd (b : Int) : 0 ≤ corV b ∧ corV b ≤ 14336 := by unfold corV; omega
theorem midV_bd (e a : Int) : 0 ≤ midV e a ∧ midV e a < 16384 := by unfold midV; omega
theorem uppV_bd (e a : Int) (a0 : 0 ≤ a) (a1 : a < 18446744073709551616) : 0 ≤ uppV e a ∧ uppV e a < 18446744073709551616 :=
  ⟨Int.ediv_nonneg a0 (Int.le_of_lt (pow_pos' _)), Int.lt_of_le_of_lt (Int.ediv_le_self _ a0) a1⟩
theorem ofB_bd (e b a : Int) : 0 ≤ ofB e b a ∧ ofB e b a < 18446744073709551616 := ⟨wL_lo _, wL_hi _⟩
theorem ofT_bd (e b t : Int) (g : Bool) (a : Int) : 0 ≤ ofT e b t g a ∧ ofT e b t g a < 18446744073709551616 := ⟨wL_lo _, wL_hi _⟩
theorem ofH_bd (e b t : Int) (g : Bool) (a : Int) : 0 ≤ ofH e b t g a ∧ ofH e b t g a < 2 := ⟨wH_lo _, wH_hi _⟩

/-- What is put together of a part that has wrapped round. -/
theorem plc_wrap (u x e : Int) (e0 : 0 ≤ e) (e1 : e ≤ 52) :
    (wN (wH (wN 0 (IntKind.u64.wrap u) * 2 ^ (e + 14).toNat)) (wL (wN 0 (IntKind.u64.wrap u) * 2 ^ (e + 14).toNat)) + wN (wH (wN 0 x * 2 ^ e.toNat)) (wL (wN 0 x * 2 ^ e.toNat))) % 36893488147419103232 = (u * 2 ^ (e + 14).toNat + x * 2 ^ e.toNat) % 36893488147419103232 := by
  have h0 : ∀ z : Int, wN 0 z = z := fun z => by unfold wN; omega
  rw [wN_of, wN_of, h0, h0, IntKind.wrap_u64, ← Int.add_emod]
  have hp : (2 : Int) ^ (e + 14).toNat = 2 * 2 ^ (e + 13).toNat := by
    rw [show (e + 14).toNat = 1 + (e + 13).toNat by omega, two_pow_add]; rfl
  have hu : u = u % 18446744073709551616 + 18446744073709551616 * (u / 18446744073709551616) := by omega
  have : u * 2 ^ (e + 14).toNat = u % 18446744073709551616 * 2 ^ (e + 14).toNat + (u / 18446744073709551616 * 2 ^ (e + 13).toNat) * 36893488147419103232 := by
    conv => lhs; rw [hu]
    rw [Int.add_mul, hp]
    congr 1
    rw [show (36893488147419103232 : Int) = 18446744073709551616 * 2 from rfl]
    simp only [Int.mul_assoc, Int.mul_comm, Int.mul_left_comm]
  rw [this]
  generalize u % 18446744073709551616 * 2 ^ (e + 14).toNat = y
  generalize x * 2 ^ e.toNat = z
  omega
end Go.Proofs.Ytikibfpfieoabaa
namespace Go.Proofs.Ytikibfpfieoabaa
open Go.ChangeShapes Go.WideShapes Go.ChangeAt Go.RowKit
set_option linter.unusedVariables false
set_option linter.unusedSimpArgs false

theorem cor_eq (b : Int) (b0 : 0 ≤ b) (b1 : b < 16384) : IntKind.u64.wrap ((IntKind.u64.wrap (b / 2048 - 1)).tmod 8 * 2048) = corV b := by
  rw [Int.tmod_eq_emod_of_nonneg (wrap_bd _).1, IntKind.wrap_u64, IntKind.wrap_u64]; unfold corV; omega
theorem mid_eq (e a : Int) (a0 : 0 ≤ a) : (a / 2 ^ e.toNat).tmod 16384 = midV e a := by
  rw [Int.tmod_eq_emod_of_nonneg (Int.ediv_nonneg a0 (Int.le_of_lt (pow_pos' _)))]; rfl
theorem div_min (a : Int) (n : Nat) (a0 : 0 ≤ a) (a1 : a < 18446744073709551616) : a / 2 ^ min n 64 = a / 2 ^ n := by
  by_cases h : n ≤ 64
  · rw [Nat.min_eq_left h]
  · rw [Nat.min_eq_right (by omega), pow64, Int.ediv_eq_zero_of_lt a0 a1, Int.ediv_eq_zero_of_lt a0]
    have : (2 : Int) ^ n = 2 ^ 64 * 2 ^ (n - 64) := by rw [← two_pow_add]; congr 1; omega
    have h2 := pow_pos' (n - 64)
    rw [this, pow64]
    have : (18446744073709551616 : Int) * 1 ≤ 18446744073709551616 * 2 ^ (n - 64) := Int.mul_le_mul_of_nonneg_left (by omega) (by omega)
    omega
theorem upp_eq (e a : Int) (a0 : 0 ≤ a) (a1 : a < 18446744073709551616) : a / 2 ^ min (e + 14).toNat 64 = uppV e a := div_min a _ a0 a1
end Go.Proofs.Ytikibfpfieoabaa
namespace Go.Proofs.Ytikibfpfieoabaa
open Go.ChangeShapes Go.WideShapes Go.ChangeAt Go.RowKit
set_option linter.unusedVariables false
set_option linter.unusedSimpArgs false

/-- What Of's first statement leaves. -/
def OfMid (W : World) (k : Nat) (e b t : Int) (g : Bool) (a : Int) (s3 s4 : Value) (wx : World) : Prop := ∃ i j : Nat, s3 = .pointer (some ⟨i, 0, none⟩) ∧ s4 = .pointer (some ⟨j, 0, none⟩) ∧
  wx.cell? ⟨i, 0, none⟩ = some (.int .u64 (wH (plcV b e a b))) ∧ wx.cell? ⟨i, 1, none⟩ = some (.int .u64 (ofB e b a)) ∧ wx.cell? ⟨j, 0, none⟩ = some (.int .u64 (ofH e b t g a)) ∧ wx.cell? ⟨j, 1, none⟩ = some (.int .u64 (ofT e b t g a)) ∧
  wx.cell? ⟨k, 4, none⟩ = some (.int .i64 e) ∧ k + 1 < i ∧ k + 1 < j ∧ i ≠ j ∧ i < wx.heap.size ∧ j < wx.heap.size ∧ wx.frozen? ⟨j, 0, none⟩ = false ∧ Kp W wx
end Go.Proofs.Ytikibfpfieoabaa
namespace Go.Proofs.Ytikibfpfieoabaa
open Go.ChangeShapes Go.WideShapes Go.ChangeAt Go.RowKit
set_option linter.unusedVariables false
set_option linter.unusedSimpArgs false

def rangeB (b t : Int) (o : Bool) (c u : Int) (p : Bool) : Bool := decide (b = c ∧ t = u ∧ o = p)
/-- Whether another address has the same bounds. -/
def fitsV (e b t : Int) (g : Bool) (a at' : Int) : Bool := rangeB (ofB e b at') (ofT e b t g at') (ofO e b t g at') (ofB e b a) (ofT e b t g a) (ofO e b t g a)
end Go.Proofs.Ytikibfpfieoabaa
