/-
  The time: its state, what its calls answer and leave. No condition.
-/
import Derived.Test.YtikibfpfieoabaaKp
import Derived.Laws.BitsAllLaws
import Derived.Laws.Bits64b
namespace Go.Proofs.Ytikibfpfieoabaa
set_option linter.unusedVariables false
set_option linter.unusedSimpArgs false
/-- The time, the alarm, the bell. -/
structure TS where
  now : Int
  al : Int
  be : Bool
structure TS.Ok (S : TS) : Prop where
  n0 : 0 ≤ S.now
  n1 : S.now < 18446744073709551616
  a0 : 0 ≤ S.al
  a1 : S.al < 18446744073709551616
def TS.new : TS := ⟨0, 18446744073709551615, false⟩
theorem TS.new_ok : TS.new.Ok := ⟨by decide, by decide, by decide, by decide⟩
def TS.tick (S : TS) (n : Int) : TS := if 0 < n then { S with now := (S.now + n) % 18446744073709551616 } else S
def TS.timer (S : TS) : Bool := decide (S.al ≤ S.now)
/-- The bell as a number. -/
def TS.bell (S : TS) : Int := if S.be = true then 1 else 0
/-- Is there such a register? -/
def rgT (off size : Int) : Bool := (size == 8 && (off == 16384 || off == 49144)) || (size == 4 && (off == 0 || off == 16384 || off == 16388 || off == 49144 || off == 49148))
def TS.val (S : TS) (off size : Int) : Int :=
  if off = 0 then S.bell else if off = 16384 then (if size = 8 then S.al else S.al % 4294967296) else if off = 16388 then S.al / 4294967296
  else if off = 49144 then (if size = 8 then S.now else S.now % 4294967296) else S.now / 4294967296
def TS.ldV (S : TS) (off size : Int) : Int := if rgT off size = true then S.val off size else 0
/-- A number of which a half, or all, is another one. -/
def laidT (old v : Int) (up : Bool) (size : Int) : Int := if size = 8 then v else if up = true then old % 4294967296 + v % 4294967296 * 4294967296 else old / 4294967296 * 4294967296 + v % 4294967296
def TS.put (S : TS) (off size v : Int) : TS :=
  if off = 0 then { S with be := v % 2 == 1 } else if off = 16384 ∨ off = 16388 then { S with al := laidT S.al v (off == 16388) size } else { S with now := laidT S.now v (off == 49148) size }
def TS.stS (S : TS) (off size v : Int) : TS := if rgT off size = true then S.put off size v else S
theorem TS.Ok.tick {S : TS} (h : S.Ok) (n : Int) : (S.tick n).Ok := by
  unfold TS.tick
  split
  · exact ⟨Int.emod_nonneg _ (by decide), Int.emod_lt_of_pos _ (by decide), h.a0, h.a1⟩
  · exact h
theorem laidT_bd {old v : Int} (o0 : 0 ≤ old) (o1 : old < 18446744073709551616) (v0 : 0 ≤ v) (v1 : v < 18446744073709551616) (up : Bool) (size : Int) : 0 ≤ laidT old v up size ∧ laidT old v up size < 18446744073709551616 := by
  unfold laidT
  split
  · exact ⟨v0, v1⟩
  · split <;> omega
theorem TS.Ok.stS {S : TS} (h : S.Ok) (off size v : Int) (v0 : 0 ≤ v) (v1 : v < 18446744073709551616) : (S.stS off size v).Ok := by
  unfold TS.stS TS.put
  split
  · split
    · exact ⟨h.n0, h.n1, h.a0, h.a1⟩
    · split
      · have := laidT_bd h.a0 h.a1 v0 v1 (off == 16388) size
        exact ⟨h.n0, h.n1, this.1, this.2⟩
      · have := laidT_bd h.n0 h.n1 v0 v1 (off == 49148) size
        exact ⟨this.1, this.2, h.a0, h.a1⟩
  · exact h
theorem TS.bell_bd (S : TS) : 0 ≤ S.bell ∧ S.bell < 2 := by unfold TS.bell; split <;> decide
theorem TS.Ok.ldV_bd {S : TS} (h : S.Ok) (off size : Int) : 0 ≤ S.ldV off size ∧ S.ldV off size < 18446744073709551616 := by
  have := h.n0; have := h.n1; have := h.a0; have := h.a1; have := S.bell_bd
  unfold TS.ldV TS.val
  repeat' split
  all_goals omega
/-- Which register it is, or that it is none. -/
theorem rgT_ways (off size : Int) : (off = 0 ∧ size = 4) ∨ (off = 16384 ∧ size = 8) ∨ (off = 16384 ∧ size = 4) ∨ (off = 16388 ∧ size = 4) ∨ (off = 49144 ∧ size = 8) ∨ (off = 49144 ∧ size = 4) ∨ (off = 49148 ∧ size = 4) ∨ rgT off size = false := by
  cases h : rgT off size
  · simp
  · simp only [rgT, Bool.or_eq_true, Bool.and_eq_true, beq_iff_eq] at h
    omega
/-- Why it is none. -/
theorem rgT_no {off size : Int} (h : rgT off size = false) : ((off == 0) = false ∧ (off == 16384) = false ∧ (off == 16388) = false ∧ (off == 49144) = false ∧ (off == 49148) = false) ∨ (off = 0 ∧ (size == 4) = false) ∨ (off = 16384 ∧ (size == 4) = false ∧ (size == 8) = false) ∨ (off = 16388 ∧ (size == 4) = false) ∨ (off = 49144 ∧ (size == 4) = false ∧ (size == 8) = false) ∨ (off = 49148 ∧ (size == 4) = false) := by
  simp only [rgT, Bool.or_eq_false_iff, Bool.and_eq_false_iff, beq_eq_false_iff_ne] at h ⊢
  omega
/-- A half above another one. -/
theorem hi_or (x v : Nat) (hx : x < 4294967296) (hv : v < 18446744073709551616) : bits .or .u64 (x : Int) (IntKind.u64.wrap ((v : Int) * 4294967296)) = (x : Int) + (v : Int) % 4294967296 * 4294967296 := by
  have h := Nat.two_pow_add_eq_or_of_lt (i := 32) (by simpa using hx) (v % 4294967296)
  have e : IntKind.u64.wrap ((v : Int) * 4294967296) = ((2 ^ 32 * (v % 4294967296) : Nat) : Int) := by rw [IntKind.wrap_u64]; omega
  rw [e, bits_or_u64_nat _ _ (by omega) (by omega), Nat.or_comm, ← h]
  omega
theorem lo_or (o v : Nat) (ho : o < 4294967296) (hv : v < 4294967296) : bits .or .u64 ((o : Int) * 4294967296) (v : Int) = (o : Int) * 4294967296 + (v : Int) := by
  have h := Nat.two_pow_add_eq_or_of_lt (i := 32) (by simpa using hv) o
  rw [show ((o : Int) * 4294967296) = ((2 ^ 32 * o : Nat) : Int) by omega, bits_or_u64_nat _ _ (by omega) (by omega), ← h]
  omega
theorem up_word {old v : Int} (o0 : 0 ≤ old) (o1 : old < 18446744073709551616) (v0 : 0 ≤ v) (v1 : v < 18446744073709551616) : bits .or .u64 (old % 4294967296) (IntKind.u64.wrap (v * 4294967296)) = laidT old v true 4 := by
  obtain ⟨o, rfl⟩ := Int.eq_ofNat_of_zero_le o0
  obtain ⟨v, rfl⟩ := Int.eq_ofNat_of_zero_le v0
  have := hi_or (o % 4294967296) v (by omega) (by omega)
  rw [show ((o % 4294967296 : Nat) : Int) = (o : Int) % 4294967296 by omega] at this
  rw [this]; rfl
theorem low_word {old v : Int} (o0 : 0 ≤ old) (o1 : old < 18446744073709551616) (v0 : 0 ≤ v) (v1 : v < 18446744073709551616) : bits .or .u64 (IntKind.u64.wrap (old / 4294967296 * 4294967296)) (v % 4294967296) = laidT old v false 4 := by
  obtain ⟨o, rfl⟩ := Int.eq_ofNat_of_zero_le o0
  obtain ⟨v, rfl⟩ := Int.eq_ofNat_of_zero_le v0
  have := lo_or (o / 4294967296) (v % 4294967296) (by omega) (by omega)
  rw [show ((o / 4294967296 : Nat) : Int) = (o : Int) / 4294967296 by omega, show ((v % 4294967296 : Nat) : Int) = (v : Int) % 4294967296 by omega] at this
  rw [show IntKind.u64.wrap ((o : Int) / 4294967296 * 4294967296) = (o : Int) / 4294967296 * 4294967296 by rw [IntKind.wrap_u64]; omega, this]; rfl
theorem low_word' {old v : Int} (o0 : 0 ≤ old) (o1 : old < 18446744073709551616) (v0 : 0 ≤ v) (v1 : v < 18446744073709551616) : bits .or .u64 (old / 4294967296 * 4294967296) (v % 4294967296) = laidT old v false 4 := by
  have h := low_word o0 o1 v0 v1
  rwa [show IntKind.u64.wrap (old / 4294967296 * 4294967296) = old / 4294967296 * 4294967296 by rw [IntKind.wrap_u64]; omega] at h
end Go.Proofs.Ytikibfpfieoabaa
