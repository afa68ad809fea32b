/-
  The plain mathematics of layer 7 (base): bits of a word as numbers, signs, bits laid beside one another. No condition; nothing of a program.
  Contracts of base's word (its fields, its numbers), and of the document's Field, Signed and numbers. No condition.
  What a word of layer 7 is: the instruction as the document says it, as a function on numbers; and contracts of base's readers. No condition.
-/
import Derived.WalkKit
import Derived.Laws.BitsLemmas
import Derived.Laws.Bits64b
import Derived.Test.YtlfeandnpflaaaaGreatDoorMA
namespace Go.Proofs.YtlfeandnpflaaaaGreatDoor
open Go.RowKit
set_option linter.unusedVariables false
set_option linter.unusedSimpArgs false

/-- Bits of a word: p = 2 ^ the lowest, m = 2 ^ their count. -/
def fl (x p m : Int) : Int := x / p % m
theorem fl_bd (x p m : Int) (h : 0 < m) : 0 ≤ fl x p m ∧ fl x p m < m := ⟨Int.emod_nonneg _ (by omega), Int.emod_lt_of_pos _ h⟩
/-- A number of bits (n = 2 ^ their count) with its sign. -/
def sgn (n v : Int) : Int := if n ≤ 2 * v then v - n else v
theorem sgn_bd (n v : Int) (h0 : 0 ≤ v) (h1 : v < n) : -n ≤ 2 * sgn n v ∧ 2 * sgn n v < n := by unfold sgn; split <;> omega
theorem and_i (k : Nat) (hk : k ≤ 62) (x : Int) (h0 : 0 ≤ x) (h1 : x < 9223372036854775808) : bits .and .i64 x (2 ^ k - 1) = x % 2 ^ k :=
  bits_mask .i64 63 (by decide) (fun n h0 h1 => by rw [IntKind.wrap_i64]; omega) k (by omega) x h0 (by omega)
/-- Bits laid below a number that has noughts there. -/
theorem or_hi (k : Nat) (hk : k ≤ 40) (x y : Int) (hx : x % 2 ^ k = 0) (x0 : -4611686018427387904 ≤ x) (x1 : x < 4611686018427387904) (y0 : 0 ≤ y) (y1 : y < 2 ^ k) : bits .or .i64 x y = x + y := by
  have hp : (0 : Int) < 2 ^ k := Int.pow_pos (by omega)
  have hle : (2 : Int) ^ k ≤ 2 ^ 40 := by
    have h2 : 2 ^ k ≤ 2 ^ 40 := Nat.pow_le_pow_right (by omega) hk
    have h3 : (((2 ^ k : Nat)) : Int) ≤ ((2 ^ 40 : Nat) : Int) := by omega
    simpa using h3
  obtain ⟨q, hq⟩ : ∃ q, x = 2 ^ k * q := ⟨x / 2 ^ k, by have := Int.mul_ediv_add_emod x (2 ^ k); omega⟩
  have h64 : (2 : Int) ^ 64 = 2 ^ k * 2 ^ (64 - k) := by rw [← Int.pow_add]; congr 1; omega
  have hm : x % 2 ^ 64 = 2 ^ k * (q % 2 ^ (64 - k)) := by rw [h64, hq, Int.mul_emod_mul_of_pos _ _ hp]
  have hq0 : 0 ≤ q % 2 ^ (64 - k) := Int.emod_nonneg _ (Int.ne_of_gt (Int.pow_pos (by omega)))
  obtain ⟨a, ha⟩ := Int.eq_ofNat_of_zero_le hq0
  obtain ⟨b, rfl⟩ := Int.eq_ofNat_of_zero_le y0
  have hb : b < 2 ^ k := by
    have h2 : ((b : Nat) : Int) < ((2 ^ k : Nat) : Int) := by simpa using y1
    exact Int.ofNat_lt.mp h2
  have e1 : (BitVec.ofInt 64 x).toNat = 2 ^ k * a := by
    rw [BitVec.toNat_ofInt]
    have : x % ((2 ^ 64 : Nat) : Int) = ((2 ^ k * a : Nat) : Int) := by
      have h5 : ((2 ^ 64 : Nat) : Int) = 2 ^ 64 := by simp
      rw [h5, hm, ha]; simp
    rw [this]; exact Int.toNat_natCast _
  have hb2 : b < 2 ^ 64 := by
    have : (2 : Int) ^ 40 = 1099511627776 := by decide
    omega
  have e2 : (BitVec.ofInt 64 (b : Int)).toNat = b := by
    rw [BitVec.ofInt_natCast, BitVec.toNat_ofNat]; exact Nat.mod_eq_of_lt hb2
  show IntKind.i64.wrap ((BitVec.ofInt 64 x ||| BitVec.ofInt 64 (b : Int)).toNat : Int) = _
  rw [BitVec.toNat_or, e1, e2, ← Nat.two_pow_add_eq_or_of_lt hb a, IntKind.wrap_i64]
  have e3 : ((2 ^ k * a + b : Nat) : Int) = x % 2 ^ 64 + b := by rw [hm, ha]; simp
  rw [e3]
  have e4 : (2 : Int) ^ 64 = 18446744073709551616 := by decide
  have e5 : (2 : Int) ^ 40 = 1099511627776 := by decide
  rw [e4]
  omega
theorem or_p (k : Nat) (p : Int) (hp : (2 : Int) ^ k = p) (hk : k ≤ 40) (x y : Int) (hx : x % p = 0) (x0 : -4611686018427387904 ≤ x) (x1 : x < 4611686018427387904) (y0 : 0 ≤ y) (y1 : y < p) : bits .or .i64 x y = x + y := by
  subst hp; exact or_hi k hk x y hx x0 x1 y0 y1
theorem and_p (k : Nat) (m n : Int) (hm : (2 : Int) ^ k = m) (hn : n + 1 = m) (hk : k ≤ 62) (x : Int) (h0 : 0 ≤ x) (h1 : x < 9223372036854775808) : bits .and .i64 x n = x % m := by
  have e : n = 2 ^ k - 1 := by omega
  subst hm e; exact and_i k hk x h0 h1
/-- The numbers in a word. -/
def iI (x : Int) : Int := sgn 4096 (fl x 1048576 4096)
def iS (x : Int) : Int := sgn 4096 (fl x 33554432 128 * 32 + fl x 128 32)
def iB (x : Int) : Int := sgn 8192 (fl x 2147483648 2 * 4096 + fl x 128 2 * 2048 + fl x 33554432 64 * 32 + fl x 256 16 * 2)
def iJ (x : Int) : Int := sgn 2097152 (fl x 2147483648 2 * 1048576 + fl x 4096 256 * 4096 + fl x 1048576 2 * 2048 + fl x 2097152 1024 * 2)
def iU (x : Int) : Int := sgn 1048576 (fl x 4096 1048576) * 4096
theorem fl_lt (x p m : Int) (h : 0 < m) : fl x p m < m := (fl_bd x p m h).2
theorem fl_ge (x p m : Int) (h : 0 < m) : 0 ≤ fl x p m := (fl_bd x p m h).1
theorem iI_bd (x : Int) : -2048 ≤ iI x ∧ iI x < 2048 := by
  have := sgn_bd 4096 (fl x 1048576 4096) (fl_ge _ _ _ (by omega)) (fl_lt _ _ _ (by omega))
  unfold iI; omega
theorem iS_bd (x : Int) : -2048 ≤ iS x ∧ iS x < 2048 := by
  have h1 := fl_bd x 33554432 128 (by omega)
  have h2 := fl_bd x 128 32 (by omega)
  have := sgn_bd 4096 (fl x 33554432 128 * 32 + fl x 128 32) (by omega) (by omega)
  unfold iS; omega
theorem iB_bd (x : Int) : -4096 ≤ iB x ∧ iB x < 4096 := by
  have h1 := fl_bd x 2147483648 2 (by omega)
  have h2 := fl_bd x 128 2 (by omega)
  have h3 := fl_bd x 33554432 64 (by omega)
  have h4 := fl_bd x 256 16 (by omega)
  have := sgn_bd 8192 (fl x 2147483648 2 * 4096 + fl x 128 2 * 2048 + fl x 33554432 64 * 32 + fl x 256 16 * 2) (by omega) (by omega)
  unfold iB; omega
theorem iJ_bd (x : Int) : -1048576 ≤ iJ x ∧ iJ x < 1048576 := by
  have h1 := fl_bd x 2147483648 2 (by omega)
  have h2 := fl_bd x 4096 256 (by omega)
  have h3 := fl_bd x 1048576 2 (by omega)
  have h4 := fl_bd x 2097152 1024 (by omega)
  have := sgn_bd 2097152 (fl x 2147483648 2 * 1048576 + fl x 4096 256 * 4096 + fl x 1048576 2 * 2048 + fl x 2097152 1024 * 2) (by omega) (by omega)
  unfold iJ; omega
theorem iU_bd (x : Int) : -2147483648 ≤ iU x ∧ iU x < 2147483648 ∧ iU x % 4096 = 0 := by
  have h1 := fl_bd x 4096 1048576 (by omega)
  have := sgn_bd 1048576 (fl x 4096 1048576) (by omega) (by omega)
  unfold iU; omega
theorem iB_ev (x : Int) : iB x % 2 = 0 := by unfold iB sgn; split <;> omega
theorem iJ_ev (x : Int) : iJ x % 2 = 0 := by unfold iJ sgn; split <;> omega
theorem wrap32_of (x : Int) (x0 : 0 ≤ x) (x1 : x < 4294967296) : wrap32 x = if 2147483648 ≤ x then x - 4294967296 else x := by
  unfold wrap32; split <;> omega
theorem iS_eq (x : Int) (x0 : 0 ≤ x) (x1 : x < 4294967296) : bits .or .i64 (wrap64 (wrap64 (wrap32 x / 33554432) * 32)) (x * 1048576 % 4294967296 / 134217728) = iS x := by
  have e0 : wrap64 (wrap64 (wrap32 x / 33554432) * 32) = sgn 128 (fl x 33554432 128) * 32 := by
    rw [wrap32_of x x0 x1]; unfold sgn fl wrap64
    split <;> split <;> omega
  have e1 : x * 1048576 % 4294967296 / 134217728 = fl x 128 32 := by unfold fl; omega
  rw [e0, e1]
  have h1 := fl_bd x 33554432 128 (by omega)
  have h2 := fl_bd x 128 32 (by omega)
  have h3 := sgn_bd 128 (fl x 33554432 128) (by omega) (by omega)
  rw [or_p 5 32 (by decide) (by omega) _ _ (by omega) (by omega) (by omega) (by omega) (by omega)]
  unfold iS sgn; split <;> split <;> omega
theorem iI_eq (x : Int) (x0 : 0 ≤ x) (x1 : x < 4294967296) : wrap64 (wrap32 x / 1048576) = iI x := by
  unfold iI sgn fl wrap64 wrap32; split <;> omega
theorem iU_eq (x : Int) (x0 : 0 ≤ x) (x1 : x < 4294967296) : wrap64 (wrap64 (wrap32 x / 4096) * 4096) = iU x := by
  unfold iU sgn fl wrap64 wrap32; split <;> omega
theorem iB_eq (x : Int) (x0 : 0 ≤ x) (x1 : x < 4294967296) : bits .or .i64 (bits .or .i64 (bits .or .i64 (wrap64 (wrap64 (wrap32 x / 2147483648) * 4096)) (x * 16777216 % 4294967296 / 2147483648 * 2048)) (x * 2 % 4294967296 / 67108864 * 32)) (x * 1048576 % 4294967296 / 268435456 * 2) = iB x := by
  have e0 : wrap64 (wrap64 (wrap32 x / 2147483648) * 4096) = fl x 2147483648 2 * (-4096) := by unfold fl wrap64 wrap32; omega
  have e1 : x * 16777216 % 4294967296 / 2147483648 * 2048 = fl x 128 2 * 2048 := by unfold fl; omega
  have e2 : x * 2 % 4294967296 / 67108864 * 32 = fl x 33554432 64 * 32 := by unfold fl; omega
  have e3 : x * 1048576 % 4294967296 / 268435456 * 2 = fl x 256 16 * 2 := by unfold fl; omega
  rw [e0, e1, e2, e3]
  have h1 := fl_bd x 2147483648 2 (by omega)
  have h2 := fl_bd x 128 2 (by omega)
  have h3 := fl_bd x 33554432 64 (by omega)
  have h4 := fl_bd x 256 16 (by omega)
  rw [or_p 12 4096 (by decide) (by omega) _ (fl x 128 2 * 2048) (by omega) (by omega) (by omega) (by omega) (by omega)]
  rw [or_p 11 2048 (by decide) (by omega) _ (fl x 33554432 64 * 32) (by omega) (by omega) (by omega) (by omega) (by omega)]
  rw [or_p 5 32 (by decide) (by omega) _ (fl x 256 16 * 2) (by omega) (by omega) (by omega) (by omega) (by omega)]
  unfold iB sgn; split <;> omega
theorem iJ_eq (x : Int) (x0 : 0 ≤ x) (x1 : x < 4294967296) : bits .or .i64 (bits .or .i64 (bits .or .i64 (wrap64 (wrap64 (wrap32 x / 2147483648) * 1048576)) (x * 4096 % 4294967296 / 16777216 * 4096)) (x * 2048 % 4294967296 / 2147483648 * 2048)) (x * 2 % 4294967296 / 4194304 * 2) = iJ x := by
  have e0 : wrap64 (wrap64 (wrap32 x / 2147483648) * 1048576) = fl x 2147483648 2 * (-1048576) := by unfold fl wrap64 wrap32; omega
  have e1 : x * 4096 % 4294967296 / 16777216 * 4096 = fl x 4096 256 * 4096 := by unfold fl; omega
  have e2 : x * 2048 % 4294967296 / 2147483648 * 2048 = fl x 1048576 2 * 2048 := by unfold fl; omega
  have e3 : x * 2 % 4294967296 / 4194304 * 2 = fl x 2097152 1024 * 2 := by unfold fl; omega
  rw [e0, e1, e2, e3]
  have h1 := fl_bd x 2147483648 2 (by omega)
  have h2 := fl_bd x 4096 256 (by omega)
  have h3 := fl_bd x 1048576 2 (by omega)
  have h4 := fl_bd x 2097152 1024 (by omega)
  rw [or_p 20 1048576 (by decide) (by omega) _ (fl x 4096 256 * 4096) (by omega) (by omega) (by omega) (by omega) (by omega)]
  rw [or_p 12 4096 (by decide) (by omega) _ (fl x 1048576 2 * 2048) (by omega) (by omega) (by omega) (by omega) (by omega)]
  rw [or_p 11 2048 (by decide) (by omega) _ (fl x 2097152 1024 * 2) (by omega) (by omega) (by omega) (by omega) (by omega)]
  unfold iJ sgn; split <;> omega
end Go.Proofs.YtlfeandnpflaaaaGreatDoor
namespace Go.Proofs.YtlfeandnpflaaaaGreatDoor
open Go.ChangeShapes Go.WideShapes Go.ChangeAt Go.RowKit
set_option linter.unusedVariables false
set_option linter.unusedSimpArgs false

theorem op_w (x : Int) (x0 : 0 ≤ x) (x1 : x < 4294967296) (w : World) :
    Calls Tryz.prog 32 #[.int .u32 x] w fun e w' => e = .returned (.int .i64 (fl x 1 128)) ∧ w = w' := by
  go_enter Tryz.func32, Tryz.ntmps32
  go_wp2
  go_ret
  exact ⟨ret_int (by unfold fl; omega), rfl⟩
theorem rd_w (x : Int) (x0 : 0 ≤ x) (x1 : x < 4294967296) (w : World) :
    Calls Tryz.prog 118 #[.int .u32 x] w fun e w' => e = .returned (.int .i64 (fl x 128 32)) ∧ w = w' := by
  go_enter Tryz.func118, Tryz.ntmps118
  go_wp2
  go_ret
  exact ⟨ret_int (by unfold fl; omega), rfl⟩
theorem f3_w (x : Int) (x0 : 0 ≤ x) (x1 : x < 4294967296) (w : World) :
    Calls Tryz.prog 117 #[.int .u32 x] w fun e w' => e = .returned (.int .i64 (fl x 4096 8)) ∧ w = w' := by
  go_enter Tryz.func117, Tryz.ntmps117
  go_wp2
  go_ret
  exact ⟨ret_int (by unfold fl; omega), rfl⟩
theorem rs1_w (x : Int) (x0 : 0 ≤ x) (x1 : x < 4294967296) (w : World) :
    Calls Tryz.prog 119 #[.int .u32 x] w fun e w' => e = .returned (.int .i64 (fl x 32768 32)) ∧ w = w' := by
  go_enter Tryz.func119, Tryz.ntmps119
  go_wp2
  go_ret
  exact ⟨ret_int (by unfold fl; omega), rfl⟩
theorem rs2_w (x : Int) (x0 : 0 ≤ x) (x1 : x < 4294967296) (w : World) :
    Calls Tryz.prog 127 #[.int .u32 x] w fun e w' => e = .returned (.int .i64 (fl x 1048576 32)) ∧ w = w' := by
  go_enter Tryz.func127, Tryz.ntmps127
  go_wp2
  go_ret
  exact ⟨ret_int (by unfold fl; omega), rfl⟩
theorem f7_w (x : Int) (x0 : 0 ≤ x) (x1 : x < 4294967296) (w : World) :
    Calls Tryz.prog 129 #[.int .u32 x] w fun e w' => e = .returned (.int .i64 (fl x 33554432 128)) ∧ w = w' := by
  go_enter Tryz.func129, Tryz.ntmps129
  go_wp2
  go_ret
  exact ⟨ret_int (by unfold fl; omega), rfl⟩
theorem cf_25_20 (x : Int) (x0 : 0 ≤ x) (x1 : x < 4294967296) (w : World) :
    Calls Tryz.prog 84 #[.int .u32 x, .int .u64 25, .int .u64 20] w fun e w' => e = .returned (.int .i64 (fl x 1048576 64)) ∧ w = w' := by
  go_enter Tryz.func84, Tryz.ntmps84
  go_wp2
  go_ret
  exact ⟨ret_int (by unfold fl; omega), rfl⟩
theorem cf_31_26 (x : Int) (x0 : 0 ≤ x) (x1 : x < 4294967296) (w : World) :
    Calls Tryz.prog 84 #[.int .u32 x, .int .u64 31, .int .u64 26] w fun e w' => e = .returned (.int .i64 (fl x 67108864 64)) ∧ w = w' := by
  go_enter Tryz.func84, Tryz.ntmps84
  go_wp2
  go_ret
  exact ⟨ret_int (by unfold fl; omega), rfl⟩
theorem cf_31_27 (x : Int) (x0 : 0 ≤ x) (x1 : x < 4294967296) (w : World) :
    Calls Tryz.prog 84 #[.int .u32 x, .int .u64 31, .int .u64 27] w fun e w' => e = .returned (.int .i64 (fl x 134217728 32)) ∧ w = w' := by
  go_enter Tryz.func84, Tryz.ntmps84
  go_wp2
  go_ret
  exact ⟨ret_int (by unfold fl; omega), rfl⟩
theorem cf_31_20 (x : Int) (x0 : 0 ≤ x) (x1 : x < 4294967296) (w : World) :
    Calls Tryz.prog 84 #[.int .u32 x, .int .u64 31, .int .u64 20] w fun e w' => e = .returned (.int .i64 (fl x 1048576 4096)) ∧ w = w' := by
  go_enter Tryz.func84, Tryz.ntmps84
  go_wp2
  go_ret
  exact ⟨ret_int (by unfold fl; omega), rfl⟩
theorem immI_w (x : Int) (x0 : 0 ≤ x) (x1 : x < 4294967296) (w : World) :
    Calls Tryz.prog 120 #[.int .u32 x] w fun e w' => e = .returned (.int .i64 (iI x)) ∧ w = w' := by
  go_enter Tryz.func120, Tryz.ntmps120
  go_wp2
  go_ret
  exact ⟨ret_int (iI_eq x x0 x1), rfl⟩
theorem immS_w (x : Int) (x0 : 0 ≤ x) (x1 : x < 4294967296) (w : World) :
    Calls Tryz.prog 128 #[.int .u32 x] w fun e w' => e = .returned (.int .i64 (iS x)) ∧ w = w' := by
  go_enter Tryz.func128, Tryz.ntmps128
  go_wp2
  go_ret
  exact ⟨ret_int (iS_eq x x0 x1), rfl⟩
theorem immB_w (x : Int) (x0 : 0 ≤ x) (x1 : x < 4294967296) (w : World) :
    Calls Tryz.prog 130 #[.int .u32 x] w fun e w' => e = .returned (.int .i64 (iB x)) ∧ w = w' := by
  go_enter Tryz.func130, Tryz.ntmps130
  go_wp2
  go_ret
  exact ⟨ret_int (iB_eq x x0 x1), rfl⟩
theorem immU_w (x : Int) (x0 : 0 ≤ x) (x1 : x < 4294967296) (w : World) :
    Calls Tryz.prog 124 #[.int .u32 x] w fun e w' => e = .returned (.int .i64 (iU x)) ∧ w = w' := by
  go_enter Tryz.func124, Tryz.ntmps124
  go_wp2
  go_ret
  exact ⟨ret_int (iU_eq x x0 x1), rfl⟩
theorem immJ_w (x : Int) (x0 : 0 ≤ x) (x1 : x < 4294967296) (w : World) :
    Calls Tryz.prog 131 #[.int .u32 x] w fun e w' => e = .returned (.int .i64 (iJ x)) ∧ w = w' := by
  go_enter Tryz.func131, Tryz.ntmps131
  go_wp2
  go_ret
  exact ⟨ret_int (iJ_eq x x0 x1), rfl⟩
theorem rf_31_20 (x : Int) (x0 : 0 ≤ x) (x1 : x < 4294967296) (w : World) :
    Calls Tryz.prog 34 #[.int .u32 x, .int .i64 31, .int .i64 20] w fun e w' => e = .returned (.int .i64 (fl x 1048576 4096)) ∧ w = w' := by
  go_enter Tryz.func34, Tryz.ntmps34
  go_wp2
  go_ret
  exact ⟨ret_int (by unfold fl; first | (rw [and_p 12 4096 4095 (by decide) (by omega) (by omega) _ (by omega) (by omega)]; done) | rw [and_p 12 4096 4095 (by decide) (by omega) (by omega) _ (by omega) (by omega), Int.ediv_one]), rfl⟩
theorem rf_31_25 (x : Int) (x0 : 0 ≤ x) (x1 : x < 4294967296) (w : World) :
    Calls Tryz.prog 34 #[.int .u32 x, .int .i64 31, .int .i64 25] w fun e w' => e = .returned (.int .i64 (fl x 33554432 128)) ∧ w = w' := by
  go_enter Tryz.func34, Tryz.ntmps34
  go_wp2
  go_ret
  exact ⟨ret_int (by unfold fl; first | (rw [and_p 7 128 127 (by decide) (by omega) (by omega) _ (by omega) (by omega)]; done) | rw [and_p 7 128 127 (by decide) (by omega) (by omega) _ (by omega) (by omega), Int.ediv_one]), rfl⟩
theorem rf_11_7 (x : Int) (x0 : 0 ≤ x) (x1 : x < 4294967296) (w : World) :
    Calls Tryz.prog 34 #[.int .u32 x, .int .i64 11, .int .i64 7] w fun e w' => e = .returned (.int .i64 (fl x 128 32)) ∧ w = w' := by
  go_enter Tryz.func34, Tryz.ntmps34
  go_wp2
  go_ret
  exact ⟨ret_int (by unfold fl; first | (rw [and_p 5 32 31 (by decide) (by omega) (by omega) _ (by omega) (by omega)]; done) | rw [and_p 5 32 31 (by decide) (by omega) (by omega) _ (by omega) (by omega), Int.ediv_one]), rfl⟩
theorem rf_31_31 (x : Int) (x0 : 0 ≤ x) (x1 : x < 4294967296) (w : World) :
    Calls Tryz.prog 34 #[.int .u32 x, .int .i64 31, .int .i64 31] w fun e w' => e = .returned (.int .i64 (fl x 2147483648 2)) ∧ w = w' := by
  go_enter Tryz.func34, Tryz.ntmps34
  go_wp2
  go_ret
  exact ⟨ret_int (by unfold fl; first | (rw [and_p 1 2 1 (by decide) (by omega) (by omega) _ (by omega) (by omega)]; done) | rw [and_p 1 2 1 (by decide) (by omega) (by omega) _ (by omega) (by omega), Int.ediv_one]), rfl⟩
theorem rf_7_7 (x : Int) (x0 : 0 ≤ x) (x1 : x < 4294967296) (w : World) :
    Calls Tryz.prog 34 #[.int .u32 x, .int .i64 7, .int .i64 7] w fun e w' => e = .returned (.int .i64 (fl x 128 2)) ∧ w = w' := by
  go_enter Tryz.func34, Tryz.ntmps34
  go_wp2
  go_ret
  exact ⟨ret_int (by unfold fl; first | (rw [and_p 1 2 1 (by decide) (by omega) (by omega) _ (by omega) (by omega)]; done) | rw [and_p 1 2 1 (by decide) (by omega) (by omega) _ (by omega) (by omega), Int.ediv_one]), rfl⟩
theorem rf_30_25 (x : Int) (x0 : 0 ≤ x) (x1 : x < 4294967296) (w : World) :
    Calls Tryz.prog 34 #[.int .u32 x, .int .i64 30, .int .i64 25] w fun e w' => e = .returned (.int .i64 (fl x 33554432 64)) ∧ w = w' := by
  go_enter Tryz.func34, Tryz.ntmps34
  go_wp2
  go_ret
  exact ⟨ret_int (by unfold fl; first | (rw [and_p 6 64 63 (by decide) (by omega) (by omega) _ (by omega) (by omega)]; done) | rw [and_p 6 64 63 (by decide) (by omega) (by omega) _ (by omega) (by omega), Int.ediv_one]), rfl⟩
theorem rf_11_8 (x : Int) (x0 : 0 ≤ x) (x1 : x < 4294967296) (w : World) :
    Calls Tryz.prog 34 #[.int .u32 x, .int .i64 11, .int .i64 8] w fun e w' => e = .returned (.int .i64 (fl x 256 16)) ∧ w = w' := by
  go_enter Tryz.func34, Tryz.ntmps34
  go_wp2
  go_ret
  exact ⟨ret_int (by unfold fl; first | (rw [and_p 4 16 15 (by decide) (by omega) (by omega) _ (by omega) (by omega)]; done) | rw [and_p 4 16 15 (by decide) (by omega) (by omega) _ (by omega) (by omega), Int.ediv_one]), rfl⟩
theorem rf_19_12 (x : Int) (x0 : 0 ≤ x) (x1 : x < 4294967296) (w : World) :
    Calls Tryz.prog 34 #[.int .u32 x, .int .i64 19, .int .i64 12] w fun e w' => e = .returned (.int .i64 (fl x 4096 256)) ∧ w = w' := by
  go_enter Tryz.func34, Tryz.ntmps34
  go_wp2
  go_ret
  exact ⟨ret_int (by unfold fl; first | (rw [and_p 8 256 255 (by decide) (by omega) (by omega) _ (by omega) (by omega)]; done) | rw [and_p 8 256 255 (by decide) (by omega) (by omega) _ (by omega) (by omega), Int.ediv_one]), rfl⟩
theorem rf_20_20 (x : Int) (x0 : 0 ≤ x) (x1 : x < 4294967296) (w : World) :
    Calls Tryz.prog 34 #[.int .u32 x, .int .i64 20, .int .i64 20] w fun e w' => e = .returned (.int .i64 (fl x 1048576 2)) ∧ w = w' := by
  go_enter Tryz.func34, Tryz.ntmps34
  go_wp2
  go_ret
  exact ⟨ret_int (by unfold fl; first | (rw [and_p 1 2 1 (by decide) (by omega) (by omega) _ (by omega) (by omega)]; done) | rw [and_p 1 2 1 (by decide) (by omega) (by omega) _ (by omega) (by omega), Int.ediv_one]), rfl⟩
theorem rf_30_21 (x : Int) (x0 : 0 ≤ x) (x1 : x < 4294967296) (w : World) :
    Calls Tryz.prog 34 #[.int .u32 x, .int .i64 30, .int .i64 21] w fun e w' => e = .returned (.int .i64 (fl x 2097152 1024)) ∧ w = w' := by
  go_enter Tryz.func34, Tryz.ntmps34
  go_wp2
  go_ret
  exact ⟨ret_int (by unfold fl; first | (rw [and_p 10 1024 1023 (by decide) (by omega) (by omega) _ (by omega) (by omega)]; done) | rw [and_p 10 1024 1023 (by decide) (by omega) (by omega) _ (by omega) (by omega), Int.ediv_one]), rfl⟩
theorem rf_14_12 (x : Int) (x0 : 0 ≤ x) (x1 : x < 4294967296) (w : World) :
    Calls Tryz.prog 34 #[.int .u32 x, .int .i64 14, .int .i64 12] w fun e w' => e = .returned (.int .i64 (fl x 4096 8)) ∧ w = w' := by
  go_enter Tryz.func34, Tryz.ntmps34
  go_wp2
  go_ret
  exact ⟨ret_int (by unfold fl; first | (rw [and_p 3 8 7 (by decide) (by omega) (by omega) _ (by omega) (by omega)]; done) | rw [and_p 3 8 7 (by decide) (by omega) (by omega) _ (by omega) (by omega), Int.ediv_one]), rfl⟩
theorem rf_19_15 (x : Int) (x0 : 0 ≤ x) (x1 : x < 4294967296) (w : World) :
    Calls Tryz.prog 34 #[.int .u32 x, .int .i64 19, .int .i64 15] w fun e w' => e = .returned (.int .i64 (fl x 32768 32)) ∧ w = w' := by
  go_enter Tryz.func34, Tryz.ntmps34
  go_wp2
  go_ret
  exact ⟨ret_int (by unfold fl; first | (rw [and_p 5 32 31 (by decide) (by omega) (by omega) _ (by omega) (by omega)]; done) | rw [and_p 5 32 31 (by decide) (by omega) (by omega) _ (by omega) (by omega), Int.ediv_one]), rfl⟩
theorem rf_24_20 (x : Int) (x0 : 0 ≤ x) (x1 : x < 4294967296) (w : World) :
    Calls Tryz.prog 34 #[.int .u32 x, .int .i64 24, .int .i64 20] w fun e w' => e = .returned (.int .i64 (fl x 1048576 32)) ∧ w = w' := by
  go_enter Tryz.func34, Tryz.ntmps34
  go_wp2
  go_ret
  exact ⟨ret_int (by unfold fl; first | (rw [and_p 5 32 31 (by decide) (by omega) (by omega) _ (by omega) (by omega)]; done) | rw [and_p 5 32 31 (by decide) (by omega) (by omega) _ (by omega) (by omega), Int.ediv_one]), rfl⟩
theorem rf_31_26 (x : Int) (x0 : 0 ≤ x) (x1 : x < 4294967296) (w : World) :
    Calls Tryz.prog 34 #[.int .u32 x, .int .i64 31, .int .i64 26] w fun e w' => e = .returned (.int .i64 (fl x 67108864 64)) ∧ w = w' := by
  go_enter Tryz.func34, Tryz.ntmps34
  go_wp2
  go_ret
  exact ⟨ret_int (by unfold fl; first | (rw [and_p 6 64 63 (by decide) (by omega) (by omega) _ (by omega) (by omega)]; done) | rw [and_p 6 64 63 (by decide) (by omega) (by omega) _ (by omega) (by omega), Int.ediv_one]), rfl⟩
theorem rf_25_20 (x : Int) (x0 : 0 ≤ x) (x1 : x < 4294967296) (w : World) :
    Calls Tryz.prog 34 #[.int .u32 x, .int .i64 25, .int .i64 20] w fun e w' => e = .returned (.int .i64 (fl x 1048576 64)) ∧ w = w' := by
  go_enter Tryz.func34, Tryz.ntmps34
  go_wp2
  go_ret
  exact ⟨ret_int (by unfold fl; first | (rw [and_p 6 64 63 (by decide) (by omega) (by omega) _ (by omega) (by omega)]; done) | rw [and_p 6 64 63 (by decide) (by omega) (by omega) _ (by omega) (by omega), Int.ediv_one]), rfl⟩
theorem rf_31_27 (x : Int) (x0 : 0 ≤ x) (x1 : x < 4294967296) (w : World) :
    Calls Tryz.prog 34 #[.int .u32 x, .int .i64 31, .int .i64 27] w fun e w' => e = .returned (.int .i64 (fl x 134217728 32)) ∧ w = w' := by
  go_enter Tryz.func34, Tryz.ntmps34
  go_wp2
  go_ret
  exact ⟨ret_int (by unfold fl; first | (rw [and_p 5 32 31 (by decide) (by omega) (by omega) _ (by omega) (by omega)]; done) | rw [and_p 5 32 31 (by decide) (by omega) (by omega) _ (by omega) (by omega), Int.ediv_one]), rfl⟩
theorem rf_6_0 (x : Int) (x0 : 0 ≤ x) (x1 : x < 4294967296) (w : World) :
    Calls Tryz.prog 34 #[.int .u32 x, .int .i64 6, .int .i64 0] w fun e w' => e = .returned (.int .i64 (fl x 1 128)) ∧ w = w' := by
  go_enter Tryz.func34, Tryz.ntmps34
  go_wp2
  go_ret
  exact ⟨ret_int (by unfold fl; first | (rw [and_p 7 128 127 (by decide) (by omega) (by omega) _ (by omega) (by omega)]; done) | rw [and_p 7 128 127 (by decide) (by omega) (by omega) _ (by omega) (by omega), Int.ediv_one]), rfl⟩
theorem rf_31_12 (x : Int) (x0 : 0 ≤ x) (x1 : x < 4294967296) (w : World) :
    Calls Tryz.prog 34 #[.int .u32 x, .int .i64 31, .int .i64 12] w fun e w' => e = .returned (.int .i64 (fl x 4096 1048576)) ∧ w = w' := by
  go_enter Tryz.func34, Tryz.ntmps34
  go_wp2
  go_ret
  exact ⟨ret_int (by unfold fl; first | (rw [and_p 20 1048576 1048575 (by decide) (by omega) (by omega) _ (by omega) (by omega)]; done) | rw [and_p 20 1048576 1048575 (by decide) (by omega) (by omega) _ (by omega) (by omega), Int.ediv_one]), rfl⟩
theorem rsg_12 (v : Int) (x0 : 0 ≤ v) (x1 : v < 4096) (w : World) :
    Calls Tryz.prog 35 #[.int .i64 v, .int .i64 12] w fun e w' => e = .returned (.int .i64 (sgn 4096 v)) ∧ w = w' := by
  go_enter Tryz.func35, Tryz.ntmps35
  go_wp2
  all_goals go_ret
  all_goals exact ⟨ret_int (by simp at *; unfold sgn; split <;> omega), rfl⟩
theorem rsg_13 (v : Int) (x0 : 0 ≤ v) (x1 : v < 8192) (w : World) :
    Calls Tryz.prog 35 #[.int .i64 v, .int .i64 13] w fun e w' => e = .returned (.int .i64 (sgn 8192 v)) ∧ w = w' := by
  go_enter Tryz.func35, Tryz.ntmps35
  go_wp2
  all_goals go_ret
  all_goals exact ⟨ret_int (by simp at *; unfold sgn; split <;> omega), rfl⟩
theorem rsg_21 (v : Int) (x0 : 0 ≤ v) (x1 : v < 2097152) (w : World) :
    Calls Tryz.prog 35 #[.int .i64 v, .int .i64 21] w fun e w' => e = .returned (.int .i64 (sgn 2097152 v)) ∧ w = w' := by
  go_enter Tryz.func35, Tryz.ntmps35
  go_wp2
  all_goals go_ret
  all_goals exact ⟨ret_int (by simp at *; unfold sgn; split <;> omega), rfl⟩
theorem rsg_20 (v : Int) (x0 : 0 ≤ v) (x1 : v < 1048576) (w : World) :
    Calls Tryz.prog 35 #[.int .i64 v, .int .i64 20] w fun e w' => e = .returned (.int .i64 (sgn 1048576 v)) ∧ w = w' := by
  go_enter Tryz.func35, Tryz.ntmps35
  go_wp2
  all_goals go_ret
  all_goals exact ⟨ret_int (by simp at *; unfold sgn; split <;> omega), rfl⟩
theorem rI_w (x : Int) (x0 : 0 ≤ x) (x1 : x < 4294967296) (w : World) :
    Calls Tryz.prog 44 #[.int .u32 x] w fun e w' => e = .returned (.int .i64 (iI x)) ∧ w = w' := by
  have b_31_20 := fl_bd x 1048576 4096 (by omega)
  go_enter Tryz.func44, Tryz.ntmps44
  go_wp2_with (first | (go_at_call 34; with_reducible refine (rf_31_20 x x0 x1 _).mono ?_; rintro e' w1 ⟨rfl, rfl⟩) | (go_at_call 35; refine (rsg_12 _ (by omega) (by omega) _).mono ?_; rintro e' w1 ⟨rfl, rfl⟩))
  go_ret
  exact ⟨ret_int (rfl), rfl⟩
theorem rS_w (x : Int) (x0 : 0 ≤ x) (x1 : x < 4294967296) (w : World) :
    Calls Tryz.prog 43 #[.int .u32 x] w fun e w' => e = .returned (.int .i64 (iS x)) ∧ w = w' := by
  have b_31_25 := fl_bd x 33554432 128 (by omega)
  have b_11_7 := fl_bd x 128 32 (by omega)
  go_enter Tryz.func43, Tryz.ntmps43
  go_wp2_with (first | (go_at_call 34; with_reducible refine (rf_31_25 x x0 x1 _).mono ?_; rintro e' w1 ⟨rfl, rfl⟩) | (go_at_call 34; with_reducible refine (rf_11_7 x x0 x1 _).mono ?_; rintro e' w1 ⟨rfl, rfl⟩) | (go_at_call 35; refine (rsg_12 _ (by omega) (by omega) _).mono ?_; rintro e' w1 ⟨rfl, rfl⟩))
  go_ret
  exact ⟨ret_int (rfl), rfl⟩
theorem rB_w (x : Int) (x0 : 0 ≤ x) (x1 : x < 4294967296) (w : World) :
    Calls Tryz.prog 95 #[.int .u32 x] w fun e w' => e = .returned (.int .i64 (iB x)) ∧ w = w' := by
  have b_31_31 := fl_bd x 2147483648 2 (by omega)
  have b_7_7 := fl_bd x 128 2 (by omega)
  have b_30_25 := fl_bd x 33554432 64 (by omega)
  have b_11_8 := fl_bd x 256 16 (by omega)
  go_enter Tryz.func95, Tryz.ntmps95
  go_wp2_with (first | (go_at_call 34; with_reducible refine (rf_31_31 x x0 x1 _).mono ?_; rintro e' w1 ⟨rfl, rfl⟩) | (go_at_call 34; with_reducible refine (rf_7_7 x x0 x1 _).mono ?_; rintro e' w1 ⟨rfl, rfl⟩) | (go_at_call 34; with_reducible refine (rf_30_25 x x0 x1 _).mono ?_; rintro e' w1 ⟨rfl, rfl⟩) | (go_at_call 34; with_reducible refine (rf_11_8 x x0 x1 _).mono ?_; rintro e' w1 ⟨rfl, rfl⟩) | (go_at_call 35; refine (rsg_13 _ (by omega) (by omega) _).mono ?_; rintro e' w1 ⟨rfl, rfl⟩))
  go_ret
  exact ⟨ret_int (rfl), rfl⟩
theorem rJ_w (x : Int) (x0 : 0 ≤ x) (x1 : x < 4294967296) (w : World) :
    Calls Tryz.prog 36 #[.int .u32 x] w fun e w' => e = .returned (.int .i64 (iJ x)) ∧ w = w' := by
  have b_31_31 := fl_bd x 2147483648 2 (by omega)
  have b_19_12 := fl_bd x 4096 256 (by omega)
  have b_20_20 := fl_bd x 1048576 2 (by omega)
  have b_30_21 := fl_bd x 2097152 1024 (by omega)
  go_enter Tryz.func36, Tryz.ntmps36
  go_wp2_with (first | (go_at_call 34; with_reducible refine (rf_31_31 x x0 x1 _).mono ?_; rintro e' w1 ⟨rfl, rfl⟩) | (go_at_call 34; with_reducible refine (rf_19_12 x x0 x1 _).mono ?_; rintro e' w1 ⟨rfl, rfl⟩) | (go_at_call 34; with_reducible refine (rf_20_20 x x0 x1 _).mono ?_; rintro e' w1 ⟨rfl, rfl⟩) | (go_at_call 34; with_reducible refine (rf_30_21 x x0 x1 _).mono ?_; rintro e' w1 ⟨rfl, rfl⟩) | (go_at_call 35; refine (rsg_21 _ (by omega) (by omega) _).mono ?_; rintro e' w1 ⟨rfl, rfl⟩))
  go_ret
  exact ⟨ret_int (rfl), rfl⟩
end Go.Proofs.YtlfeandnpflaaaaGreatDoor
namespace Go.Proofs.YtlfeandnpflaaaaGreatDoor
open Go.ChangeShapes Go.WideShapes Go.ChangeAt Go.RowKit
set_option linter.unusedVariables false
set_option linter.unusedSimpArgs false

structure Ins where
  op : Int
  fn : Int
  rd : Int
  r1 : Int
  r2 : Int
  imm : Int
  wid : Int
  wo : Bool
  us : Bool
deriving DecidableEq
def Ins.v (i : Ins) (len raw : Int) : Value := .agg #[.int .i64 i.op, .int .i64 i.fn, .int .i64 i.rd, .int .i64 i.r1, .int .i64 i.r2, .int .i64 i.imm, .int .i64 i.wid, .bool i.wo, .bool i.us, .int .i64 len, .int .u32 raw]
def shiftB (fn : Int) : Bool := fn == 1 || fn == 5 || fn == 9
def spUpper (op x : Int) : Option Ins := some ⟨op, 0, (fl x 128 32), 0, 0, iU x, 0, false, false⟩
def spJal (x : Int) : Option Ins := some ⟨3, 0, (fl x 128 32), 0, 0, iJ x, 0, false, false⟩
def spJalr (x : Int) : Option Ins := if (fl x 4096 8) = 0 then some ⟨4, 0, (fl x 128 32), (fl x 32768 32), 0, iI x, 0, false, false⟩ else none
def spBranch (x : Int) : Option Ins := if (fl x 4096 8) = 2 ∨ (fl x 4096 8) = 3 then none else some ⟨5, (fl x 4096 8), 0, (fl x 32768 32), (fl x 1048576 32), iB x, 0, false, false⟩
def spLoad (x : Int) : Option Ins := if (fl x 4096 8) < 7 then some ⟨6, 0, (fl x 128 32), (fl x 32768 32), 0, iI x, (fl x 4096 8), false, false⟩ else none
def spStore (x : Int) : Option Ins := if (fl x 4096 8) < 4 then some ⟨7, 0, 0, (fl x 32768 32), (fl x 1048576 32), iS x, (fl x 4096 8), false, false⟩ else none
def spFence (x : Int) : Option Ins := if (fl x 4096 8) = 0 then some ⟨11, 0, 0, 0, 0, 0, 0, false, false⟩ else if (fl x 4096 8) = 1 then some ⟨12, 0, 0, 0, 0, 0, 0, false, false⟩ else none
/-- An operation with a number: n: what bits 31 to 26 are; s: those from 25. -/
def spImm (x : Int) : Option Ins :=
  if (fl x 4096 8) = 1 ∨ (fl x 4096 8) = 5 then
    if fl x 67108864 64 = 0 then some ⟨8, (fl x 4096 8), (fl x 128 32), (fl x 32768 32), 0, fl x 1048576 64, 0, false, false⟩
    else if fl x 67108864 64 = 16 ∧ (fl x 4096 8) = 5 then some ⟨8, 9, (fl x 128 32), (fl x 32768 32), 0, fl x 1048576 64, 0, false, false⟩ else none
  else some ⟨8, (fl x 4096 8), (fl x 128 32), (fl x 32768 32), 0, iI x, 0, false, false⟩
def spAlu (x : Int) : Option Ins :=
  if (fl x 33554432 128) = 0 then some ⟨9, (fl x 4096 8), (fl x 128 32), (fl x 32768 32), (fl x 1048576 32), 0, 0, false, false⟩
  else if (fl x 33554432 128) = 1 then some ⟨10, (fl x 4096 8), (fl x 128 32), (fl x 32768 32), (fl x 1048576 32), 0, 0, false, false⟩
  else if (fl x 33554432 128) = 32 ∧ (fl x 4096 8) = 0 then some ⟨9, 8, (fl x 128 32), (fl x 32768 32), (fl x 1048576 32), 0, 0, false, false⟩
  else if (fl x 33554432 128) = 32 ∧ (fl x 4096 8) = 5 then some ⟨9, 9, (fl x 128 32), (fl x 32768 32), (fl x 1048576 32), 0, 0, false, false⟩ else none
def amoB (n : Int) : Bool := n == 0 || n == 1 || n == 4 || n == 8 || n == 12 || n == 16 || n == 20 || n == 24 || n == 28
def spAmo (x : Int) : Option Ins :=
  if (fl x 4096 8) = 2 ∨ (fl x 4096 8) = 3 then
    if fl x 134217728 32 = 2 then (if (fl x 1048576 32) = 0 then some ⟨20, 0, (fl x 128 32), (fl x 32768 32), 0, 0, (fl x 4096 8), false, false⟩ else none)
    else if fl x 134217728 32 = 3 then some ⟨21, 0, (fl x 128 32), (fl x 32768 32), (fl x 1048576 32), 0, (fl x 4096 8), false, false⟩
    else if amoB (fl x 134217728 32) then some ⟨22, fl x 134217728 32, (fl x 128 32), (fl x 32768 32), (fl x 1048576 32), 0, (fl x 4096 8), false, false⟩ else none
  else none
def spSys (x : Int) : Option Ins :=
  if x = 115 then some ⟨13, 0, 0, 0, 0, 0, 0, false, false⟩
  else if x = 1048691 then some ⟨14, 0, 0, 0, 0, 0, 0, false, false⟩
  else if x = 807403635 then some ⟨15, 0, 0, 0, 0, 0, 0, false, false⟩
  else if x = 270532723 then some ⟨16, 0, 0, 0, 0, 0, 0, false, false⟩
  else if x = 273678451 then some ⟨17, 0, 0, 0, 0, 0, 0, false, false⟩
  else if (fl x 4096 8) = 0 then (if (fl x 33554432 128) = 9 ∧ (fl x 128 32) = 0 then some ⟨18, 0, 0, (fl x 32768 32), (fl x 1048576 32), 0, 0, false, false⟩ else none)
  else if (fl x 4096 8) = 4 then none
  else some ⟨19, (fl x 4096 8) % 4, (fl x 128 32), (fl x 32768 32), 0, fl x 1048576 4096, 0, false, decide (4 < (fl x 4096 8))⟩
/-- Is an operation one of 32 bits too? -/
def narB (i : Ins) : Bool :=
  if i.op = 10 then i.fn == 0 || decide (4 ≤ i.fn)
  else if i.op = 8 then i.fn == 0 || (shiftB i.fn && decide (i.imm < 32))
  else i.fn == 0 || i.fn == 8 || shiftB i.fn
def nar (o : Option Ins) : Option Ins := match o with
  | none => none
  | some i => if narB { i with wo := true } then some { i with wo := true } else none
def spec (x : Int) : Option Ins :=
  let o := fl x 1 128
  if o = 3 then spLoad x else if o = 15 then spFence x else if o = 19 then spImm x else if o = 23 then spUpper 2 x
  else if o = 27 then nar (spImm x) else if o = 35 then spStore x else if o = 47 then spAmo x else if o = 51 then spAlu x
  else if o = 55 then spUpper 1 x else if o = 59 then nar (spAlu x) else if o = 99 then spBranch x else if o = 103 then spJalr x
  else if o = 111 then spJal x else if o = 115 then spSys x else none
/-- What a reader returns, where the document says s. -/
def RdP (e : Ending) (s : Option Ins) : Prop := ∃ i ok, e = .returned (.tuple #[i.v 0 0, .bool ok]) ∧ s = (if ok then some i else none)
theorem RdP.mk (i : Ins) (ok : Bool) {v : Value} {s : Option Ins} (hv : v = .tuple #[i.v 0 0, .bool ok]) (hs : s = (if ok then some i else none)) : RdP (.returned v) s := ⟨i, ok, by rw [hv], hs⟩
def zIns : Ins := ⟨0, 0, 0, 0, 0, 0, 0, false, false⟩
set_option maxHeartbeats 2000000 in
theorem load_w (x : Int) (x0 : 0 ≤ x) (x1 : x < 4294967296) (w : World) :
    Calls Tryz.prog 72 #[.int .u32 x] w fun e w' => RdP e (spLoad x) ∧ Kp w w' := by
  have brd := fl_bd x 128 32 (by omega)
  have bf3 := fl_bd x 4096 8 (by omega)
  have br1 := fl_bd x 32768 32 (by omega)
  have br2 := fl_bd x 1048576 32 (by omega)
  have bf7 := fl_bd x 33554432 128 (by omega)
  go_enter Tryz.func72, Tryz.ntmps72
  go_wp2_with (first | (go_at_call 117; with_reducible refine (f3_w x x0 x1 _).mono ?_; rintro e' w1 ⟨rfl, rfl⟩) | (go_at_call 118; with_reducible refine (rd_w x x0 x1 _).mono ?_; rintro e' w1 ⟨rfl, rfl⟩) | (go_at_call 119; with_reducible refine (rs1_w x x0 x1 _).mono ?_; rintro e' w1 ⟨rfl, rfl⟩) | (go_at_call 120; with_reducible refine (immI_w x x0 x1 _).mono ?_; rintro e' w1 ⟨rfl, rfl⟩))
  refine bodyPost_ret (v := .tuple #[Ins.v ⟨6, 0, (fl x 128 32), (fl x 32768 32), 0, iI x, (fl x 4096 8), false, false⟩ 0 0, .bool (decide ((fl x 4096 8) ≤ 6))]) (by simp [results, Tryz.results72, go_sem, Ins.v]) rfl ⟨RdP.mk ⟨6, 0, (fl x 128 32), (fl x 32768 32), 0, iI x, (fl x 4096 8), false, false⟩ (decide ((fl x 4096 8) ≤ 6)) rfl (by unfold spLoad; split <;> simp <;> omega), by (repeat' (first | with_reducible refine Kp.setCell ?_ ?_ _ | with_reducible refine Kp.allocs ?_ _ _ | with_reducible refine Kp.drew ?_ | with_reducible refine Kp.drewN ?_ _)); all_goals first | exact Kp.refl w | (dsimp only; omega)⟩
set_option maxHeartbeats 2000000 in
theorem store_w (x : Int) (x0 : 0 ≤ x) (x1 : x < 4294967296) (w : World) :
    Calls Tryz.prog 77 #[.int .u32 x] w fun e w' => RdP e (spStore x) ∧ Kp w w' := by
  have brd := fl_bd x 128 32 (by omega)
  have bf3 := fl_bd x 4096 8 (by omega)
  have br1 := fl_bd x 32768 32 (by omega)
  have br2 := fl_bd x 1048576 32 (by omega)
  have bf7 := fl_bd x 33554432 128 (by omega)
  go_enter Tryz.func77, Tryz.ntmps77
  go_wp2_with (first | (go_at_call 117; with_reducible refine (f3_w x x0 x1 _).mono ?_; rintro e' w1 ⟨rfl, rfl⟩) | (go_at_call 119; with_reducible refine (rs1_w x x0 x1 _).mono ?_; rintro e' w1 ⟨rfl, rfl⟩) | (go_at_call 127; with_reducible refine (rs2_w x x0 x1 _).mono ?_; rintro e' w1 ⟨rfl, rfl⟩) | (go_at_call 128; with_reducible refine (immS_w x x0 x1 _).mono ?_; rintro e' w1 ⟨rfl, rfl⟩))
  refine bodyPost_ret (v := .tuple #[Ins.v ⟨7, 0, 0, (fl x 32768 32), (fl x 1048576 32), iS x, (fl x 4096 8), false, false⟩ 0 0, .bool (decide ((fl x 4096 8) ≤ 3))]) (by simp [results, Tryz.results77, go_sem, Ins.v]) rfl ⟨RdP.mk ⟨7, 0, 0, (fl x 32768 32), (fl x 1048576 32), iS x, (fl x 4096 8), false, false⟩ (decide ((fl x 4096 8) ≤ 3)) rfl (by unfold spStore; split <;> simp <;> omega), by (repeat' (first | with_reducible refine Kp.setCell ?_ ?_ _ | with_reducible refine Kp.allocs ?_ _ _ | with_reducible refine Kp.drew ?_ | with_reducible refine Kp.drewN ?_ _)); all_goals first | exact Kp.refl w | (dsimp only; omega)⟩
set_option maxHeartbeats 2000000 in
theorem jal_w (x : Int) (x0 : 0 ≤ x) (x1 : x < 4294967296) (w : World) :
    Calls Tryz.prog 82 #[.int .u32 x] w fun e w' => RdP e (spJal x) ∧ Kp w w' := by
  have brd := fl_bd x 128 32 (by omega)
  have bf3 := fl_bd x 4096 8 (by omega)
  have br1 := fl_bd x 32768 32 (by omega)
  have br2 := fl_bd x 1048576 32 (by omega)
  have bf7 := fl_bd x 33554432 128 (by omega)
  go_enter Tryz.func82, Tryz.ntmps82
  go_wp2_with (first | (go_at_call 118; with_reducible refine (rd_w x x0 x1 _).mono ?_; rintro e' w1 ⟨rfl, rfl⟩) | (go_at_call 131; with_reducible refine (immJ_w x x0 x1 _).mono ?_; rintro e' w1 ⟨rfl, rfl⟩))
  refine bodyPost_ret (v := .tuple #[Ins.v ⟨3, 0, (fl x 128 32), 0, 0, iJ x, 0, false, false⟩ 0 0, .bool (true)]) (by simp [results, Tryz.results82, go_sem, Ins.v]) rfl ⟨RdP.mk ⟨3, 0, (fl x 128 32), 0, 0, iJ x, 0, false, false⟩ (true) rfl (rfl), by (repeat' (first | with_reducible refine Kp.setCell ?_ ?_ _ | with_reducible refine Kp.allocs ?_ _ _ | with_reducible refine Kp.drew ?_ | with_reducible refine Kp.drewN ?_ _)); all_goals first | exact Kp.refl w | (dsimp only; omega)⟩
set_option maxHeartbeats 2000000 in
theorem jalr_w (x : Int) (x0 : 0 ≤ x) (x1 : x < 4294967296) (w : World) :
    Calls Tryz.prog 81 #[.int .u32 x] w fun e w' => RdP e (spJalr x) ∧ Kp w w' := by
  have brd := fl_bd x 128 32 (by omega)
  have bf3 := fl_bd x 4096 8 (by omega)
  have br1 := fl_bd x 32768 32 (by omega)
  have br2 := fl_bd x 1048576 32 (by omega)
  have bf7 := fl_bd x 33554432 128 (by omega)
  go_enter Tryz.func81, Tryz.ntmps81
  go_wp2_with (first | (go_at_call 117; with_reducible refine (f3_w x x0 x1 _).mono ?_; rintro e' w1 ⟨rfl, rfl⟩) | (go_at_call 118; with_reducible refine (rd_w x x0 x1 _).mono ?_; rintro e' w1 ⟨rfl, rfl⟩) | (go_at_call 119; with_reducible refine (rs1_w x x0 x1 _).mono ?_; rintro e' w1 ⟨rfl, rfl⟩) | (go_at_call 120; with_reducible refine (immI_w x x0 x1 _).mono ?_; rintro e' w1 ⟨rfl, rfl⟩))
  refine bodyPost_ret (v := .tuple #[Ins.v ⟨4, 0, (fl x 128 32), (fl x 32768 32), 0, iI x, 0, false, false⟩ 0 0, .bool ((fl x 4096 8) == 0)]) (by simp [results, Tryz.results81, go_sem, Ins.v]) rfl ⟨RdP.mk ⟨4, 0, (fl x 128 32), (fl x 32768 32), 0, iI x, 0, false, false⟩ ((fl x 4096 8) == 0) rfl (by unfold spJalr; split <;> simp [*]), by (repeat' (first | with_reducible refine Kp.setCell ?_ ?_ _ | with_reducible refine Kp.allocs ?_ _ _ | with_reducible refine Kp.drew ?_ | with_reducible refine Kp.drewN ?_ _)); all_goals first | exact Kp.refl w | (dsimp only; omega)⟩
end Go.Proofs.YtlfeandnpflaaaaGreatDoor
