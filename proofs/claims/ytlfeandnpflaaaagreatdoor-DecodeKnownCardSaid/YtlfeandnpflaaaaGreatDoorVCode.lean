/-
  Contracts of rvc's small functions: fields, registers, numbers, words. No condition but what the tables hold.
-/
import Derived.Test.YtlfeandnpflaaaaGreatDoorMD
namespace Go.Proofs.YtlfeandnpflaaaaGreatDoor
open Go.ChangeShapes Go.WideShapes Go.ChangeAt Go.RowKit
set_option linter.unusedVariables false
set_option linter.unusedSimpArgs false
theorem vf_1_0 (x : Nat) (hx : x < 65536) (w : World) :
    Calls Tryz.prog 71 #[.int .u16 (x : Int), .int .u64 1, .int .u64 0] w fun e w' => e = .returned (.int .u32 ((x / 1 % 4 : Nat) : Int)) ∧ w = w' := by
  go_enter Tryz.func71, Tryz.ntmps71
  go_wp2
  go_ret
  exact ⟨ret_int (by (try simp only [IntKind.wrap_u16]); omega), rfl⟩
theorem vf_15_13 (x : Nat) (hx : x < 65536) (w : World) :
    Calls Tryz.prog 71 #[.int .u16 (x : Int), .int .u64 15, .int .u64 13] w fun e w' => e = .returned (.int .u32 ((x / 8192 % 8 : Nat) : Int)) ∧ w = w' := by
  go_enter Tryz.func71, Tryz.ntmps71
  go_wp2
  go_ret
  exact ⟨ret_int (by (try simp only [IntKind.wrap_u16]); omega), rfl⟩
theorem vf_12_12 (x : Nat) (hx : x < 65536) (w : World) :
    Calls Tryz.prog 71 #[.int .u16 (x : Int), .int .u64 12, .int .u64 12] w fun e w' => e = .returned (.int .u32 ((x / 4096 % 2 : Nat) : Int)) ∧ w = w' := by
  go_enter Tryz.func71, Tryz.ntmps71
  go_wp2
  go_ret
  exact ⟨ret_int (by (try simp only [IntKind.wrap_u16]); omega), rfl⟩
theorem vf_11_7 (x : Nat) (hx : x < 65536) (w : World) :
    Calls Tryz.prog 71 #[.int .u16 (x : Int), .int .u64 11, .int .u64 7] w fun e w' => e = .returned (.int .u32 ((x / 128 % 32 : Nat) : Int)) ∧ w = w' := by
  go_enter Tryz.func71, Tryz.ntmps71
  go_wp2
  go_ret
  exact ⟨ret_int (by (try simp only [IntKind.wrap_u16]); omega), rfl⟩
theorem vf_6_2 (x : Nat) (hx : x < 65536) (w : World) :
    Calls Tryz.prog 71 #[.int .u16 (x : Int), .int .u64 6, .int .u64 2] w fun e w' => e = .returned (.int .u32 ((x / 4 % 32 : Nat) : Int)) ∧ w = w' := by
  go_enter Tryz.func71, Tryz.ntmps71
  go_wp2
  go_ret
  exact ⟨ret_int (by (try simp only [IntKind.wrap_u16]); omega), rfl⟩
theorem vf_9_7 (x : Nat) (hx : x < 65536) (w : World) :
    Calls Tryz.prog 71 #[.int .u16 (x : Int), .int .u64 9, .int .u64 7] w fun e w' => e = .returned (.int .u32 ((x / 128 % 8 : Nat) : Int)) ∧ w = w' := by
  go_enter Tryz.func71, Tryz.ntmps71
  go_wp2
  go_ret
  exact ⟨ret_int (by (try simp only [IntKind.wrap_u16]); omega), rfl⟩
theorem vf_4_2 (x : Nat) (hx : x < 65536) (w : World) :
    Calls Tryz.prog 71 #[.int .u16 (x : Int), .int .u64 4, .int .u64 2] w fun e w' => e = .returned (.int .u32 ((x / 4 % 8 : Nat) : Int)) ∧ w = w' := by
  go_enter Tryz.func71, Tryz.ntmps71
  go_wp2
  go_ret
  exact ⟨ret_int (by (try simp only [IntKind.wrap_u16]); omega), rfl⟩
theorem vf_11_10 (x : Nat) (hx : x < 65536) (w : World) :
    Calls Tryz.prog 71 #[.int .u16 (x : Int), .int .u64 11, .int .u64 10] w fun e w' => e = .returned (.int .u32 ((x / 1024 % 4 : Nat) : Int)) ∧ w = w' := by
  go_enter Tryz.func71, Tryz.ntmps71
  go_wp2
  go_ret
  exact ⟨ret_int (by (try simp only [IntKind.wrap_u16]); omega), rfl⟩
theorem vf_6_5 (x : Nat) (hx : x < 65536) (w : World) :
    Calls Tryz.prog 71 #[.int .u16 (x : Int), .int .u64 6, .int .u64 5] w fun e w' => e = .returned (.int .u32 ((x / 32 % 4 : Nat) : Int)) ∧ w = w' := by
  go_enter Tryz.func71, Tryz.ntmps71
  go_wp2
  go_ret
  exact ⟨ret_int (by (try simp only [IntKind.wrap_u16]); omega), rfl⟩

theorem vlow_w (x : Nat) (hx : x < 65536) (w : World) :
    Calls Tryz.prog 29 #[.int .u16 (x : Int)] w fun e w' => e = .returned (.int .u32 ((x % 4 : Nat) : Int)) ∧ w = w' := by
  go_enter Tryz.func29, Tryz.ntmps29
  go_wp2_with (go_at_call 71; with_reducible refine (vf_1_0 x hx _).mono ?_; rintro e' w1 ⟨rfl, rfl⟩)
  go_ret
  exact ⟨ret_int (by omega), rfl⟩
theorem vhigh_w (x : Nat) (hx : x < 65536) (w : World) :
    Calls Tryz.prog 30 #[.int .u16 (x : Int)] w fun e w' => e = .returned (.int .u32 ((x / 8192 : Nat) : Int)) ∧ w = w' := by
  go_enter Tryz.func30, Tryz.ntmps30
  go_wp2_with (go_at_call 71; with_reducible refine (vf_15_13 x hx _).mono ?_; rintro e' w1 ⟨rfl, rfl⟩)
  go_ret
  exact ⟨ret_int (by omega), rfl⟩
theorem vb12_w (x : Nat) (hx : x < 65536) (w : World) :
    Calls Tryz.prog 114 #[.int .u16 (x : Int)] w fun e w' => e = .returned (.int .u32 ((x / 4096 % 2 : Nat) : Int)) ∧ w = w' := by
  go_enter Tryz.func114, Tryz.ntmps114
  go_wp2_with (go_at_call 71; with_reducible refine (vf_12_12 x hx _).mono ?_; rintro e' w1 ⟨rfl, rfl⟩)
  go_ret
  exact ⟨ret_int (by rfl), rfl⟩

theorem vrd_w (x : Nat) (hx : x < 65536) (w : World) :
    Calls Tryz.prog 107 #[.int .u16 (x : Int)] w fun e w' => e = .returned (.int .u32 ((rD x : Nat) : Int)) ∧ w = w' := by
  go_enter Tryz.func107, Tryz.ntmps107
  go_wp2_with (go_at_call 71; with_reducible refine (vf_11_7 x hx _).mono ?_; rintro e' w1 ⟨rfl, rfl⟩)
  go_ret
  exact ⟨ret_int (by rfl), rfl⟩
theorem vrs_w (x : Nat) (hx : x < 65536) (w : World) :
    Calls Tryz.prog 113 #[.int .u16 (x : Int)] w fun e w' => e = .returned (.int .u32 ((rS x : Nat) : Int)) ∧ w = w' := by
  go_enter Tryz.func113, Tryz.ntmps113
  go_wp2_with (go_at_call 71; with_reducible refine (vf_6_2 x hx _).mono ?_; rintro e' w1 ⟨rfl, rfl⟩)
  go_ret
  exact ⟨ret_int (by rfl), rfl⟩
theorem vnd_w (x : Nat) (hx : x < 65536) (w : World) :
    Calls Tryz.prog 104 #[.int .u16 (x : Int)] w fun e w' => e = .returned (.int .u32 ((nD x : Nat) : Int)) ∧ w = w' := by
  go_enter Tryz.func104, Tryz.ntmps104
  go_wp2_with (go_at_call 71; with_reducible refine (vf_9_7 x hx _).mono ?_; rintro e' w1 ⟨rfl, rfl⟩)
  go_ret
  exact ⟨ret_int (by unfold nD; omega), rfl⟩
theorem vns_w (x : Nat) (hx : x < 65536) (w : World) :
    Calls Tryz.prog 102 #[.int .u16 (x : Int)] w fun e w' => e = .returned (.int .u32 ((nS x : Nat) : Int)) ∧ w = w' := by
  go_enter Tryz.func102, Tryz.ntmps102
  go_wp2_with (go_at_call 71; with_reducible refine (vf_4_2 x hx _).mono ?_; rintro e' w1 ⟨rfl, rfl⟩)
  go_ret
  exact ⟨ret_int (by unfold nS; omega), rfl⟩

theorem cpH_lt' (t : List Int) (x k T : Nat) (h : ∀ i, i < 11 → t.getD i 0 ≤ T) (hk : k ≤ 11) : cpH t x k < 2 ^ (T + 1) := by
  induction k with
  | zero => exact Nat.two_pow_pos _
  | succ i ih =>
    have ih := ih (by omega)
    have ht := h i (by omega)
    simp only [cpH]
    split
    · rename_i k e
      exact Nat.or_lt_two_pow ih (bit_lt _ _ _ (by rw [e] at ht; simp at ht; omega))
    · exact ih
theorem nm_lt (k T x : Nat) (hk : k < 12) (h : ∀ i, i < 11 → (inH.getD k []).getD i 0 ≤ (T : Int)) : nm k x < 2 ^ (T + 1) := cpH_lt' _ _ _ _ h (by omega)
theorem nm_32 (k x : Nat) (hk : k < 12) : nm k x < 4294967296 := cpH_lt _ _ _ (inH_bd k hk) (by omega)
theorem ly_32 (a n : Nat) : ly a n < 2 ^ 32 := cpW_lt _ _ _ (by omega)
theorem num_w (k : Nat) (hk : k < 12) (x : Nat) (hx : x < 65536) (w : World) (tb : Tb w) :
    Calls Tryz.prog 99 #[.int .u16 (x : Int), .int .i64 (k : Int)] w fun e w' => e = .returned (.int .u32 ((nm k x : Nat) : Int)) ∧ w = w' :=
  (number_w k hk x (by omega) (by omega) w tb).mono fun e w' h => by simpa [nm] using h
theorem layw_w (a n : Nat) (ha : a < 5) (hn : n < 4294967296) (w : World) (tb : Tb w) :
    Calls Tryz.prog 136 #[.int .i64 (a : Int), .int .u32 (n : Int)] w fun e w' => e = .returned (.int .u32 ((ly a n : Nat) : Int)) ∧ w = w' :=
  (lay_w a ha n (by omega) (by omega) w tb).mono fun e w' h => by simpa [ly] using h
theorem sgn_0 (x : Nat) (hx : x < 65536) (w : World) (tb : Tb w) :
    Calls Tryz.prog 108 #[.int .u16 (x : Int), .int .i64 0] w fun e w' => e = .returned (.int .u32 ((sg 5 (nm 0 x) : Nat) : Int)) ∧ w = w' := by
  have c := tb.hf 0 0 (by omega) (by omega)
  simp only [inH, List.getD_cons_zero, List.getD_cons_succ] at c
  have hn : nm 0 x < 2 ^ 6 := nm_lt 0 5 x (by omega) (by decide)
  have TB := Lib.hid tb
  clear tb
  go_enter Tryz.func108, Tryz.ntmps108
  go_wp2_with (go_at_call 99; have c := (num_w 0 (by decide) x hx w TB.out); simp only [Int.cast_ofNat_Int, Int.natCast_zero, Int.natCast_one] at c; with_reducible refine c.mono ?_; rintro e' w1 ⟨rfl, rfl⟩)
  go_ret
  refine ⟨ret_int ?_, rfl⟩
  unfold sg
  generalize nm 0 x = n at *
  (try unfold wrap32)
  split <;> omega
theorem sgn_1 (x : Nat) (hx : x < 65536) (w : World) (tb : Tb w) :
    Calls Tryz.prog 108 #[.int .u16 (x : Int), .int .i64 1] w fun e w' => e = .returned (.int .u32 ((sg 17 (nm 1 x) : Nat) : Int)) ∧ w = w' := by
  have c := tb.hf 1 0 (by omega) (by omega)
  simp only [inH, List.getD_cons_zero, List.getD_cons_succ] at c
  have hn : nm 1 x < 2 ^ 18 := nm_lt 1 17 x (by omega) (by decide)
  have TB := Lib.hid tb
  clear tb
  go_enter Tryz.func108, Tryz.ntmps108
  go_wp2_with (go_at_call 99; have c := (num_w 1 (by decide) x hx w TB.out); simp only [Int.cast_ofNat_Int, Int.natCast_zero, Int.natCast_one] at c; with_reducible refine c.mono ?_; rintro e' w1 ⟨rfl, rfl⟩)
  go_ret
  refine ⟨ret_int ?_, rfl⟩
  unfold sg
  generalize nm 1 x = n at *
  (try unfold wrap32)
  split <;> omega
theorem sgn_2 (x : Nat) (hx : x < 65536) (w : World) (tb : Tb w) :
    Calls Tryz.prog 108 #[.int .u16 (x : Int), .int .i64 2] w fun e w' => e = .returned (.int .u32 ((sg 9 (nm 2 x) : Nat) : Int)) ∧ w = w' := by
  have c := tb.hf 2 0 (by omega) (by omega)
  simp only [inH, List.getD_cons_zero, List.getD_cons_succ] at c
  have hn : nm 2 x < 2 ^ 10 := nm_lt 2 9 x (by omega) (by decide)
  have TB := Lib.hid tb
  clear tb
  go_enter Tryz.func108, Tryz.ntmps108
  go_wp2_with (go_at_call 99; have c := (num_w 2 (by decide) x hx w TB.out); simp only [Int.cast_ofNat_Int, Int.natCast_zero, Int.natCast_one] at c; with_reducible refine c.mono ?_; rintro e' w1 ⟨rfl, rfl⟩)
  go_ret
  refine ⟨ret_int ?_, rfl⟩
  unfold sg
  generalize nm 2 x = n at *
  (try unfold wrap32)
  split <;> omega
theorem sgn_10 (x : Nat) (hx : x < 65536) (w : World) (tb : Tb w) :
    Calls Tryz.prog 108 #[.int .u16 (x : Int), .int .i64 10] w fun e w' => e = .returned (.int .u32 ((sg 11 (nm 10 x) : Nat) : Int)) ∧ w = w' := by
  have c := tb.hf 10 0 (by omega) (by omega)
  simp only [inH, List.getD_cons_zero, List.getD_cons_succ] at c
  have hn : nm 10 x < 2 ^ 12 := nm_lt 10 11 x (by omega) (by decide)
  have TB := Lib.hid tb
  clear tb
  go_enter Tryz.func108, Tryz.ntmps108
  go_wp2_with (go_at_call 99; have c := (num_w 10 (by decide) x hx w TB.out); simp only [Int.cast_ofNat_Int, Int.natCast_zero, Int.natCast_one] at c; with_reducible refine c.mono ?_; rintro e' w1 ⟨rfl, rfl⟩)
  go_ret
  refine ⟨ret_int ?_, rfl⟩
  unfold sg
  generalize nm 10 x = n at *
  (try unfold wrap32)
  split <;> omega
theorem sgn_11 (x : Nat) (hx : x < 65536) (w : World) (tb : Tb w) :
    Calls Tryz.prog 108 #[.int .u16 (x : Int), .int .i64 11] w fun e w' => e = .returned (.int .u32 ((sg 8 (nm 11 x) : Nat) : Int)) ∧ w = w' := by
  have c := tb.hf 11 0 (by omega) (by omega)
  simp only [inH, List.getD_cons_zero, List.getD_cons_succ] at c
  have hn : nm 11 x < 2 ^ 9 := nm_lt 11 8 x (by omega) (by decide)
  have TB := Lib.hid tb
  clear tb
  go_enter Tryz.func108, Tryz.ntmps108
  go_wp2_with (go_at_call 99; have c := (num_w 11 (by decide) x hx w TB.out); simp only [Int.cast_ofNat_Int, Int.natCast_zero, Int.natCast_one] at c; with_reducible refine c.mono ?_; rintro e' w1 ⟨rfl, rfl⟩)
  go_ret
  refine ⟨ret_int ?_, rfl⟩
  unfold sg
  generalize nm 11 x = n at *
  (try unfold wrap32)
  split <;> omega

theorem sg_lt (t n : Nat) (ht : t < 31) (hn : n < 4294967296) (h : n < 2 ^ (t + 1)) : sg t n < 4294967296 := by
  unfold sg
  have : 2 ^ (t + 1) ≤ 2 ^ 31 := Nat.pow_le_pow_right (by omega) (by omega)
  split <;> omega
theorem R5_or (op f3 rd r1 r2 : Nat) (ho : op < 128) (hf : f3 < 8) (hd : rd < 32) (h1 : r1 < 32) (h2 : r2 < 32) :
    r2 * 1048576 ||| r1 * 32768 ||| f3 * 4096 ||| rd * 128 ||| op = R5 op f3 rd r1 r2 := by
  have e1 := Nat.two_pow_add_eq_or_of_lt (i := 20) (b := r1 * 32768) (by omega) r2
  have e2 := Nat.two_pow_add_eq_or_of_lt (i := 15) (b := f3 * 4096) (by omega) (r2 * 32 + r1)
  have e3 := Nat.two_pow_add_eq_or_of_lt (i := 12) (b := rd * 128) (by omega) (r2 * 256 + r1 * 8 + f3)
  have e4 := Nat.two_pow_add_eq_or_of_lt (i := 7) (b := op) (by omega) (r2 * 8192 + r1 * 256 + f3 * 32 + rd)
  rw [show r2 * 1048576 = 2 ^ 20 * r2 by omega, ← e1, show 2 ^ 20 * r2 + r1 * 32768 = 2 ^ 15 * (r2 * 32 + r1) by omega, ← e2,
    show 2 ^ 15 * (r2 * 32 + r1) + f3 * 4096 = 2 ^ 12 * (r2 * 256 + r1 * 8 + f3) by omega, ← e3, show 2 ^ 12 * (r2 * 256 + r1 * 8 + f3) + rd * 128 = 2 ^ 7 * (r2 * 8192 + r1 * 256 + f3 * 32 + rd) by omega, ← e4]
  unfold R5; omega
theorem R5_32 (op f3 rd r1 r2 : Nat) (ho : op < 128) (hf : f3 < 8) (hd : rd < 32) (h1 : r1 < 32) (h2 : r2 < 32) : R5 op f3 rd r1 r2 < 2 ^ 32 := by unfold R5; omega
theorem wR_w (op f3 rd r1 r2 : Nat) (ho : op < 128) (hf : f3 < 8) (hd : rd < 32) (h1 : r1 < 32) (h2 : r2 < 32) (w : World) :
    Calls Tryz.prog 115 #[.int .u32 (op : Int), .int .u32 (f3 : Int), .int .u32 (rd : Int), .int .u32 (r1 : Int), .int .u32 (r2 : Int)] w fun e w' => e = .returned (.int .u32 ((R5 op f3 rd r1 r2 : Nat) : Int)) ∧ w = w' := by
  go_enter Tryz.func115, Tryz.ntmps115
  go_wp2
  go_ret
  refine ⟨ret_int ?_, rfl⟩
  rw [← R5_or op f3 rd r1 r2 ho hf hd h1 h2]
  have b1 : r2 * 1048576 ||| r1 * 32768 < 2 ^ 32 := Nat.or_lt_two_pow (by omega) (by omega)
  have b2 : r2 * 1048576 ||| r1 * 32768 ||| f3 * 4096 < 2 ^ 32 := Nat.or_lt_two_pow b1 (by omega)
  have b3 : r2 * 1048576 ||| r1 * 32768 ||| f3 * 4096 ||| rd * 128 < 2 ^ 32 := Nat.or_lt_two_pow b2 (by omega)
  rw [show (r2 : Int) * 1048576 = ((r2 * 1048576 : Nat) : Int) by omega, show (r1 : Int) * 32768 = ((r1 * 32768 : Nat) : Int) by omega,
    show (f3 : Int) * 4096 = ((f3 * 4096 : Nat) : Int) by omega, show (rd : Int) * 128 = ((rd * 128 : Nat) : Int) by omega,
    or32 _ _ (by omega) (by omega), or32 _ _ b1 (by omega), or32 _ _ b2 (by omega), or32 _ _ b3 (by omega)]
theorem wI_w (op f3 rd r1 n : Nat) (ho : op < 128) (hf : f3 < 8) (hd : rd < 32) (h1 : r1 < 32) (hn : n < 4294967296) (w : World) (tb : Tb w) :
    Calls Tryz.prog 101 #[.int .u32 (op : Int), .int .u32 (f3 : Int), .int .u32 (rd : Int), .int .u32 (r1 : Int), .int .u32 (n : Int)] w fun e w' => e = .returned (.int .u32 ((wI op f3 rd r1 n : Nat) : Int)) ∧ w = w' := by
  have TB := Lib.hid tb
  clear tb
  go_enter Tryz.func101, Tryz.ntmps101
  go_wp2_with (first | (go_at_call 115; have c := wR_w op f3 rd r1 0 ho hf hd h1 (by decide) w; (try simp only [Int.cast_ofNat_Int, Int.natCast_zero, Int.natCast_one] at c); with_reducible refine c.mono ?_; rintro e' w1 ⟨rfl, rfl⟩) | (go_at_call 136; have c := layw_w 0 n (by decide) hn w TB.out; (try simp only [Int.cast_ofNat_Int, Int.natCast_zero, Int.natCast_one] at c); with_reducible refine c.mono ?_; rintro e' w1 ⟨rfl, rfl⟩))
  go_ret
  exact ⟨ret_int (or32 _ _ (R5_32 _ _ _ _ _ ho hf hd h1 (by decide)) (ly_32 _ _)), rfl⟩
theorem wSB_w (op a f3 r1 r2 n : Nat) (ho : op < 128) (ha : a < 5) (hf : f3 < 8) (h1 : r1 < 32) (h2 : r2 < 32) (hn : n < 4294967296) (w : World) (tb : Tb w) :
    Calls Tryz.prog 106 #[.int .u32 (op : Int), .int .i64 (a : Int), .int .u32 (f3 : Int), .int .u32 (r1 : Int), .int .u32 (r2 : Int), .int .u32 (n : Int)] w fun e w' => e = .returned (.int .u32 ((wSB op a f3 r1 r2 n : Nat) : Int)) ∧ w = w' := by
  have TB := Lib.hid tb
  clear tb
  go_enter Tryz.func106, Tryz.ntmps106
  go_wp2_with (first | (go_at_call 115; have c := wR_w op f3 0 r1 r2 ho hf (by decide) h1 h2 w; (try simp only [Int.cast_ofNat_Int, Int.natCast_zero, Int.natCast_one] at c); with_reducible refine c.mono ?_; rintro e' w1 ⟨rfl, rfl⟩) | (go_at_call 136; have c := layw_w a n ha hn w TB.out; (try simp only [Int.cast_ofNat_Int, Int.natCast_zero, Int.natCast_one] at c); with_reducible refine c.mono ?_; rintro e' w1 ⟨rfl, rfl⟩))
  go_ret
  exact ⟨ret_int (or32 _ _ (R5_32 _ _ _ _ _ ho hf (by decide) h1 h2) (ly_32 _ _)), rfl⟩
theorem wUJ_w (op a rd n : Nat) (ho : op < 128) (ha : a < 5) (hd : rd < 32) (hn : n < 4294967296) (w : World) (tb : Tb w) :
    Calls Tryz.prog 109 #[.int .u32 (op : Int), .int .i64 (a : Int), .int .u32 (rd : Int), .int .u32 (n : Int)] w fun e w' => e = .returned (.int .u32 ((wUJ op a rd n : Nat) : Int)) ∧ w = w' := by
  have TB := Lib.hid tb
  clear tb
  go_enter Tryz.func109, Tryz.ntmps109
  go_wp2_with (first | (go_at_call 115; have c := wR_w op 0 rd 0 0 ho (by decide) hd (by decide) (by decide) w; (try simp only [Int.cast_ofNat_Int, Int.natCast_zero, Int.natCast_one] at c); with_reducible refine c.mono ?_; rintro e' w1 ⟨rfl, rfl⟩) | (go_at_call 136; have c := layw_w a n ha hn w TB.out; (try simp only [Int.cast_ofNat_Int, Int.natCast_zero, Int.natCast_one] at c); with_reducible refine c.mono ?_; rintro e' w1 ⟨rfl, rfl⟩))
  go_ret
  exact ⟨ret_int (or32 _ _ (R5_32 _ _ _ _ _ ho (by decide) hd (by decide) (by decide)) (ly_32 _ _)), rfl⟩
/-- A word, or none. -/
def VR : Option Nat → Value
  | none => .tuple #[.int .u32 0, .bool false]
  | some v => .tuple #[.int .u32 (v : Int), .bool true]
theorem unl_w (b : Bool) (v : Nat) (w : World) :
    Calls Tryz.prog 100 #[.bool b, .int .u32 (v : Int)] w fun e w' => e = .returned (VR (unl b v)) ∧ w = w' := by
  cases b
  · go_enter Tryz.func100, Tryz.ntmps100
    go_wp2
    go_ret2
    exact ⟨rfl, rfl⟩
  · go_enter Tryz.func100, Tryz.ntmps100
    go_wp2
    go_ret2
    exact ⟨rfl, rfl⟩
end Go.Proofs.YtlfeandnpflaaaaGreatDoor
