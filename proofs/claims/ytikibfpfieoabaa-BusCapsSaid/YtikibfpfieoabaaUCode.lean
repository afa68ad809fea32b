/-
  The program's UART and switch: their calls. No condition.
-/
import Derived.Test.YtikibfpfieoabaaUObj
namespace Go.Proofs.Ytikibfpfieoabaa
open Go.ChangeShapes Go.WideShapes Go.ChangeAt Go.RowKit
set_option linter.unusedVariables false
set_option linter.unusedSimpArgs false
/-- What the calls lean on in a world: no table. -/
structure UTb (w : World) : Prop where
  any : w.heap.size = w.heap.size
theorem UTb.below {w w' : World} (h : UTb w) (k : Below w.heap.size w w') : UTb w' := ⟨rfl⟩
theorem UTb.h1 {w w' : World} (h : Hid (UTb w)) (k : Hid (Below w.heap.size w w')) : UTb w' := h.out.below k.out
theorem utb_any (w : World) : UTb w := ⟨rfl⟩
/-- A UART of the program's: its blocks stand from lo on, below hi. -/
structure Un (w : World) (lo hi g : Nat) (S : US) : Prop where
  top : hi ≤ w.heap.size
  bot : lo ≤ g
  gh : g < hi
  cu : CU w g S
theorem Un.fr {w w' : World} {lo hi g : Nat} {S : US} {R : Nat → Prop} (m : Un w lo hi g S) (k : Fr w w' R) (h : ∀ i, lo ≤ i → i < hi → ¬ R i) : Un w' lo hi g S :=
  ⟨Nat.le_trans m.top k.size, m.bot, m.gh, m.cu.fr k (h g m.bot m.gh)⟩
/-- A switch of the program's. -/
structure Pn (w : World) (lo hi g : Nat) (p : Bool) : Prop where
  top : hi ≤ w.heap.size
  bot : lo ≤ g
  gh : g < hi
  rw : RW w g p
theorem Pn.fr {w w' : World} {lo hi g : Nat} {p : Bool} {R : Nat → Prop} (m : Pn w lo hi g p) (k : Fr w w' R) (h : ∀ i, lo ≤ i → i < hi → ¬ R i) : Pn w' lo hi g p :=
  ⟨Nat.le_trans m.top k.size, m.bot, m.gh, m.rw.fr k (h g m.bot m.gh)⟩
theorem Un.up {w w' : World} {lo hi g : Nat} {S S' : US} (m : Un w lo hi g S) (c : CU w' g S') (k : Fr w w' (fun i => i = g)) : Un w' lo hi g S' ∧ Fr w w' (Rg lo hi) :=
  ⟨⟨Nat.le_trans m.top k.size, m.bot, m.gh, c⟩, k.mono (fun i _ h => by subst h; exact ⟨m.bot, m.gh⟩)⟩
theorem Pn.up {w w' : World} {lo hi g : Nat} {p p' : Bool} (m : Pn w lo hi g p) (c : RW w' g p') (k : Fr w w' (fun i => i = g)) : Pn w' lo hi g p' ∧ Fr w w' (Rg lo hi) :=
  ⟨⟨Nat.le_trans m.top k.size, m.bot, m.gh, c⟩, k.mono (fun i _ h => by subst h; exact ⟨m.bot, m.gh⟩)⟩
set_option maxHeartbeats 4000000 in
theorem cunew_w (w : World) (tb : UTb w) : Calls Try.prog 22 #[] w fun e w' => ∃ g, e = .returned (.pointer (some ⟨g, 0, none⟩)) ∧ Un w' w.heap.size w'.heap.size g US.new ∧ Below w.heap.size w w' := by
  go_enter Try.func22, Try.ntmps22
  go_wp2
  have b := Blk.new w 104 [.int .u8 0, .int .u8 0, .int .u8 0, .int .u8 0, .int .u8 0, .int .u8 0, .int .u8 0, .int .u8 0, .int .u8 0, .int .u8 0, .int .u8 0, .int .u8 0, .int .u8 0, .int .u8 0, .int .u8 0, .int .u8 0, .int .i64 0, .int .i64 0, .bool false, .int .i64 (-1)]
  have a := b.at_
  refine bodyPost_ret (v := .pointer (some ⟨w.heap.size, 0, none⟩)) ?_ rfl ⟨_, rfl, ⟨Nat.le_refl _, Nat.le_refl _, b.lt, ⟨⟨0, ⟨b.lt, b.frozen, by decide, fun i hi => ⟨0, a i _ ?_⟩, fun i x h => by simp [US.new] at h⟩, a 16 _ rfl⟩, a 17 _ rfl, a 18 _ rfl, a 19 _ rfl⟩⟩, (Below.refl _ w).alloc (Nat.le_refl _) _⟩
  · simp [results, Try.results22, go_sem]
  · rcases (show i = 0 ∨ i = 1 ∨ i = 2 ∨ i = 3 ∨ i = 4 ∨ i = 5 ∨ i = 6 ∨ i = 7 ∨ i = 8 ∨ i = 9 ∨ i = 10 ∨ i = 11 ∨ i = 12 ∨ i = 13 ∨ i = 14 ∨ i = 15 by omega) with rfl | rfl | rfl | rfl | rfl | rfl | rfl | rfl | rfl | rfl | rfl | rfl | rfl | rfl | rfl | rfl <;> rfl
theorem cpwnew_w (w : World) (tb : UTb w) : Calls Try.prog 23 #[] w fun e w' => ∃ g, e = .returned (.pointer (some ⟨g, 0, none⟩)) ∧ Pn w' w.heap.size w'.heap.size g false ∧ Below w.heap.size w w' := by
  go_enter Try.func23, Try.ntmps23
  go_wp2
  have b := Blk.new w 77 [.bool false]
  refine bodyPost_ret (v := .pointer (some ⟨w.heap.size, 0, none⟩)) ?_ rfl ⟨_, rfl, ⟨Nat.le_refl _, Nat.le_refl _, b.lt, ⟨b.lt, b.frozen, b.at_ 0 _ rfl⟩⟩, (Below.refl _ w).alloc (Nat.le_refl _) _⟩
  simp [results, Try.results23, go_sem]
theorem cuwaits_w {w : World} {lo hi g : Nat} {S : US} (m : Un w lo hi g S) (ok : S.Ok) (tb : UTb w) : Calls Try.prog 107 #[.pointer (some ⟨g, 0, none⟩)] w fun e w' => e = .returned (.int .i64 (S.l.length : Int)) ∧ Un w' lo hi g S ∧ Fr w w' (Rg lo hi) :=
  (waits_u m.cu).mono fun e w' x => by obtain ⟨rfl, rfl⟩ := x; exact ⟨rfl, m, Fr.refl _ _⟩
theorem read_0 {w : World} {g : Nat} {S : US} (m : CU w g S) (ok : S.Ok) : Calls Try.prog 103 #[.pointer (some ⟨g, 0, none⟩), .int .i64 0] w fun e w' => e = .returned (.int .u64 (S.val 0)) ∧ CU w' g { S with l := S.l.tail } ∧ Fr w w' (fun i => i = g) := by
  cases h : S.l with
  | nil =>
    have e : S.val 0 = 0 := by simp [US.val, h]
    have e2 : { S with l := ([] : List Int).tail } = S := by cases S; simp at h; subst h; rfl
    rw [e, e2]
    have HT := Lib.hid (take_no m h)
    have HM := Lib.hid m
    clear m h e e2
    go_enter Try.func103, Try.ntmps103
    go_wp2_with (go_at_call 105; (with_reducible refine HT.out.mono ?_); rintro e' w1 ⟨rfl, rfl⟩)
    go_ret
    exact ⟨rfl, HM.out, Fr.refl _ _⟩
  | cons x r =>
    have e : S.val 0 = x := by simp [US.val, h]
    have x0 := ok.by0 x (by rw [h]; simp)
    have x1 := ok.by1 x (by rw [h]; simp)
    rw [e]
    have HT := Lib.hid (take_yes m ok.len h)
    clear m h e
    go_enter Try.func103, Try.ntmps103
    go_wp2_with (go_at_call 105; (with_reducible refine HT.out.mono ?_); rintro e' w1 ⟨rfl, m1, f1⟩; have HM1 := Lib.hid m1; have HF1 := Lib.hid f1; clear m1 f1)
    go_ret
    exact ⟨rfl, HM1.out, HF1.out⟩
theorem read_1 {w : World} {g : Nat} {S : US} (m : CU w g S) : Calls Try.prog 103 #[.pointer (some ⟨g, 0, none⟩), .int .i64 1] w fun e w' => e = .returned (.int .u64 (S.val 1)) ∧ CU w' g S ∧ Fr w w' (fun i => i = g) := by
  have e : S.val 1 = if S.en = true then 1 else 0 := by simp [US.val]
  rw [e]
  have ce := m.ce
  have HM := Lib.hid m
  clear m e
  obtain ⟨b, hb⟩ : ∃ b, S.en = b := ⟨_, rfl⟩
  rw [hb] at ce ⊢
  clear hb
  have HB := Lib.hid (bit_u w b)
  cases b
  all_goals
    go_enter Try.func103, Try.ntmps103
    go_wp2_with (go_at_call 106; (with_reducible refine HB.out.mono ?_); rintro e' w1 ⟨rfl, rfl⟩)
    go_ret
    exact ⟨rfl, HM.out, Fr.refl _ _⟩
theorem read_5 {w : World} {g : Nat} {S : US} (m : CU w g S) : Calls Try.prog 103 #[.pointer (some ⟨g, 0, none⟩), .int .i64 5] w fun e w' => e = .returned (.int .u64 (S.val 5)) ∧ CU w' g S ∧ Fr w w' (fun i => i = g) := by
  have HW := Lib.hid (waits_u m)
  have HM := Lib.hid m
  by_cases h : S.l = []
  · have e : S.val 5 = 96 := by simp [US.val, h]
    rw [e]
    have HB := Lib.hid (bit_u w false)
    have f1 : S.l.length = 0 := by rw [h]; rfl
    obtain ⟨n, hn⟩ : ∃ n : Int, (S.l.length : Int) = n := ⟨_, rfl⟩
    have f0 : decide (0 < n) = false := by simp; omega
    have o1 : bits .or .u64 96 0 = 96 := by decide
    rw [hn] at HW
    clear m h e f1 hn
    go_enter Try.func103, Try.ntmps103
    go_wp2_with (first | (go_at_call 107; (with_reducible refine HW.out.mono ?_); rintro e' w1 ⟨rfl, rfl⟩) | (go_at_call 106; (with_reducible refine HB.out.mono ?_); rintro e' w1 ⟨rfl, rfl⟩))
    go_ret
    exact ⟨rfl, HM.out, Fr.refl _ _⟩
  · have e : S.val 5 = 97 := by simp [US.val, h]
    rw [e]
    have HB := Lib.hid (bit_u w true)
    have f1 : 0 < S.l.length := List.length_pos_iff.2 h
    obtain ⟨n, hn⟩ : ∃ n : Int, (S.l.length : Int) = n := ⟨_, rfl⟩
    have f0 : decide (0 < n) = true := by simp; omega
    have o1 : bits .or .u64 96 1 = 97 := by decide
    rw [hn] at HW
    clear m h e f1 hn
    go_enter Try.func103, Try.ntmps103
    go_wp2_with (first | (go_at_call 107; (with_reducible refine HW.out.mono ?_); rintro e' w1 ⟨rfl, rfl⟩) | (go_at_call 106; (with_reducible refine HB.out.mono ?_); rintro e' w1 ⟨rfl, rfl⟩))
    go_ret
    exact ⟨rfl, HM.out, Fr.refl _ _⟩
theorem read_2 {w : World} {g : Nat} {S : US} (m : CU w g S) : Calls Try.prog 103 #[.pointer (some ⟨g, 0, none⟩), .int .i64 2] w fun e w' => e = .returned (.int .u64 (S.val 2)) ∧ CU w' g S ∧ Fr w w' (fun i => i = g) := by
  have e : S.val 2 = 0 := by simp [US.val]
  rw [e]
  have HM := Lib.hid m
  clear m e
  go_enter Try.func103, Try.ntmps103
  go_wp2
  go_ret
  exact ⟨rfl, HM.out, Fr.refl _ _⟩
theorem read_3 {w : World} {g : Nat} {S : US} (m : CU w g S) : Calls Try.prog 103 #[.pointer (some ⟨g, 0, none⟩), .int .i64 3] w fun e w' => e = .returned (.int .u64 (S.val 3)) ∧ CU w' g S ∧ Fr w w' (fun i => i = g) := by
  have e : S.val 3 = 0 := by simp [US.val]
  rw [e]
  have HM := Lib.hid m
  clear m e
  go_enter Try.func103, Try.ntmps103
  go_wp2
  go_ret
  exact ⟨rfl, HM.out, Fr.refl _ _⟩
theorem read_4 {w : World} {g : Nat} {S : US} (m : CU w g S) : Calls Try.prog 103 #[.pointer (some ⟨g, 0, none⟩), .int .i64 4] w fun e w' => e = .returned (.int .u64 (S.val 4)) ∧ CU w' g S ∧ Fr w w' (fun i => i = g) := by
  have e : S.val 4 = 0 := by simp [US.val]
  rw [e]
  have HM := Lib.hid m
  clear m e
  go_enter Try.func103, Try.ntmps103
  go_wp2
  go_ret
  exact ⟨rfl, HM.out, Fr.refl _ _⟩
theorem read_6 {w : World} {g : Nat} {S : US} (m : CU w g S) : Calls Try.prog 103 #[.pointer (some ⟨g, 0, none⟩), .int .i64 6] w fun e w' => e = .returned (.int .u64 (S.val 6)) ∧ CU w' g S ∧ Fr w w' (fun i => i = g) := by
  have e : S.val 6 = 0 := by simp [US.val]
  rw [e]
  have HM := Lib.hid m
  clear m e
  go_enter Try.func103, Try.ntmps103
  go_wp2
  go_ret
  exact ⟨rfl, HM.out, Fr.refl _ _⟩
theorem read_7 {w : World} {g : Nat} {S : US} (m : CU w g S) : Calls Try.prog 103 #[.pointer (some ⟨g, 0, none⟩), .int .i64 7] w fun e w' => e = .returned (.int .u64 (S.val 7)) ∧ CU w' g S ∧ Fr w w' (fun i => i = g) := by
  have e : S.val 7 = 0 := by simp [US.val]
  rw [e]
  have HM := Lib.hid m
  clear m e
  go_enter Try.func103, Try.ntmps103
  go_wp2
  go_ret
  exact ⟨rfl, HM.out, Fr.refl _ _⟩
theorem cuload_w {w : World} {lo hi g : Nat} {S : US} (m : Un w lo hi g S) (ok : S.Ok) (tb : UTb w) (off size : Int) (o0 : -9223372036854775808 ≤ off) (o1 : off < 9223372036854775808) (s0 : -9223372036854775808 ≤ size) (s1 : size < 9223372036854775808) : Calls Try.prog 99 #[.pointer (some ⟨g, 0, none⟩), .int .i64 off, .int .i64 size] w fun e w' => e = .returned (.tuple #[.int .u64 (S.ldV off size), .bool (rgU off size)]) ∧ Un w' lo hi g (S.ldS off size) ∧ Fr w w' (Rg lo hi) := by
  have HI := Lib.hid (isreg_u w off size)
  cases h : rgU off size with
  | false =>
    have e1 : S.ldV off size = 0 := by simp [US.ldV, h]
    have e2 : S.ldS off size = S := by simp [US.ldS, h]
    rw [e1, e2]
    rw [h] at HI
    have HM := Lib.hid m
    clear m h e1 e2
    go_enter Try.func99, Try.ntmps99
    go_wp2_with (go_at_call 102; (with_reducible refine HI.out.mono ?_); rintro e' w1 ⟨rfl, rfl⟩)
    go_ret2
    exact ⟨rfl, HM.out, Fr.refl _ _⟩
  | true =>
    rw [h] at HI
    have e1 : S.ldV off size = S.val off := by simp [US.ldV, h]
    have HR : Hid (Calls Try.prog 103 #[.pointer (some ⟨g, 0, none⟩), .int .i64 off] w fun e w' => e = .returned (.int .u64 (S.val off)) ∧ CU w' g (S.ldS off size) ∧ Fr w w' (fun i => i = g)) := by
      obtain ⟨rfl, hh⟩ := rgU_yes h
      refine Lib.hid ?_
      rcases hh with rfl | rfl | rfl | rfl | rfl | rfl | rfl | rfl
      · exact (read_0 m.cu ok)
      · exact (read_1 m.cu)
      · exact (read_2 m.cu)
      · exact (read_3 m.cu)
      · exact (read_4 m.cu)
      · exact (read_5 m.cu)
      · exact (read_6 m.cu)
      · exact (read_7 m.cu)
    rw [e1]
    have HM := Lib.hid m
    generalize S.val off = x at *
    clear m h e1
    go_enter Try.func99, Try.ntmps99
    go_wp2_with (first | (go_at_call 102; (with_reducible refine HI.out.mono ?_); rintro e' w1 ⟨rfl, rfl⟩) | (go_at_call 103; (with_reducible refine HR.out.mono ?_); rintro e' w1 ⟨rfl, m1, f1⟩; have HM1 := Lib.hid m1; have HF1 := Lib.hid f1; clear m1 f1))
    go_ret2
    exact ⟨rfl, HM.out.up HM1.out HF1.out⟩
theorem write_0 {w : World} {g : Nat} {S : US} (m : CU w g S) (v : Int) (v0 : 0 ≤ v) (v1 : v < 18446744073709551616) : Calls Try.prog 104 #[.pointer (some ⟨g, 0, none⟩), .int .i64 0, .int .u64 v] w fun e w' => e = .returned (.tuple #[]) ∧ CU w' g { S with told := v % 256 } ∧ Fr w w' (fun i => i = g) := by
  obtain ⟨f, R, cf⟩ := m.row
  have ct := m.ct
  have z := m.fz 19
  have HM := Lib.hid m
  have HR := Lib.hid R
  have HC := Lib.hid cf
  clear m R cf
  go_enter Try.func104, Try.ntmps104
  go_wp2
  refine bodyPost_end (v := .tuple #[]) (by simp [results, Try.results104, go_sem]) rfl ⟨rfl, ⟨⟨f, HR.out.far 19 (by decide) _, cell_othU HC.out (by decide)⟩, cell_othU HM.out.ck (by decide), cell_othU HM.out.ce (by decide), cell_selfU ct⟩, fr_set w g 19 _⟩
theorem and_oneU {x : Int} (h0 : 0 ≤ x) (h1 : x < 18446744073709551616) : bits .and .u64 x 1 = x % 2 := by
  obtain ⟨x, rfl⟩ := Int.eq_ofNat_of_zero_le h0
  have := bits_and_u64_nat x 1 (by omega) (by decide)
  rw [Nat.and_one_is_mod] at this
  refine this.trans ?_
  omega
theorem write_1 {w : World} {g : Nat} {S : US} (m : CU w g S) (v : Int) (v0 : 0 ≤ v) (v1 : v < 18446744073709551616) : Calls Try.prog 104 #[.pointer (some ⟨g, 0, none⟩), .int .i64 1, .int .u64 v] w fun e w' => e = .returned (.tuple #[]) ∧ CU w' g { S with en := v % 2 == 1 } ∧ Fr w w' (fun i => i = g) := by
  obtain ⟨f, R, cf⟩ := m.row
  have ce := m.ce
  have z := m.fz 18
  have ea := and_oneU v0 v1
  have HM := Lib.hid m
  have HR := Lib.hid R
  have HC := Lib.hid cf
  clear m R cf
  go_enter Try.func104, Try.ntmps104
  go_wp2
  refine bodyPost_end (v := .tuple #[]) (by simp [results, Try.results104, go_sem]) rfl ⟨rfl, ⟨⟨f, HR.out.far 18 (by decide) _, cell_othU HC.out (by decide)⟩, cell_othU HM.out.ck (by decide), cell_selfU ce, cell_othU HM.out.ct (by decide)⟩, fr_set w g 18 _⟩
theorem write_not {w : World} {g : Nat} {S : US} (m : CU w g S) (off v : Int) (h0 : (off == 0) = false) (h1 : (off == 1) = false) : Calls Try.prog 104 #[.pointer (some ⟨g, 0, none⟩), .int .i64 off, .int .u64 v] w fun e w' => e = .returned (.tuple #[]) ∧ CU w' g S ∧ Fr w w' (fun i => i = g) := by
  have HM := Lib.hid m
  clear m
  go_enter Try.func104, Try.ntmps104
  go_wp2
  refine bodyPost_end (v := .tuple #[]) (by simp [results, Try.results104, go_sem]) rfl ⟨rfl, HM.out, Fr.refl _ _⟩
theorem custore_w {w : World} {lo hi g : Nat} {S : US} (m : Un w lo hi g S) (ok : S.Ok) (tb : UTb w) (off size v : Int) (o0 : -9223372036854775808 ≤ off) (o1 : off < 9223372036854775808) (s0 : -9223372036854775808 ≤ size) (s1 : size < 9223372036854775808) (v0 : 0 ≤ v) (v1 : v < 18446744073709551616) : Calls Try.prog 101 #[.pointer (some ⟨g, 0, none⟩), .int .i64 off, .int .i64 size, .int .u64 v] w fun e w' => e = .returned (.bool (rgU off size)) ∧ Un w' lo hi g (S.stS off size v) ∧ Fr w w' (Rg lo hi) := by
  have HI := Lib.hid (isreg_u w off size)
  cases h : rgU off size with
  | false =>
    have e2 : S.stS off size v = S := by simp [US.stS, h]
    rw [e2]
    rw [h] at HI
    have HM := Lib.hid m
    clear m h e2
    go_enter Try.func101, Try.ntmps101
    go_wp2_with (go_at_call 102; (with_reducible refine HI.out.mono ?_); rintro e' w1 ⟨rfl, rfl⟩)
    go_ret
    exact ⟨rfl, HM.out, Fr.refl _ _⟩
  | true =>
    rw [h] at HI
    have HR : Hid (Calls Try.prog 104 #[.pointer (some ⟨g, 0, none⟩), .int .i64 off, .int .u64 v] w fun e w' => e = .returned (.tuple #[]) ∧ CU w' g (S.stS off size v) ∧ Fr w w' (fun i => i = g)) := by
      obtain ⟨rfl, hh⟩ := rgU_yes h
      refine Lib.hid ?_
      rw [US.stS, h, if_pos rfl]
      by_cases a : off = 0
      · subst a; rw [if_pos rfl]; exact write_0 m.cu v v0 v1
      · rw [if_neg a]
        by_cases b : off = 1
        · subst b; rw [if_pos rfl]; exact write_1 m.cu v v0 v1
        · rw [if_neg b]; exact write_not m.cu off v (by simpa using a) (by simpa using b)
    have HM := Lib.hid m
    clear m h
    go_enter Try.func101, Try.ntmps101
    go_wp2_with (first | (go_at_call 102; (with_reducible refine HI.out.mono ?_); rintro e' w1 ⟨rfl, rfl⟩) | (go_at_call 104; (with_reducible refine HR.out.mono ?_); rintro e' w1 ⟨rfl, m1, f1⟩; have HM1 := Lib.hid m1; have HF1 := Lib.hid f1; clear m1 f1))
    go_ret
    exact ⟨rfl, HM.out.up HM1.out HF1.out⟩
theorem cpwoff_w {w : World} {lo hi g : Nat} {p : Bool} (m : Pn w lo hi g p) (tb : UTb w) : Calls Try.prog 15 #[.pointer (some ⟨g, 0, none⟩)] w fun e w' => e = .returned (.bool p) ∧ Pn w' lo hi g p ∧ Fr w w' (Rg lo hi) := by
  have c0 := m.rw.c0
  have HM := Lib.hid m
  clear m
  go_enter Try.func15, Try.ntmps15
  go_wp2
  go_ret
  exact ⟨rfl, HM.out, Fr.refl _ _⟩
theorem cpwload_w {w : World} {lo hi g : Nat} {p : Bool} (m : Pn w lo hi g p) (tb : UTb w) (off size : Int) (o0 : -9223372036854775808 ≤ off) (o1 : off < 9223372036854775808) (s0 : -9223372036854775808 ≤ size) (s1 : size < 9223372036854775808) : Calls Try.prog 108 #[.pointer (some ⟨g, 0, none⟩), .int .i64 off, .int .i64 size] w fun e w' => e = .returned (.tuple #[.int .u64 0, .bool (pwO off size)]) ∧ Pn w' lo hi g p ∧ Fr w w' (Rg lo hi) := by
  have HI := Lib.hid (issw_u w off size)
  have HM := Lib.hid m
  generalize pwO off size = b at *
  clear m
  go_enter Try.func108, Try.ntmps108
  go_wp2_with (go_at_call 110; (with_reducible refine HI.out.mono ?_); rintro e' w1 ⟨rfl, rfl⟩)
  go_ret2
  exact ⟨rfl, HM.out, Fr.refl _ _⟩
theorem cpwstore_w {w : World} {lo hi g : Nat} {p : Bool} (m : Pn w lo hi g p) (tb : UTb w) (off size v : Int) (o0 : -9223372036854775808 ≤ off) (o1 : off < 9223372036854775808) (s0 : -9223372036854775808 ≤ size) (s1 : size < 9223372036854775808) (v0 : 0 ≤ v) (v1 : v < 18446744073709551616) : Calls Try.prog 109 #[.pointer (some ⟨g, 0, none⟩), .int .i64 off, .int .i64 size, .int .u64 v] w fun e w' => e = .returned (.bool (pwO off size)) ∧ Pn w' lo hi g (pwS p off size v) ∧ Fr w w' (Rg lo hi) := by
  have HI := Lib.hid (issw_u w off size)
  have c0 := m.rw.c0
  have z0 := m.rw.fz 0
  have HM := Lib.hid m
  cases h : pwO off size with
  | false =>
    rw [h] at HI
    rw [pwS, h, if_neg (by decide)]
    clear m h
    go_enter Try.func109, Try.ntmps109
    go_wp2_with (go_at_call 110; (with_reducible refine HI.out.mono ?_); rintro e' w1 ⟨rfl, rfl⟩)
    go_ret
    exact ⟨rfl, HM.out, Fr.refl _ _⟩
  | true =>
    rw [h] at HI
    rw [pwS, h, if_pos rfl]
    clear m h
    cases t : (v % 4294967296 == 21845)
    · rw [Bool.or_false]
      go_enter Try.func109, Try.ntmps109
      go_wp2_with (go_at_call 110; (with_reducible refine HI.out.mono ?_); rintro e' w1 ⟨rfl, rfl⟩)
      go_ret
      exact ⟨rfl, HM.out, Fr.refl _ _⟩
    · rw [Bool.or_true]
      go_enter Try.func109, Try.ntmps109
      go_wp2_with (go_at_call 110; (with_reducible refine HI.out.mono ?_); rintro e' w1 ⟨rfl, rfl⟩)
      go_ret
      exact ⟨rfl, HM.out.up ⟨by simpa [World.setCell] using HM.out.rw.lt, fun j => by rw [World.frozen?_setCell]; exact HM.out.rw.fz j, cell_selfU HM.out.rw.c0⟩ (fr_set w g 0 _)⟩
end Go.Proofs.Ytikibfpfieoabaa
