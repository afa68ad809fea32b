/-
  The contract of the document's answer for bounds (ravelinref03.Of, Fits): it is what the plain mathematics says. Bounds' fields are in their places.
-/
import Derived.Test.YtmehbildddlgaaaCRefUp
import Derived.Test.YtmehbildddlgaaaBRefIn
namespace Go.Proofs.Ytmehbildddlgaaa
open Go.ChangeShapes Go.WideShapes Go.ChangeAt Go.RowKit
set_option linter.unusedVariables false
set_option linter.unusedSimpArgs false

theorem Rm.out3 {B : Nat} {w : World} (h : Rm B 3 w) : (∃ v, w.cell? ⟨B, 0, none⟩ = some v) ∧ w.frozen? ⟨B, 0, none⟩ = false ∧ (∃ v, w.cell? ⟨B, 1, none⟩ = some v) ∧ w.frozen? ⟨B, 1, none⟩ = false ∧ (∃ v, w.cell? ⟨B, 2, none⟩ = some v) ∧ w.frozen? ⟨B, 2, none⟩ = false :=
  ⟨(h 0 (by omega)).1, (h 0 (by omega)).2, (h 1 (by omega)).1, (h 1 (by omega)).2, (h 2 (by omega)).1, (h 2 (by omega)).2⟩
theorem wN_step (u : Int) (u0 : -1 ≤ u) (u1 : u < 18446744073709551616) : wN (b01 (decide (u < 0))) (IntKind.u64.wrap u) % 36893488147419103232 = u % 36893488147419103232 := by
  rw [IntKind.wrap_u64]
  by_cases h : u < 0
  · have : u = -1 := by omega
    subst this; decide
  · simp only [h, decide_false, b01]; unfold wN; simp; omega
theorem wN_zero (x : Int) : wN (b01 false) x = x := by unfold wN b01; simp
theorem mul_mod65 (x y k : Int) (h : x % 36893488147419103232 = y % 36893488147419103232) : (x * k) % 36893488147419103232 = (y * k) % 36893488147419103232 := by
  rw [Int.mul_emod, h, ← Int.mul_emod]
/-- What is put together of a part and a mantissa, as the document's answer does it. -/
theorem put_eq (u x e : Int) (u0 : -1 ≤ u) (u1 : u < 18446744073709551616) (P X : Int) (hP : wN (b01 (decide (u < 0))) (IntKind.u64.wrap u) * 2 ^ (e + 14).toNat = P) (hX : x * 2 ^ e.toNat = X) :
    wH (wN (wH P) (wL P) + wN (wH X) (wL X)) = wH (u * 2 ^ (e + 14).toNat + x * 2 ^ e.toNat) ∧ wL (wN (wH P) (wL P) + wN (wH X) (wL X)) = wL (u * 2 ^ (e + 14).toNat + x * 2 ^ e.toNat) := by
  have h1 := mul_mod65 _ _ (2 ^ (e + 14).toNat) (wN_step u u0 u1)
  rw [hP] at h1
  rw [hX, wN_of, wN_of]
  have : (P % 36893488147419103232 + X % 36893488147419103232) % 36893488147419103232 = (u * 2 ^ (e + 14).toNat + X) % 36893488147419103232 := by
    rw [← Int.add_emod, Int.add_emod, h1, ← Int.add_emod]
  exact ⟨wH_congr this, wL_congr this⟩
set_option maxHeartbeats 8000000 in
set_option maxRecDepth 100000 in
theorem refOf_core (tg : Bool) (pe ty mo e b t : Int) (g : Bool) (a : Int) (h : Fld e b t a) (T C M U s1 s2 p q PH PL XH XL BH BL QH QL YH YL TH TL d1 d2 fm TN : Int) (lo hi F : Bool)
    (hT : t14 b t g = T) (hC : (b / 2048 + 7) % 8 * 2048 = C) (hM : (a / 2 ^ e.toNat) % 16384 = M) (hU : a / 2 ^ (e + 14).toNat = U)
    (hs1 : b01 (decide (b < C)) - b01 (decide (M < C)) = s1) (hs2 : b01 (decide (T < C)) - b01 (decide (M < C)) = s2)
    (PA : Hid (∀ w : World, Calls Try.prog 72 #[.int .u64 U, .int .i64 s1] w fun e w' => e = .returned (.tuple #[.int .u64 p, .bool lo]) ∧ w = w')) (PB : Hid (∀ w : World, Calls Try.prog 72 #[.int .u64 U, .int .i64 s2] w fun e w' => e = .returned (.tuple #[.int .u64 q, .bool hi]) ∧ w = w'))
    (U1 : Hid (∀ w : World, Calls Try.prog 74 #[.int .u64 p, .bool lo, .int .i64 (e + 14)] w fun e' w' => e' = .returned (.agg #[.int .u64 PH, .int .u64 PL]) ∧ Kp w w')) (X1 : Hid (∀ w : World, Calls Try.prog 74 #[.int .u64 b, .bool false, .int .i64 e] w fun e' w' => e' = .returned (.agg #[.int .u64 XH, .int .u64 XL]) ∧ Kp w w')) (D1 : Hid (∀ w : World, Calls Try.prog 73 #[.agg #[.int .u64 PH, .int .u64 PL], .agg #[.int .u64 XH, .int .u64 XL]] w fun e' w' => e' = .returned (.agg #[.int .u64 BH, .int .u64 BL]) ∧ Kp w w'))
    (U2 : Hid (∀ w : World, Calls Try.prog 74 #[.int .u64 q, .bool hi, .int .i64 (e + 14)] w fun e' w' => e' = .returned (.agg #[.int .u64 QH, .int .u64 QL]) ∧ Kp w w')) (X2 : Hid (∀ w : World, Calls Try.prog 74 #[.int .u64 T, .bool false, .int .i64 e] w fun e' w' => e' = .returned (.agg #[.int .u64 YH, .int .u64 YL]) ∧ Kp w w')) (D2 : Hid (∀ w : World, Calls Try.prog 73 #[.agg #[.int .u64 QH, .int .u64 QL], .agg #[.int .u64 YH, .int .u64 YL]] w fun e' w' => e' = .returned (.agg #[.int .u64 TH, .int .u64 TL]) ∧ Kp w w'))
    (tH : 0 ≤ TH ∧ TH < 2) (bL : 0 ≤ BL ∧ BL < 18446744073709551616) (tL : 0 ≤ TL ∧ TL < 18446744073709551616) (hd1 : TL / 9223372036854775808 = d1) (hd2 : BL / 9223372036854775808 = d2) (hfm : (2 * TH + d1 + 4 - d2) % 4 = fm) (hF : decide (1 < fm) = F)
    (O : Bool) (hO : O = if (decide (e < 51) && F) then TH == 0 else TH == 1) (w : World) :
    Calls Try.prog 45 #[.agg #[.bool tg, .int .i64 pe, .int .i64 ty, .int .i64 mo, .int .i64 e, .int .i64 b, .int .i64 t, .bool g, .int .u64 a]] w fun e' w' => e' = .returned (.agg #[.int .u64 BL, .int .u64 TL, .bool O]) ∧ Kp w w' := by
  have HF := Lib.hid h
  obtain ⟨e0, e1, b0, b1, t0, t1, a0, a1⟩ := h
  have hTb := t14_bd b t g b0 t0 t1
  rw [hT] at hTb
  have HT := Lib.hid hT
  have hC' : 0 ≤ C ∧ C ≤ 14336 := by omega
  have hM' : 0 ≤ M ∧ M < 16384 := by omega
  have k1 : b.tdiv 4096 = b / 4096 := Int.tdiv_eq_ediv_of_nonneg b0
  have k2 : b.tmod 4096 = b % 4096 := Int.tmod_eq_emod_of_nonneg b0
  have k3 : b.tdiv 2048 = b / 2048 := Int.tdiv_eq_ediv_of_nonneg b0
  have k4 : IntKind.i64.wrap (b / 2048 + 7) = b / 2048 + 7 := by rw [IntKind.wrap_i64]; omega
  have k5 : (b / 2048 + 7).tmod 8 = (b / 2048 + 7) % 8 := Int.tmod_eq_emod_of_nonneg (by omega)
  have k6 : IntKind.i64.wrap ((b / 2048 + 7) % 8 * 2048) = C := by rw [hC, IntKind.wrap_i64]; omega
  have k7 : IntKind.u64.wrap e = e := by rw [IntKind.wrap_u64]; omega
  have hdn : 0 ≤ a / 2 ^ e.toNat := Int.ediv_nonneg a0 (Int.le_of_lt (pow_pos' _))
  have k8 : (a / 2 ^ e.toNat).tmod 16384 = M := by rw [Int.tmod_eq_emod_of_nonneg hdn]; exact hM
  have k8' : (a / 2 ^ min e.toNat 64).tmod 16384 = M := by rw [div_min a _ a0 a1]; exact k8
  have k9 : IntKind.i64.wrap M = M := by rw [IntKind.wrap_i64]; omega
  have k10 : IntKind.i64.wrap (e + 14) = e + 14 := by rw [IntKind.wrap_i64]; omega
  have k11 : IntKind.u64.wrap (e + 14) = e + 14 := by rw [IntKind.wrap_u64]; omega
  have k17 : 0 ≤ e + 14 := by omega
  have k18 : a / 2 ^ (e + 14).toNat = U := hU
  have k12 : a / 2 ^ min (e + 14).toNat 64 = U := by rw [div_min a _ a0 a1]; exact hU
  have k13 : IntKind.u64.wrap b = b := by rw [IntKind.wrap_u64]; omega
  have k14 : IntKind.u64.wrap T = T := by rw [IntKind.wrap_u64]; omega
  have k15 : IntKind.i64.wrap (b01 (decide (b < C)) - b01 (decide (M < C))) = s1 := by rw [hs1, IntKind.wrap_i64]; have := b01_lo (decide (b < C)); have := b01_hi (decide (b < C)); have := b01_lo (decide (M < C)); have := b01_hi (decide (M < C)); omega
  have k16 : IntKind.i64.wrap (b01 (decide (T < C)) - b01 (decide (M < C))) = s2 := by rw [hs2, IntKind.wrap_i64]; have := b01_lo (decide (T < C)); have := b01_hi (decide (T < C)); have := b01_lo (decide (M < C)); have := b01_hi (decide (M < C)); omega
  have m1 : IntKind.u64.wrap (2 * TH) = 2 * TH := by rw [IntKind.wrap_u64]; omega
  have hdb : 0 ≤ d1 ∧ d1 < 2 ∧ 0 ≤ d2 ∧ d2 < 2 := by omega
  have m2 : IntKind.u64.wrap (2 * TH + d1) = 2 * TH + d1 := by rw [IntKind.wrap_u64]; omega
  have m3 : IntKind.u64.wrap (2 * TH + d1 + 4) = 2 * TH + d1 + 4 := by rw [IntKind.wrap_u64]; omega
  have m4 : IntKind.u64.wrap (2 * TH + d1 + 4 - d2) = 2 * TH + d1 + 4 - d2 := by rw [IntKind.wrap_u64]; omega
  have m5 : (2 * TH + d1 + 4 - d2).tmod 4 = fm := by rw [Int.tmod_eq_emod_of_nonneg (by omega)]; exact hfm
  have n1 : TL / 2 ^ 63 = d1 := hd1
  have n2 : BL / 2 ^ 63 = d2 := hd2
  have m6 : IntKind.u64.wrap (1 - TH) = 1 - TH := by rw [IntKind.wrap_u64]; omega
  have HO := Lib.hid hO
  have hbig : decide (e + 14 < 64) = true ∨ decide (e + 14 < 64) = false ∧ U = 0 := by
    by_cases hb : e + 14 < 64
    · exact Or.inl (by simpa using hb)
    · refine Or.inr ⟨by simpa using hb, ?_⟩
      rw [← hU]
      have h1 : (2 : Int) ^ 64 ≤ 2 ^ (e + 14).toNat := by
        have h2 : 2 ^ 64 ≤ 2 ^ (e + 14).toNat := Nat.pow_le_pow_right (by omega) (by omega)
        have h3 : ((2 ^ 64 : Nat) : Int) ≤ ((2 ^ (e + 14).toNat : Nat) : Int) := by omega
        simpa using h3
      rw [pow64] at h1
      exact Int.ediv_eq_zero_of_lt a0 (by omega)
  clear hT hC hM hU hs1 hs2 hfm hO hdn
  have A0 : At (w.heap.size) [.bool tg, .int .i64 pe, .int .i64 ty, .int .i64 mo, .int .i64 e, .int .i64 b, .int .i64 t, .bool g, .int .u64 a] ((w.alloc (.cells #[.bool tg, .int .i64 pe, .int .i64 ty, .int .i64 mo, .int .i64 e, .int .i64 b, .int .i64 t, .bool g, .int .u64 a] 25)).alloc (.cells #[.int .u64 0, .int .u64 0, .bool false] 66)) := ((At.new' w [.bool tg, .int .i64 pe, .int .i64 ty, .int .i64 mo, .int .i64 e, .int .i64 b, .int .i64 t, .bool g, .int .u64 a] 25 (by simp)).alloc _)
  have A1 : At (w.heap.size + 1) [.int .u64 0, .int .u64 0, .bool false] ((w.alloc (.cells #[.bool tg, .int .i64 pe, .int .i64 ty, .int .i64 mo, .int .i64 e, .int .i64 b, .int .i64 t, .bool g, .int .u64 a] 25)).alloc (.cells #[.int .u64 0, .int .u64 0, .bool false] 66)) := (At.new' (w.alloc (.cells #[.bool tg, .int .i64 pe, .int .i64 ty, .int .i64 mo, .int .i64 e, .int .i64 b, .int .i64 t, .bool g, .int .u64 a] 25)) [.int .u64 0, .int .u64 0, .bool false] 66 (by simp))
  have R1 : Rm (w.heap.size + 1) 3 ((w.alloc (.cells #[.bool tg, .int .i64 pe, .int .i64 ty, .int .i64 mo, .int .i64 e, .int .i64 b, .int .i64 t, .bool g, .int .u64 a] 25)).alloc (.cells #[.int .u64 0, .int .u64 0, .bool false] 66)) := (Rm.new' (w.alloc (.cells #[.bool tg, .int .i64 pe, .int .i64 ty, .int .i64 mo, .int .i64 e, .int .i64 b, .int .i64 t, .bool g, .int .u64 a] 25)) [.int .u64 0, .int .u64 0, .bool false] 66 3 (by simp) (by simp))
  have kb : Bh w (w.heap.size + 2) ((w.alloc (.cells #[.bool tg, .int .i64 pe, .int .i64 ty, .int .i64 mo, .int .i64 e, .int .i64 b, .int .i64 t, .bool g, .int .u64 a] 25)).alloc (.cells #[.int .u64 0, .int .u64 0, .bool false] 66)) := ⟨(((Kp.refl w).allocs _ _).allocs _ _), by simp, by simp⟩
  go_enter Try.func45, Try.ntmps45
  go_upto_region 2 with fail
  go_cut [4] (fun s4 wx => s4 = .int .i64 T ∧ At (w.heap.size) [.bool tg, .int .i64 pe, .int .i64 ty, .int .i64 mo, .int .i64 e, .int .i64 b, .int .i64 t, .bool g, .int .u64 a] wx ∧ Rm (w.heap.size + 1) 3 wx ∧ Bh w (w.heap.size + 2) wx)
  case first =>
    refine wp_region_held_drew (S := (fun w' => At (w.heap.size) [.bool tg, .int .i64 pe, .int .i64 ty, .int .i64 mo, .int .i64 e, .int .i64 b, .int .i64 t, .bool g, .int .u64 a] w' ∧ Rm (w.heap.size + 1) 3 w' ∧ Bh w (w.heap.size + 2) w')) (by kernel_rfl) ⟨At.drew (by with_reducible assumption), Rm.drew (by with_reducible assumption), Bh.drew (by with_reducible assumption)⟩ (fun hS => ?_)
    (refine wpAnyH_take (i := 0) (oi := { dst := some 16, op := Op.fieldAddr 25 (Operand.tmp 1) 6, type := 0, pos := "ref.go:54", after := #[], guard := none }) (v := ?_) rfl (by kernel_rfl) (by kernel_rfl) (by kernel_rfl) (fun _ _ _ h => h) (Or.inl ⟨by rfl, ?_⟩) hS ?_; rotate_left; focus (intro w' hSw; obtain ⟨s0, s1, sb⟩ := hSw; go_simp <;> try with_reducible rfl))
    try simp only [Act.put, List.setIfInBounds_toArray, List.set_cons_zero, List.set_cons_succ]
    (refine wpAnyH_take (i := 1) (oi := { dst := some 17, op := Op.load 3 (Operand.tmp 16), type := 3, pos := "ref.go:54", after := #[{ on := 0, ground := Ground.data }], guard := none }) (v := ?_) rfl (by kernel_rfl) (by kernel_rfl) (by kernel_rfl) (fun _ _ _ h => h) (Or.inl ⟨by rfl, ?_⟩) hS ?_; rotate_left; focus (intro w' hSw; obtain ⟨s0, s1, sb⟩ := hSw; obtain ⟨_, _, _, _, _, _, _, _, _⟩ := s0.out9; go_simp <;> try with_reducible rfl))
    try simp only [Act.put, List.setIfInBounds_toArray, List.set_cons_zero, List.set_cons_succ]
    (refine wpAnyH_take (i := 2) (oi := { dst := some 18, op := Op.fieldAddr 25 (Operand.tmp 1) 5, type := 0, pos := "ref.go:54", after := #[], guard := none }) (v := ?_) rfl (by kernel_rfl) (by kernel_rfl) (by kernel_rfl) (fun _ _ _ h => h) (Or.inl ⟨by rfl, ?_⟩) hS ?_; rotate_left; focus (intro w' hSw; obtain ⟨s0, s1, sb⟩ := hSw; go_simp <;> try with_reducible rfl))
    try simp only [Act.put, List.setIfInBounds_toArray, List.set_cons_zero, List.set_cons_succ]
    (refine wpAnyH_take (i := 3) (oi := { dst := some 19, op := Op.load 3 (Operand.tmp 18), type := 3, pos := "ref.go:54", after := #[{ on := 2, ground := Ground.data }], guard := none }) (v := ?_) rfl (by kernel_rfl) (by kernel_rfl) (by kernel_rfl) (fun _ _ _ h => h) (Or.inl ⟨by rfl, ?_⟩) hS ?_; rotate_left; focus (intro w' hSw; obtain ⟨s0, s1, sb⟩ := hSw; obtain ⟨_, _, _, _, _, _, _, _, _⟩ := s0.out9; go_simp <;> try with_reducible rfl))
    try simp only [Act.put, List.setIfInBounds_toArray, List.set_cons_zero, List.set_cons_succ]
    (refine wpAnyH_take (i := 4) (oi := { dst := some 20, op := Op.binOp BinOp.quo 3 (Operand.tmp 19) (Operand.const (Value.int IntKind.i64 4096)) 3, type := 3, pos := "ref.go:54", after := #[{ on := 3, ground := Ground.data }], guard := none }) (v := ?_) rfl (by kernel_rfl) (by kernel_rfl) (by kernel_rfl) (fun _ _ _ h => h) (Or.inl ⟨by rfl, ?_⟩) hS ?_; rotate_left; focus (intro w' hSw; obtain ⟨s0, s1, sb⟩ := hSw; go_simp <;> try with_reducible rfl))
    try simp only [Act.put, List.setIfInBounds_toArray, List.set_cons_zero, List.set_cons_succ]
    (refine wpAnyH_take (i := 5) (oi := { dst := some 21, op := Op.fieldAddr 25 (Operand.tmp 1) 6, type := 0, pos := "ref.go:54", after := #[], guard := none }) (v := ?_) rfl (by kernel_rfl) (by kernel_rfl) (by kernel_rfl) (fun _ _ _ h => h) (Or.inl ⟨by rfl, ?_⟩) hS ?_; rotate_left; focus (intro w' hSw; obtain ⟨s0, s1, sb⟩ := hSw; go_simp <;> try with_reducible rfl))
    try simp only [Act.put, List.setIfInBounds_toArray, List.set_cons_zero, List.set_cons_succ]
    (refine wpAnyH_take (i := 6) (oi := { dst := some 22, op := Op.load 3 (Operand.tmp 21), type := 3, pos := "ref.go:54", after := #[{ on := 5, ground := Ground.data }], guard := none }) (v := ?_) rfl (by kernel_rfl) (by kernel_rfl) (by kernel_rfl) (fun _ _ _ h => h) (Or.inl ⟨by rfl, ?_⟩) hS ?_; rotate_left; focus (intro w' hSw; obtain ⟨s0, s1, sb⟩ := hSw; obtain ⟨_, _, _, _, _, _, _, _, _⟩ := s0.out9; go_simp <;> try with_reducible rfl))
    try simp only [Act.put, List.setIfInBounds_toArray, List.set_cons_zero, List.set_cons_succ]
    (refine wpAnyH_take (i := 7) (oi := { dst := some 23, op := Op.fieldAddr 25 (Operand.tmp 1) 5, type := 0, pos := "ref.go:54", after := #[], guard := none }) (v := ?_) rfl (by kernel_rfl) (by kernel_rfl) (by kernel_rfl) (fun _ _ _ h => h) (Or.inl ⟨by rfl, ?_⟩) hS ?_; rotate_left; focus (intro w' hSw; obtain ⟨s0, s1, sb⟩ := hSw; go_simp <;> try with_reducible rfl))
    try simp only [Act.put, List.setIfInBounds_toArray, List.set_cons_zero, List.set_cons_succ]
    (refine wpAnyH_take (i := 8) (oi := { dst := some 24, op := Op.load 3 (Operand.tmp 23), type := 3, pos := "ref.go:54", after := #[{ on := 7, ground := Ground.data }], guard := none }) (v := ?_) rfl (by kernel_rfl) (by kernel_rfl) (by kernel_rfl) (fun _ _ _ h => h) (Or.inl ⟨by rfl, ?_⟩) hS ?_; rotate_left; focus (intro w' hSw; obtain ⟨s0, s1, sb⟩ := hSw; obtain ⟨_, _, _, _, _, _, _, _, _⟩ := s0.out9; go_simp <;> try with_reducible rfl))
    try simp only [Act.put, List.setIfInBounds_toArray, List.set_cons_zero, List.set_cons_succ]
    (refine wpAnyH_take (i := 9) (oi := { dst := some 25, op := Op.binOp BinOp.rem 3 (Operand.tmp 24) (Operand.const (Value.int IntKind.i64 4096)) 3, type := 3, pos := "ref.go:54", after := #[{ on := 8, ground := Ground.data }], guard := none }) (v := ?_) rfl (by kernel_rfl) (by kernel_rfl) (by kernel_rfl) (fun _ _ _ h => h) (Or.inl ⟨by rfl, ?_⟩) hS ?_; rotate_left; focus (intro w' hSw; obtain ⟨s0, s1, sb⟩ := hSw; go_simp <;> try with_reducible rfl))
    try simp only [Act.put, List.setIfInBounds_toArray, List.set_cons_zero, List.set_cons_succ]
    (refine wpAnyH_take (i := 10) (oi := { dst := some 26, op := Op.binOp BinOp.lss 3 (Operand.tmp 22) (Operand.tmp 25) 3, type := 4, pos := "ref.go:54", after := #[{ on := 6, ground := Ground.data }, { on := 9, ground := Ground.data }], guard := none }) (v := ?_) rfl (by kernel_rfl) (by kernel_rfl) (by kernel_rfl) (fun _ _ _ h => h) (Or.inl ⟨by rfl, ?_⟩) hS ?_; rotate_left; focus (intro w' hSw; obtain ⟨s0, s1, sb⟩ := hSw; go_simp <;> try with_reducible rfl))
    try simp only [Act.put, List.setIfInBounds_toArray, List.set_cons_zero, List.set_cons_succ]
    (refine wpAnyH_take (i := 13) (oi := { dst := some 29, op := Op.fieldAddr 25 (Operand.tmp 1) 7, type := 0, pos := "ref.go:54", after := #[], guard := none }) (v := ?_) rfl (by kernel_rfl) (by kernel_rfl) (by kernel_rfl) (fun _ _ _ h => h) (Or.inl ⟨by rfl, ?_⟩) hS ?_; rotate_left; focus (intro w' hSw; obtain ⟨s0, s1, sb⟩ := hSw; go_simp <;> try with_reducible rfl))
    try simp only [Act.put, List.setIfInBounds_toArray, List.set_cons_zero, List.set_cons_succ]
    (refine wpAnyH_take (i := 14) (oi := { dst := some 30, op := Op.load 4 (Operand.tmp 29), type := 4, pos := "ref.go:54", after := #[{ on := 13, ground := Ground.data }], guard := none }) (v := ?_) rfl (by kernel_rfl) (by kernel_rfl) (by kernel_rfl) (fun _ _ _ h => h) (Or.inl ⟨by rfl, ?_⟩) hS ?_; rotate_left; focus (intro w' hSw; obtain ⟨s0, s1, sb⟩ := hSw; obtain ⟨_, _, _, _, _, _, _, _, _⟩ := s0.out9; go_simp <;> try with_reducible rfl))
    try simp only [Act.put, List.setIfInBounds_toArray, List.set_cons_zero, List.set_cons_succ]
    refine wpAnyH_ready (rs := [11]) (by kernel_rfl) (by simp) ?_
    refine AllReadyH.cons (o := { dst := some 27, op := Op.call { callee := Callee.value (Operand.func 71), args := #[Operand.tmp 26], argTypes := #[4] }, type := 3, pos := "ref.go:54", after := #[{ on := 10, ground := Ground.data }], guard := none }) rfl (fun K hK => ?_) AllReadyH.nil
    (refine take_if (by rfl) ?_; obtain ⟨s0, s1, sb⟩ := hS; go_simp; (with_reducible refine (one_k _ _).mono ?_); rintro e' w' ⟨rfl, qk⟩; have t0 := At.kp s0 qk (Nat.lt_of_lt_of_le (show w.heap.size < w.heap.size + 2 by omega) sb.le); have t1 := Rm.kp s1 qk (Nat.lt_of_lt_of_le (show w.heap.size + 1 < w.heap.size + 2 by omega) sb.le); have tb := Bh.step sb qk; clear qk; refine hK.out _ _ ⟨t0, t1, tb⟩ (fun hS => ?_))
    clear hK K
    try simp only [Act.put, List.setIfInBounds_toArray, List.set_cons_zero, List.set_cons_succ]
    (refine wpAnyH_take (i := 12) (oi := { dst := some 28, op := Op.binOp BinOp.add 3 (Operand.tmp 20) (Operand.tmp 27) 3, type := 3, pos := "ref.go:54", after := #[{ on := 4, ground := Ground.data }, { on := 11, ground := Ground.data }], guard := none }) (v := ?_) rfl (by kernel_rfl) (by kernel_rfl) (by kernel_rfl) (fun _ _ _ h => h) (Or.inl ⟨by rfl, ?_⟩) hS ?_; rotate_left; focus (intro w' hSw; obtain ⟨s0, s1, sb⟩ := hSw; go_simp <;> try with_reducible rfl))
    try simp only [Act.put, List.setIfInBounds_toArray, List.set_cons_zero, List.set_cons_succ]
    refine wpAnyH_ready (rs := [15]) (by kernel_rfl) (by simp) ?_
    refine AllReadyH.cons (o := { dst := some 31, op := Op.call { callee := Callee.value (Operand.func 71), args := #[Operand.tmp 30], argTypes := #[4] }, type := 3, pos := "ref.go:54", after := #[{ on := 14, ground := Ground.data }, { on := 11, ground := Ground.chain }], guard := none }) rfl (fun K hK => ?_) AllReadyH.nil
    (refine take_if (by rfl) ?_; obtain ⟨s0, s1, sb⟩ := hS; go_simp; (with_reducible refine (one_k _ _).mono ?_); rintro e' w' ⟨rfl, qk⟩; have t0 := At.kp s0 qk (Nat.lt_of_lt_of_le (show w.heap.size < w.heap.size + 2 by omega) sb.le); have t1 := Rm.kp s1 qk (Nat.lt_of_lt_of_le (show w.heap.size + 1 < w.heap.size + 2 by omega) sb.le); have tb := Bh.step sb qk; clear qk; refine hK.out _ _ ⟨t0, t1, tb⟩ (fun hS => ?_))
    clear hK K
    try simp only [Act.put, List.setIfInBounds_toArray, List.set_cons_zero, List.set_cons_succ]
    (refine wpAnyH_take (i := 16) (oi := { dst := some 32, op := Op.binOp BinOp.add 3 (Operand.tmp 28) (Operand.tmp 31) 3, type := 3, pos := "ref.go:54", after := #[{ on := 12, ground := Ground.data }, { on := 15, ground := Ground.data }], guard := none }) (v := ?_) rfl (by kernel_rfl) (by kernel_rfl) (by kernel_rfl) (fun _ _ _ h => h) (Or.inl ⟨by rfl, ?_⟩) hS ?_; rotate_left; focus (intro w' hSw; obtain ⟨s0, s1, sb⟩ := hSw; go_simp <;> try with_reducible rfl))
    try simp only [Act.put, List.setIfInBounds_toArray, List.set_cons_zero, List.set_cons_succ]
    (refine wpAnyH_take (i := 17) (oi := { dst := some 33, op := Op.binOp BinOp.rem 3 (Operand.tmp 32) (Operand.const (Value.int IntKind.i64 4)) 3, type := 3, pos := "ref.go:54", after := #[{ on := 16, ground := Ground.data }], guard := none }) (v := ?_) rfl (by kernel_rfl) (by kernel_rfl) (by kernel_rfl) (fun _ _ _ h => h) (Or.inl ⟨by rfl, ?_⟩) hS ?_; rotate_left; focus (intro w' hSw; obtain ⟨s0, s1, sb⟩ := hSw; go_simp <;> try with_reducible rfl))
    try simp only [Act.put, List.setIfInBounds_toArray, List.set_cons_zero, List.set_cons_succ]
    (refine wpAnyH_take (i := 18) (oi := { dst := some 34, op := Op.binOp BinOp.mul 3 (Operand.tmp 33) (Operand.const (Value.int IntKind.i64 4096)) 3, type := 3, pos := "ref.go:54", after := #[{ on := 17, ground := Ground.data }], guard := none }) (v := ?_) rfl (by kernel_rfl) (by kernel_rfl) (by kernel_rfl) (fun _ _ _ h => h) (Or.inl ⟨by rfl, ?_⟩) hS ?_; rotate_left; focus (intro w' hSw; obtain ⟨s0, s1, sb⟩ := hSw; go_simp <;> try with_reducible rfl))
    try simp only [Act.put, List.setIfInBounds_toArray, List.set_cons_zero, List.set_cons_succ]
    (refine wpAnyH_take (i := 19) (oi := { dst := some 35, op := Op.binOp BinOp.add 3 (Operand.tmp 17) (Operand.tmp 34) 3, type := 3, pos := "ref.go:54", after := #[{ on := 1, ground := Ground.data }, { on := 18, ground := Ground.data }], guard := none }) (v := ?_) rfl (by kernel_rfl) (by kernel_rfl) (by kernel_rfl) (fun _ _ _ h => h) (Or.inl ⟨by rfl, ?_⟩) hS ?_; rotate_left; focus (intro w' hSw; obtain ⟨s0, s1, sb⟩ := hSw; go_simp <;> try with_reducible rfl))
    try simp only [Act.put, List.setIfInBounds_toArray, List.set_cons_zero, List.set_cons_succ]
    (refine wpAnyH_take (i := 20) (oi := { dst := some 4, op := Op.assign (Operand.tmp 35), type := 3, pos := "ref.go:54", after := #[{ on := 19, ground := Ground.data }, { on := 15, ground := Ground.chain }, { on := 0, ground := Ground.phase }, { on := 1, ground := Ground.phase }, { on := 2, ground := Ground.phase }, { on := 3, ground := Ground.phase }, { on := 4, ground := Ground.phase }, { on := 5, ground := Ground.phase }, { on := 6, ground := Ground.phase }, { on := 7, ground := Ground.phase }, { on := 8, ground := Ground.phase }, { on := 9, ground := Ground.phase }, { on := 10, ground := Ground.phase }, { on := 11, ground := Ground.phase }, { on := 12, ground := Ground.phase }, { on := 13, ground := Ground.phase }, { on := 14, ground := Ground.phase }, { on := 15, ground := Ground.phase }, { on := 16, ground := Ground.phase }, { on := 17, ground := Ground.phase }, { on := 18, ground := Ground.phase }, { on := 19, ground := Ground.phase }], guard := none }) (v := ?_) rfl (by kernel_rfl) (by kernel_rfl) (by kernel_rfl) (fun _ _ _ h => h) (Or.inl ⟨by rfl, ?_⟩) hS ?_; rotate_left; focus (intro w' hSw; obtain ⟨s0, s1, sb⟩ := hSw; go_simp <;> try with_reducible rfl))
    try simp only [Act.put, List.setIfInBounds_toArray, List.set_cons_zero, List.set_cons_succ]
    refine wpAnyH_done (by kernel_rfl) ?_ _
    obtain ⟨s0, s1, sb⟩ := hS
    obtain ⟨_, _, _, _, _, _, _, _, _⟩ := s0.out9
    go_wp2_with fail
    go_meet
    refine ⟨congrArg (Value.int .i64) ?_, s0, s1, sb⟩
    rw [← HT.out]
    have := b01_lo (decide (t < b % 4096)); have := b01_hi (decide (t < b % 4096)); have := b01_lo g; have := b01_hi g
    unfold t14 ltB
    generalize b01 (decide (t < b % 4096)) = x1 at *
    generalize b01 g = x2 at *
    simp only [IntKind.wrap_i64, wrap64]
    rw [Int.tmod_eq_emod_of_nonneg (by omega)]
    omega
  case rest =>
    obtain ⟨rfl, V0, V1, kv⟩ := hcut
    clear A0 A1 R1 kb
    obtain ⟨_, _, _, _, _, _, _, _, _⟩ := V0.out9
    have kz0 : Bh wc wc.heap.size wc := ⟨Kp.refl _, Nat.le_refl _, Nat.le_refl _⟩
    have hz1 : w.heap.size < wc.heap.size := by have := kv.le; omega
    have hz2 : w.heap.size + 2 ≤ wc.heap.size := kv.le
    rcases hbig with hbig | ⟨hbig, rfl⟩
    · go_upto_region 10 with (first
        | (go_at_call 71; (with_reducible refine (one_w _ _).mono ?_); rintro e' w' ⟨rfl, rfl⟩)
        | (go_at_call 72; (with_reducible refine (PA.out _).mono ?_); rintro e' w' ⟨rfl, rfl⟩)
        | (go_at_call 72; (with_reducible refine (PB.out _).mono ?_); rintro e' w' ⟨rfl, rfl⟩))
      go_cut [12] (fun s12 wx => ∃ i : Nat, s12 = .pointer (some ⟨i, 0, none⟩) ∧ wx.cell? ⟨i, 0, none⟩ = some (.int .u64 BH) ∧ wx.cell? ⟨i, 1, none⟩ = some (.int .u64 BL) ∧ w.heap.size + 2 ≤ i ∧ i < wx.heap.size ∧ Kp wc wx)
      case first =>
        go_region_held3 (fun w' => w'.cell? ⟨w.heap.size, 5, none⟩ = some (.int .i64 b) ∧ Bh wc (wc.heap.size) w')
          (first | (refine ⟨?_, ?_⟩ <;> first | with_reducible assumption | ((repeat' (first | with_reducible assumption | with_reducible apply Bh.drew | with_reducible apply Bh.alloc | with_reducible apply Bh.set | with_reducible refine Bh.cell_set (n := wc.heap.size) (p := ⟨_, _, none⟩) ?_ ?_ ?_ | with_reducible refine Bh.cell_alloc (W := wc) (n := wc.heap.size) (p := ⟨_, _, none⟩) ?_ ?_ ?_ | (dsimp only; omega))); done) | (with_reducible apply Bh.drew; assumption) | (simp [go_sem, *]; done)))
          (first
            | (go_at_call 74; go_split_ands; with_reducible refine (U1.out _).mono ?_; rintro e w' ⟨rfl, qk⟩; have q0 : w'.cell? ⟨w.heap.size, 5, none⟩ = some (.int .i64 b) := Bh.cell (n := wc.heap.size) (W := wc) (by with_reducible assumption) qk (by dsimp only; omega) (by with_reducible assumption); have qb : Bh wc (wc.heap.size) w' := Bh.step (by with_reducible assumption) qk; have ql := qb.le; (try have hx := Kp.chain hy qk (by first | exact Nat.le_refl _ | (simp; done) | (simp; omega))); (try have hx1 := (Kp.up1 hx).1); (try have hx2 := (Kp.up1 hx).2.1); (try have hx3 := (Kp.up1 hx).2.2); (try have hy := Kp.chain hz qk (by first | exact Nat.le_refl _ | (simp; done) | (simp; omega))); (try have hy1 := (Kp.up1 hy).1); (try have hy2 := (Kp.up1 hy).2.1); (try have hy3 := (Kp.up1 hy).2.2); obtain ⟨hc, hf, hz⟩ := qk.cells; (try have hz1 := (Kp.up1 hz).1); (try have hz2 := (Kp.up1 hz).2.1); (try have hz3 := (Kp.up1 hz).2.2); clear qk)
            | (go_at_call 74; go_split_ands; with_reducible refine (X1.out _).mono ?_; rintro e w' ⟨rfl, qk⟩; have q0 : w'.cell? ⟨w.heap.size, 5, none⟩ = some (.int .i64 b) := Bh.cell (n := wc.heap.size) (W := wc) (by with_reducible assumption) qk (by dsimp only; omega) (by with_reducible assumption); have qb : Bh wc (wc.heap.size) w' := Bh.step (by with_reducible assumption) qk; have ql := qb.le; (try have hx := Kp.chain hy qk (by first | exact Nat.le_refl _ | (simp; done) | (simp; omega))); (try have hx1 := (Kp.up1 hx).1); (try have hx2 := (Kp.up1 hx).2.1); (try have hx3 := (Kp.up1 hx).2.2); (try have hy := Kp.chain hz qk (by first | exact Nat.le_refl _ | (simp; done) | (simp; omega))); (try have hy1 := (Kp.up1 hy).1); (try have hy2 := (Kp.up1 hy).2.1); (try have hy3 := (Kp.up1 hy).2.2); obtain ⟨hc, hf, hz⟩ := qk.cells; (try have hz1 := (Kp.up1 hz).1); (try have hz2 := (Kp.up1 hz).2.1); (try have hz3 := (Kp.up1 hz).2.2); clear qk)
            | (go_at_call 73; go_split_ands; with_reducible refine (D1.out _).mono ?_; rintro e w' ⟨rfl, qk⟩; have q0 : w'.cell? ⟨w.heap.size, 5, none⟩ = some (.int .i64 b) := Bh.cell (n := wc.heap.size) (W := wc) (by with_reducible assumption) qk (by dsimp only; omega) (by with_reducible assumption); have qb : Bh wc (wc.heap.size) w' := Bh.step (by with_reducible assumption) qk; have ql := qb.le; (try have hx := Kp.chain hy qk (by first | exact Nat.le_refl _ | (simp; done) | (simp; omega))); (try have hx1 := (Kp.up1 hx).1); (try have hx2 := (Kp.up1 hx).2.1); (try have hx3 := (Kp.up1 hx).2.2); (try have hy := Kp.chain hz qk (by first | exact Nat.le_refl _ | (simp; done) | (simp; omega))); (try have hy1 := (Kp.up1 hy).1); (try have hy2 := (Kp.up1 hy).2.1); (try have hy3 := (Kp.up1 hy).2.2); obtain ⟨hc, hf, hz⟩ := qk.cells; (try have hz1 := (Kp.up1 hz).1); (try have hz2 := (Kp.up1 hz).2.1); (try have hz3 := (Kp.up1 hz).2.2); clear qk))
        all_goals
          rename_i hh
          have hB := hh.2
          have hBl := hB.le
          clear hh
          go_wp2_with fail
          go_meet
          refine ⟨_, rfl, ?_, ?_, ?_, ?_, hB.kp⟩
        all_goals first
          | (simp [go_sem, *]; done)
          | omega
          | (simp (maxDischargeDepth := 8) [go_sem, *]; done)
          | (simp; omega)
          | (simp [*]; omega)
      case rest =>
        rename_i v1
        obtain ⟨i, rfl, i0, i1, hi1, hi2, hk⟩ := hcut
        have kq : Kp w wc := kv.kp.trans hk
        have B0 : At (i) [.int .u64 BH, .int .u64 BL] wc := fun j v hj => by
          match j with
          | 0 => simp at hj; subst hj; exact i0
          | 1 => simp at hj; subst hj; exact i1
          | j + 2 => simp at hj
        have B1 : Rm (w.heap.size + 1) 3 wc := Rm.kp V1 hk (by omega)
        have kc : Bh w (wc.heap.size) wc := ⟨kq, kq.size, Nat.le_refl _⟩
        obtain ⟨N, hN⟩ : ∃ N, wc.heap.size = N := ⟨_, rfl⟩
        have hsz := hk.size
        rw [hN] at hi2 kc
        clear hN hk kq V0 V1 kv i0 i1
        have hnw : w.heap.size + 2 ≤ N := by omega
        have ho : ∃ x, O = x := ⟨_, rfl⟩
        cases he : decide (e < 51) <;> cases F
        all_goals
          have h := HO.out
          rw [he] at h
          simp only [Bool.false_and, Bool.true_and, Bool.and_false, Bool.and_true, if_true, if_false, Bool.false_eq_true] at h
          subst h
          clear HO ho
          go_wp2_with (first
            | (go_at_call 74; (with_reducible refine (U2.out _).mono ?_); rintro e' w3 ⟨rfl, qk⟩; have kbw3 : Bh w (N) w3 := Bh.step kc qk; have Aw30 := At.kp B0 qk (Nat.lt_of_lt_of_le (show i < N by omega) (Bh.le (W := w) kc)); have Aw30_0 := Aw30 0 _ rfl; have Aw30_1 := Aw30 1 _ rfl; have Rw31 := Rm.kp B1 qk (Nat.lt_of_lt_of_le (show w.heap.size + 1 < N by omega) (Bh.le (W := w) kc)); obtain ⟨⟨_, _⟩, _, ⟨_, _⟩, _, ⟨_, _⟩, _⟩ := Rw31.out3; clear qk)
            | (go_at_call 74; (with_reducible refine (X2.out _).mono ?_); rintro e' w4 ⟨rfl, qk⟩; have kbw4 : Bh w (N) w4 := Bh.step (by with_reducible assumption) qk; have Aw40 : At (i) [.int .u64 BH, .int .u64 BL] w4 := At.kp (by with_reducible assumption) qk (Nat.lt_of_lt_of_le (show i < N by omega) (Bh.le (W := w) (by with_reducible assumption))); have Aw40_0 := Aw40 0 _ rfl; have Aw40_1 := Aw40 1 _ rfl; have Rw41 : Rm (w.heap.size + 1) 3 w4 := Rm.kp (by with_reducible assumption) qk (Nat.lt_of_lt_of_le (show w.heap.size + 1 < N by omega) (Bh.le (W := w) (by with_reducible assumption))); obtain ⟨⟨_, _⟩, _, ⟨_, _⟩, _, ⟨_, _⟩, _⟩ := Rw41.out3; clear qk)
            | (go_at_call 73; (with_reducible refine (D2.out _).mono ?_); rintro e' w5 ⟨rfl, qk⟩; have kbw5 : Bh w (N) w5 := Bh.step (by with_reducible assumption) qk; have Aw50 : At (i) [.int .u64 BH, .int .u64 BL] w5 := At.kp (by with_reducible assumption) qk (Nat.lt_of_lt_of_le (show i < N by omega) (Bh.le (W := w) (by with_reducible assumption))); have Aw50_0 := Aw50 0 _ rfl; have Aw50_1 := Aw50 1 _ rfl; have Rw51 : Rm (w.heap.size + 1) 3 w5 := Rm.kp (by with_reducible assumption) qk (Nat.lt_of_lt_of_le (show w.heap.size + 1 < N by omega) (Bh.le (W := w) (by with_reducible assumption))); obtain ⟨⟨_, _⟩, _, ⟨_, _⟩, _, ⟨_, _⟩, _⟩ := Rw51.out3; have lw5 := kbw5.le; have hr := kbw5.lo; have qa0 : i < w5.heap.size := (by omega); have qa1 : ¬ i = w5.heap.size := (by omega); have qa2 : ¬ w5.heap.size = i := (by omega); have qb0 : w.heap.size + 1 < w5.heap.size := (by omega); have qb1 : ¬ w.heap.size + 1 = w5.heap.size := (by omega); have qb2 : ¬ w5.heap.size = w.heap.size + 1 := (by omega); have qc1 : ¬ w.heap.size + 1 = i := (by omega); have qc2 : ¬ i = w.heap.size + 1 := (by omega); clear qk))
          refine bodyPost_ret (v := _) ?_ rfl ⟨rfl, ?_⟩
          · simp [results, Try.results45, go_sem, *]
            try (rw [Bool.eq_iff_iff]; simp <;> omega)
          · repeat' (first | with_reducible refine Kp.setCell ?_ ?_ _ | with_reducible refine Kp.allocs ?_ _ _)
            all_goals first | exact kbw5.kp | (dsimp only; omega)
    · go_upto_region 10 with (first
        | (go_at_call 71; (with_reducible refine (one_w _ _).mono ?_); rintro e' w' ⟨rfl, rfl⟩)
        | (go_at_call 72; (with_reducible refine (PA.out _).mono ?_); rintro e' w' ⟨rfl, rfl⟩)
        | (go_at_call 72; (with_reducible refine (PB.out _).mono ?_); rintro e' w' ⟨rfl, rfl⟩))
      go_cut [12] (fun s12 wx => ∃ i : Nat, s12 = .pointer (some ⟨i, 0, none⟩) ∧ wx.cell? ⟨i, 0, none⟩ = some (.int .u64 BH) ∧ wx.cell? ⟨i, 1, none⟩ = some (.int .u64 BL) ∧ w.heap.size + 2 ≤ i ∧ i < wx.heap.size ∧ Kp wc wx)
      case first =>
        go_region_held3 (fun w' => w'.cell? ⟨w.heap.size, 5, none⟩ = some (.int .i64 b) ∧ Bh wc (wc.heap.size) w')
          (first | (refine ⟨?_, ?_⟩ <;> first | with_reducible assumption | ((repeat' (first | with_reducible assumption | with_reducible apply Bh.drew | with_reducible apply Bh.alloc | with_reducible apply Bh.set | with_reducible refine Bh.cell_set (n := wc.heap.size) (p := ⟨_, _, none⟩) ?_ ?_ ?_ | with_reducible refine Bh.cell_alloc (W := wc) (n := wc.heap.size) (p := ⟨_, _, none⟩) ?_ ?_ ?_ | (dsimp only; omega))); done) | (with_reducible apply Bh.drew; assumption) | (simp [go_sem, *]; done)))
          (first
            | (go_at_call 74; go_split_ands; with_reducible refine (U1.out _).mono ?_; rintro e w' ⟨rfl, qk⟩; have q0 : w'.cell? ⟨w.heap.size, 5, none⟩ = some (.int .i64 b) := Bh.cell (n := wc.heap.size) (W := wc) (by with_reducible assumption) qk (by dsimp only; omega) (by with_reducible assumption); have qb : Bh wc (wc.heap.size) w' := Bh.step (by with_reducible assumption) qk; have ql := qb.le; (try have hx := Kp.chain hy qk (by first | exact Nat.le_refl _ | (simp; done) | (simp; omega))); (try have hx1 := (Kp.up1 hx).1); (try have hx2 := (Kp.up1 hx).2.1); (try have hx3 := (Kp.up1 hx).2.2); (try have hy := Kp.chain hz qk (by first | exact Nat.le_refl _ | (simp; done) | (simp; omega))); (try have hy1 := (Kp.up1 hy).1); (try have hy2 := (Kp.up1 hy).2.1); (try have hy3 := (Kp.up1 hy).2.2); obtain ⟨hc, hf, hz⟩ := qk.cells; (try have hz1 := (Kp.up1 hz).1); (try have hz2 := (Kp.up1 hz).2.1); (try have hz3 := (Kp.up1 hz).2.2); clear qk)
            | (go_at_call 74; go_split_ands; with_reducible refine (X1.out _).mono ?_; rintro e w' ⟨rfl, qk⟩; have q0 : w'.cell? ⟨w.heap.size, 5, none⟩ = some (.int .i64 b) := Bh.cell (n := wc.heap.size) (W := wc) (by with_reducible assumption) qk (by dsimp only; omega) (by with_reducible assumption); have qb : Bh wc (wc.heap.size) w' := Bh.step (by with_reducible assumption) qk; have ql := qb.le; (try have hx := Kp.chain hy qk (by first | exact Nat.le_refl _ | (simp; done) | (simp; omega))); (try have hx1 := (Kp.up1 hx).1); (try have hx2 := (Kp.up1 hx).2.1); (try have hx3 := (Kp.up1 hx).2.2); (try have hy := Kp.chain hz qk (by first | exact Nat.le_refl _ | (simp; done) | (simp; omega))); (try have hy1 := (Kp.up1 hy).1); (try have hy2 := (Kp.up1 hy).2.1); (try have hy3 := (Kp.up1 hy).2.2); obtain ⟨hc, hf, hz⟩ := qk.cells; (try have hz1 := (Kp.up1 hz).1); (try have hz2 := (Kp.up1 hz).2.1); (try have hz3 := (Kp.up1 hz).2.2); clear qk)
            | (go_at_call 73; go_split_ands; with_reducible refine (D1.out _).mono ?_; rintro e w' ⟨rfl, qk⟩; have q0 : w'.cell? ⟨w.heap.size, 5, none⟩ = some (.int .i64 b) := Bh.cell (n := wc.heap.size) (W := wc) (by with_reducible assumption) qk (by dsimp only; omega) (by with_reducible assumption); have qb : Bh wc (wc.heap.size) w' := Bh.step (by with_reducible assumption) qk; have ql := qb.le; (try have hx := Kp.chain hy qk (by first | exact Nat.le_refl _ | (simp; done) | (simp; omega))); (try have hx1 := (Kp.up1 hx).1); (try have hx2 := (Kp.up1 hx).2.1); (try have hx3 := (Kp.up1 hx).2.2); (try have hy := Kp.chain hz qk (by first | exact Nat.le_refl _ | (simp; done) | (simp; omega))); (try have hy1 := (Kp.up1 hy).1); (try have hy2 := (Kp.up1 hy).2.1); (try have hy3 := (Kp.up1 hy).2.2); obtain ⟨hc, hf, hz⟩ := qk.cells; (try have hz1 := (Kp.up1 hz).1); (try have hz2 := (Kp.up1 hz).2.1); (try have hz3 := (Kp.up1 hz).2.2); clear qk))
        all_goals
          rename_i hh
          have hB := hh.2
          have hBl := hB.le
          clear hh
          go_wp2_with fail
          go_meet
          refine ⟨_, rfl, ?_, ?_, ?_, ?_, hB.kp⟩
        all_goals first
          | (simp [go_sem, *]; done)
          | omega
          | (simp (maxDischargeDepth := 8) [go_sem, *]; done)
          | (simp; omega)
          | (simp [*]; omega)
      case rest =>
        rename_i v1
        obtain ⟨i, rfl, i0, i1, hi1, hi2, hk⟩ := hcut
        have kq : Kp w wc := kv.kp.trans hk
        have B0 : At (i) [.int .u64 BH, .int .u64 BL] wc := fun j v hj => by
          match j with
          | 0 => simp at hj; subst hj; exact i0
          | 1 => simp at hj; subst hj; exact i1
          | j + 2 => simp at hj
        have B1 : Rm (w.heap.size + 1) 3 wc := Rm.kp V1 hk (by omega)
        have kc : Bh w (wc.heap.size) wc := ⟨kq, kq.size, Nat.le_refl _⟩
        obtain ⟨N, hN⟩ : ∃ N, wc.heap.size = N := ⟨_, rfl⟩
        have hsz := hk.size
        rw [hN] at hi2 kc
        clear hN hk kq V0 V1 kv i0 i1
        have hnw : w.heap.size + 2 ≤ N := by omega
        have ho : ∃ x, O = x := ⟨_, rfl⟩
        cases he : decide (e < 51) <;> cases F
        all_goals
          have h := HO.out
          rw [he] at h
          simp only [Bool.false_and, Bool.true_and, Bool.and_false, Bool.and_true, if_true, if_false, Bool.false_eq_true] at h
          subst h
          clear HO ho
          go_wp2_with (first
            | (go_at_call 74; (with_reducible refine (U2.out _).mono ?_); rintro e' w3 ⟨rfl, qk⟩; have kbw3 : Bh w (N) w3 := Bh.step kc qk; have Aw30 := At.kp B0 qk (Nat.lt_of_lt_of_le (show i < N by omega) (Bh.le (W := w) kc)); have Aw30_0 := Aw30 0 _ rfl; have Aw30_1 := Aw30 1 _ rfl; have Rw31 := Rm.kp B1 qk (Nat.lt_of_lt_of_le (show w.heap.size + 1 < N by omega) (Bh.le (W := w) kc)); obtain ⟨⟨_, _⟩, _, ⟨_, _⟩, _, ⟨_, _⟩, _⟩ := Rw31.out3; clear qk)
            | (go_at_call 74; (with_reducible refine (X2.out _).mono ?_); rintro e' w4 ⟨rfl, qk⟩; have kbw4 : Bh w (N) w4 := Bh.step (by with_reducible assumption) qk; have Aw40 : At (i) [.int .u64 BH, .int .u64 BL] w4 := At.kp (by with_reducible assumption) qk (Nat.lt_of_lt_of_le (show i < N by omega) (Bh.le (W := w) (by with_reducible assumption))); have Aw40_0 := Aw40 0 _ rfl; have Aw40_1 := Aw40 1 _ rfl; have Rw41 : Rm (w.heap.size + 1) 3 w4 := Rm.kp (by with_reducible assumption) qk (Nat.lt_of_lt_of_le (show w.heap.size + 1 < N by omega) (Bh.le (W := w) (by with_reducible assumption))); obtain ⟨⟨_, _⟩, _, ⟨_, _⟩, _, ⟨_, _⟩, _⟩ := Rw41.out3; clear qk)
            | (go_at_call 73; (with_reducible refine (D2.out _).mono ?_); rintro e' w5 ⟨rfl, qk⟩; have kbw5 : Bh w (N) w5 := Bh.step (by with_reducible assumption) qk; have Aw50 : At (i) [.int .u64 BH, .int .u64 BL] w5 := At.kp (by with_reducible assumption) qk (Nat.lt_of_lt_of_le (show i < N by omega) (Bh.le (W := w) (by with_reducible assumption))); have Aw50_0 := Aw50 0 _ rfl; have Aw50_1 := Aw50 1 _ rfl; have Rw51 : Rm (w.heap.size + 1) 3 w5 := Rm.kp (by with_reducible assumption) qk (Nat.lt_of_lt_of_le (show w.heap.size + 1 < N by omega) (Bh.le (W := w) (by with_reducible assumption))); obtain ⟨⟨_, _⟩, _, ⟨_, _⟩, _, ⟨_, _⟩, _⟩ := Rw51.out3; have lw5 := kbw5.le; have hr := kbw5.lo; have qa0 : i < w5.heap.size := (by omega); have qa1 : ¬ i = w5.heap.size := (by omega); have qa2 : ¬ w5.heap.size = i := (by omega); have qb0 : w.heap.size + 1 < w5.heap.size := (by omega); have qb1 : ¬ w.heap.size + 1 = w5.heap.size := (by omega); have qb2 : ¬ w5.heap.size = w.heap.size + 1 := (by omega); have qc1 : ¬ w.heap.size + 1 = i := (by omega); have qc2 : ¬ i = w.heap.size + 1 := (by omega); clear qk))
          refine bodyPost_ret (v := _) ?_ rfl ⟨rfl, ?_⟩
          · simp [results, Try.results45, go_sem, *]
            try (rw [Bool.eq_iff_iff]; simp <;> omega)
          · repeat' (first | with_reducible refine Kp.setCell ?_ ?_ _ | with_reducible refine Kp.allocs ?_ _ _)
            all_goals first | exact kbw5.kp | (dsimp only; omega)
end Go.Proofs.Ytmehbildddlgaaa
