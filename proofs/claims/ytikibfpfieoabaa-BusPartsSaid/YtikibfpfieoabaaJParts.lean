/-
  BusParts of layer 15: its walk. No condition but what the calls lean on.
-/
import Derived.Test.YtikibfpfieoabaaJRam
import Derived.LoopTactic
namespace Go.Proofs.Ytikibfpfieoabaa
open Go.ChangeShapes Go.WideShapes Go.ChangeAt Go.RowKit
set_option linter.unusedVariables false
set_option linter.unusedSimpArgs false
set_option maxRecDepth 4000
theorem or_0 (x : Int) (x0 : 0 ≤ x) (x1 : x < 18446744073709551616) : bits .or .u64 0 x = x := by
  obtain ⟨c, rfl⟩ := Int.eq_ofNat_of_zero_le x0
  have h := bits_or_u64_nat 0 c (by omega) (by omega)
  rw [Nat.zero_or] at h
  exact h
/-- A number's lowest bytes. -/
def pm (a : Int) : Nat → Int
  | 0 => 0
  | 1 => a % 256
  | 2 => a % 65536
  | 3 => a % 16777216
  | 4 => a % 4294967296
  | 5 => a % 1099511627776
  | 6 => a % 281474976710656
  | 7 => a % 72057594037927936
  | 8 => a % 18446744073709551616
  | _ => 0
set_option maxRecDepth 100000 in
set_option maxHeartbeats 32000000 in
theorem parts_w (at' a b : Int) (t0 : 0 ≤ at') (t1 : at' < 18446744073709551616) (a0 : 0 ≤ a) (a1 : a < 18446744073709551616) (b0 : 0 ≤ b) (b1 : b < 18446744073709551616) (W : World) (tb : JTb W) :
    Calls Try.prog 5 #[.int .u64 at', .int .u64 a, .int .u64 b] W fun e w' => e = .returned (.bool true) ∧ Below W.heap.size W w' := by
  have HTB := Lib.hid tb
  have NK0 := Lib.hid b4_ok
  clear tb
  go_enter Try.func5, Try.ntmps5
  go_upto_region 3 with (first | (go_at_call 7; (with_reducible refine (cjnew_4k _ HTB.out).mono ?_); rintro e' w0 ⟨g, rfl, m0, b0⟩; have hs0 := b0.size; have H0 := Lib.hid (OneJ.mk m0 b0); clear m0 b0))
  obtain ⟨q, hq⟩ : ∃ q : Nat, at' % 256 = (q : Int) := ⟨(at' % 256).toNat, by omega⟩
  have hq1 : q < 256 := by omega
  obtain ⟨P, hP⟩ : ∃ P : Int, P = 2147483648 + (q : Int) * 16 := ⟨_, rfl⟩
  rw [hq, ← hP]
  have hf := pF q hq1 a b a0 a1 b0 b1
  rw [show 2147483648 + ((16 * q : Nat) : Int) = P by omega, show 2147483648 + ((16 * q + 8 : Nat) : Int) = P + 8 by omega] at hf
  obtain ⟨S1, hS1⟩ : ∃ S1, (BS.new 4096).stS P 8 a = S1 := ⟨_, rfl⟩
  have NK1 : Hid S1.Ok := Lib.hid (by rw [← hS1]; exact b4_ok.stS _ _ _ a0 a1)
  rw [hS1] at hf
  obtain ⟨S, hS⟩ : ∃ S, S1.stS (P + 8) 8 b = S := ⟨_, rfl⟩
  rw [hS] at hf
  have HF := Lib.hid hf.2.2
  have OK := Lib.hid hf.2.2.ok
  have h1 := Lib.hid hf.1
  have h2 := Lib.hid hf.2.1
  have HS1 := Lib.hid hS1
  have HS := Lib.hid hS
  clear hf hS hS1
  have p0 : 2147483648 ≤ P := by omega
  have p1 : P ≤ 2147487728 := by omega
  clear hq hP
  go_upto_region 5 with (first | (go_at_call 11; (with_reducible refine (cjstore_at H0.out.o NK0.out (JTb.h1 HTB (Lib.hid H0.out.b)) P 8 a true S1 h1.out HS1.out (by omega) (by omega) (by decide) (by decide) a0 a1).mono ?_); rintro e' w1 ⟨rfl, m1, f1⟩; have hs1 := f1.size; have H1 := Lib.hid (H0.out.code m1 f1); clear m1 f1) | (go_at_call 11; (with_reducible refine (cjstore_at H1.out.o NK1.out (JTb.h1 HTB (Lib.hid H1.out.b)) (P + 8) 8 b true S h2.out HS.out (by omega) (by omega) (by decide) (by decide) b0 b1).mono ?_); rintro e' w2 ⟨rfl, m2, f2⟩; have hs2 := f2.size; have H2 := Lib.hid (H1.out.code m2 f2); clear m2 f2))
  have hbw : w0.heap.size ≤ w2.heap.size := by omega
  generalize hhi : w0.heap.size = hi at *
  have H3 := H2
  clear H0 H1 H2 h1 h2 HS1 HS hhi
  go_wp2
  go_loopw [10] (fun z wr => ∃ s : Int, (s = 1 ∨ s = 2 ∨ s = 4 ∨ s = 8 ∨ s = 16) ∧ z = .int .i64 s ∧ OneJ W wr hi g S) (fun z _ => 16 - (intOf z).toNat)
  case atStart => exact ⟨1, by decide, rfl, H3.out⟩
  case round =>
    clear H3
    obtain ⟨s, hs, rfl, h⟩ := hrel
    have H0 := Lib.hid h
    clear h
    rcases hs with rfl | rfl | rfl | rfl | rfl
    iterate 4 (rotate_left)
    · have H := H0
      clear H0
      have hcv := HF.out.cv
      have hun := fun w => unpack_w false a b b0 b1 w
      unfold unV at hcv
      obtain ⟨pe, hpe⟩ : ∃ x, fP (xk b) = x := ⟨_, rfl⟩
      obtain ⟨ty, hty⟩ : ∃ x, fY (xk b) = x := ⟨_, rfl⟩
      obtain ⟨mo, hmo⟩ : ∃ x, fM (xk b) = x := ⟨_, rfl⟩
      obtain ⟨ex, hex⟩ : ∃ x, fE (xk b) = x := ⟨_, rfl⟩
      obtain ⟨bb, hbb⟩ : ∃ x, fB (xk b) = x := ⟨_, rfl⟩
      obtain ⟨tt, htt⟩ : ∃ x, fT (xk b) = x := ⟨_, rfl⟩
      obtain ⟨bg, hbg⟩ : ∃ x, fG (xk b) = x := ⟨_, rfl⟩
      rw [hpe, hty, hmo, hex, hbb, htt, hbg] at hcv
      simp only [hpe, hty, hmo, hex, hbb, htt, hbg] at hun
      have HCV := Lib.hid hcv
      have HUN := Lib.hid hun
      clear hcv hun hpe hty hmo hex hbb htt hbg
      go_upto_region 19 with (first | (go_at_call 9; (with_reducible refine (cjloadcap_at H.out.o OK.out (JTb.h1 HTB (Lib.hid H.out.b)) P (.agg #[.bool false, .int .i64 pe, .int .i64 ty, .int .i64 mo, .int .i64 ex, .int .i64 bb, .int .i64 tt, .bool bg, .int .u64 a]) true HCV.out HF.out.co (by omega) (by omega)).mono ?_); rintro e' w5 ⟨rfl, m5, f5⟩; have hs5 := f5.size; have H5 := Lib.hid (H.out.code m5 f5); clear m5 f5))
      have hA := At.new w5 [.bool false, .int .i64 pe, .int .i64 ty, .int .i64 mo, .int .i64 ex, .int .i64 bb, .int .i64 tt, .bool bg, .int .u64 a] 24
      have H6 := Lib.hid (H5.out.alloc (.cells ([.bool false, .int .i64 pe, .int .i64 ty, .int .i64 mo, .int .i64 ex, .int .i64 bb, .int .i64 tt, .bool bg, .int .u64 a] : List Value).toArray 24))
      have hs6 : (w5.alloc (.cells ([.bool false, .int .i64 pe, .int .i64 ty, .int .i64 mo, .int .i64 ex, .int .i64 bb, .int .i64 tt, .bool bg, .int .u64 a] : List Value).toArray 24)).heap.size = w5.heap.size + 1 := by simp
      rw [show ([.bool false, .int .i64 pe, .int .i64 ty, .int .i64 mo, .int .i64 ex, .int .i64 bb, .int .i64 tt, .bool bg, .int .u64 a] : List Value).toArray = #[.bool false, .int .i64 pe, .int .i64 ty, .int .i64 mo, .int .i64 ex, .int .i64 bb, .int .i64 tt, .bool bg, .int .u64 a] from rfl] at hA H6 hs6
      generalize w5.alloc (.cells #[.bool false, .int .i64 pe, .int .i64 ty, .int .i64 mo, .int .i64 ex, .int .i64 bb, .int .i64 tt, .bool bg, .int .u64 a] 24) = w6 at hA H6 hs6 ⊢
      generalize hb : w5.heap.size = b2 at *
      have hq : ∀ w, (binOp .eql 24 (.agg #[.bool false, .int .i64 pe, .int .i64 ty, .int .i64 mo, .int .i64 ex, .int .i64 bb, .int .i64 tt, .bool bg, .int .u64 a]) (.agg #[.bool false, .int .i64 pe, .int .i64 ty, .int .i64 mo, .int .i64 ex, .int .i64 bb, .int .i64 tt, .bool bg, .int .u64 a])).run Try.prog w = .ok (.bool true) w := fun w => (cap_eql _ _ _ _ _ _ _ _ _ _ _ _ _ _ _ _ _ _ w).trans (by rw [show capB false pe ty mo ex bb tt bg a false pe ty mo ex bb tt bg a = true from by simp [capB]])
      have haa : (a == a) = true := by simp
      refine wp_region_held_drew (S := fun w' => At (b2) [.bool false, .int .i64 pe, .int .i64 ty, .int .i64 mo, .int .i64 ex, .int .i64 bb, .int .i64 tt, .bool bg, .int .u64 a] w') (by kernel_rfl) (hA.drew) (fun hS => ?_)
      have Hd := Lib.hid (H6.out.kp (Kp.drew (Kp.refl w6)))
      have hsd : w6.drew.heap.size = w6.heap.size := rfl
      generalize w6.drew = g0 at hS Hd hsd ⊢
      (refine wpAnyH_take (i := 0) (oi := { dst := some 95, op := Go.Op.move (Go.Operand.tmp 16), type := 4, pos := "outright.go:119", after := #[], guard := none }) (v := ?_) rfl (by kernel_rfl) (by kernel_rfl) (by kernel_rfl) (fun _ _ _ h => h) (Or.inl ⟨by rfl, ?_⟩) hS ?_; rotate_left; focus (intro w' s0; go_simp <;> try with_reducible rfl))
      try simp only [Act.put, List.setIfInBounds_toArray, List.set_cons_zero, List.set_cons_succ]
      (refine wpAnyH_take (i := 1) (oi := { dst := some 96, op := Go.Op.move (Go.Operand.tmp 95), type := 4, pos := "outright.go:119", after := #[{ on := 0, ground := Go.Ground.data }], guard := none }) (v := ?_) rfl (by kernel_rfl) (by kernel_rfl) (by kernel_rfl) (fun _ _ _ h => h) (Or.inl ⟨by rfl, ?_⟩) hS ?_; rotate_left; focus (intro w' s0; go_simp <;> try with_reducible rfl))
      try simp only [Act.put, List.setIfInBounds_toArray, List.set_cons_zero, List.set_cons_succ]
      (refine wpAnyH_take (i := 2) (oi := { dst := some 97, op := Go.Op.fieldAddr 24 (Go.Operand.tmp 15) 0, type := 0, pos := "outright.go:119", after := #[{ on := 1, ground := Go.Ground.guard }], guard := some (1, true) }) (v := ?_) rfl (by kernel_rfl) (by kernel_rfl) (by kernel_rfl) (fun _ _ _ h => h) (Or.inl ⟨by rfl, ?_⟩) hS ?_; rotate_left; focus (intro w' s0; go_simp <;> try with_reducible rfl))
      try simp only [Act.put, List.setIfInBounds_toArray, List.set_cons_zero, List.set_cons_succ]
      (refine wpAnyH_take (i := 3) (oi := { dst := some 98, op := Go.Op.load 4 (Go.Operand.tmp 97), type := 4, pos := "outright.go:119", after := #[{ on := 2, ground := Go.Ground.data }, { on := 1, ground := Go.Ground.guard }], guard := some (1, true) }) (v := ?_) rfl (by kernel_rfl) (by kernel_rfl) (by kernel_rfl) (fun _ _ _ h => h) (Or.inl ⟨by rfl, ?_⟩) hS ?_; rotate_left; focus (intro w' s0; have c_0 := s0 0 _ rfl; have c_1 := s0 1 _ rfl; have c_2 := s0 2 _ rfl; have c_3 := s0 3 _ rfl; have c_4 := s0 4 _ rfl; have c_5 := s0 5 _ rfl; have c_6 := s0 6 _ rfl; have c_7 := s0 7 _ rfl; have c_8 := s0 8 _ rfl; go_simp <;> try with_reducible rfl))
      try simp only [Act.put, List.setIfInBounds_toArray, List.set_cons_zero, List.set_cons_succ]
      (refine wpAnyH_take (i := 4) (oi := { dst := some 99, op := Go.Op.unOp Go.UnOp.not 4 (Go.Operand.tmp 98), type := 4, pos := "outright.go:119", after := #[{ on := 3, ground := Go.Ground.data }, { on := 1, ground := Go.Ground.guard }], guard := some (1, true) }) (v := ?_) rfl (by kernel_rfl) (by kernel_rfl) (by kernel_rfl) (fun _ _ _ h => h) (Or.inl ⟨by rfl, ?_⟩) hS ?_; rotate_left; focus (intro w' s0; go_simp <;> try with_reducible rfl))
      try simp only [Act.put, List.setIfInBounds_toArray, List.set_cons_zero, List.set_cons_succ]
      (refine wpAnyH_take (i := 5) (oi := { dst := some 100, op := Go.Op.pick (Go.Operand.tmp 96) (Go.Operand.tmp 99) (Go.Operand.const (Go.Value.bool false)), type := 4, pos := "outright.go:119", after := #[{ on := 1, ground := Go.Ground.data }, { on := 4, ground := Go.Ground.data }], guard := none }) (v := ?_) rfl (by kernel_rfl) (by kernel_rfl) (by kernel_rfl) (fun _ _ _ h => h) (Or.inl ⟨by rfl, ?_⟩) hS ?_; rotate_left; focus (intro w' s0; go_simp <;> try with_reducible rfl))
      try simp only [Act.put, List.setIfInBounds_toArray, List.set_cons_zero, List.set_cons_succ]
      (refine wpAnyH_take (i := 6) (oi := { dst := some 101, op := Go.Op.move (Go.Operand.tmp 100), type := 4, pos := "outright.go:119", after := #[{ on := 5, ground := Go.Ground.data }, { on := 1, ground := Go.Ground.chain }], guard := none }) (v := ?_) rfl (by kernel_rfl) (by kernel_rfl) (by kernel_rfl) (fun _ _ _ h => h) (Or.inl ⟨by rfl, ?_⟩) hS ?_; rotate_left; focus (intro w' s0; go_simp <;> try with_reducible rfl))
      try simp only [Act.put, List.setIfInBounds_toArray, List.set_cons_zero, List.set_cons_succ]
      (refine wpAnyH_take (i := 7) (oi := { dst := some 102, op := Go.Op.fieldAddr 24 (Go.Operand.tmp 15) 8, type := 0, pos := "outright.go:119", after := #[{ on := 6, ground := Go.Ground.guard }], guard := some (6, true) }) (v := ?_) rfl (by kernel_rfl) (by kernel_rfl) (by kernel_rfl) (fun _ _ _ h => h) (Or.inl ⟨by rfl, ?_⟩) hS ?_; rotate_left; focus (intro w' s0; go_simp <;> try with_reducible rfl))
      try simp only [Act.put, List.setIfInBounds_toArray, List.set_cons_zero, List.set_cons_succ]
      (refine wpAnyH_take (i := 8) (oi := { dst := some 103, op := Go.Op.load 22 (Go.Operand.tmp 102), type := 22, pos := "outright.go:119", after := #[{ on := 7, ground := Go.Ground.data }, { on := 6, ground := Go.Ground.guard }], guard := some (6, true) }) (v := ?_) rfl (by kernel_rfl) (by kernel_rfl) (by kernel_rfl) (fun _ _ _ h => h) (Or.inl ⟨by rfl, ?_⟩) hS ?_; rotate_left; focus (intro w' s0; have c_0 := s0 0 _ rfl; have c_1 := s0 1 _ rfl; have c_2 := s0 2 _ rfl; have c_3 := s0 3 _ rfl; have c_4 := s0 4 _ rfl; have c_5 := s0 5 _ rfl; have c_6 := s0 6 _ rfl; have c_7 := s0 7 _ rfl; have c_8 := s0 8 _ rfl; go_simp <;> try with_reducible rfl))
      try simp only [Act.put, List.setIfInBounds_toArray, List.set_cons_zero, List.set_cons_succ]
      (refine wpAnyH_take (i := 9) (oi := { dst := some 104, op := Go.Op.move (Go.Operand.tmp 1), type := 22, pos := "outright.go:119", after := #[{ on := 6, ground := Go.Ground.guard }], guard := some (6, true) }) (v := ?_) rfl (by kernel_rfl) (by kernel_rfl) (by kernel_rfl) (fun _ _ _ h => h) (Or.inl ⟨by rfl, ?_⟩) hS ?_; rotate_left; focus (intro w' s0; go_simp <;> try with_reducible rfl))
      try simp only [Act.put, List.setIfInBounds_toArray, List.set_cons_zero, List.set_cons_succ]
      (refine wpAnyH_take (i := 10) (oi := { dst := some 105, op := Go.Op.binOp Go.BinOp.eql 22 (Go.Operand.tmp 103) (Go.Operand.tmp 104) 22, type := 4, pos := "outright.go:119", after := #[{ on := 8, ground := Go.Ground.data }, { on := 9, ground := Go.Ground.data }, { on := 6, ground := Go.Ground.guard }], guard := some (6, true) }) (v := ?_) rfl (by kernel_rfl) (by kernel_rfl) (by kernel_rfl) (fun _ _ _ h => h) (Or.inl ⟨by rfl, ?_⟩) hS ?_; rotate_left; focus (intro w' s0; go_simp <;> try with_reducible rfl))
      try simp only [Act.put, List.setIfInBounds_toArray, List.set_cons_zero, List.set_cons_succ]
      (refine wpAnyH_take (i := 11) (oi := { dst := some 106, op := Go.Op.pick (Go.Operand.tmp 101) (Go.Operand.tmp 105) (Go.Operand.const (Go.Value.bool false)), type := 4, pos := "outright.go:119", after := #[{ on := 6, ground := Go.Ground.data }, { on := 10, ground := Go.Ground.data }], guard := none }) (v := ?_) rfl (by kernel_rfl) (by kernel_rfl) (by kernel_rfl) (fun _ _ _ h => h) (Or.inl ⟨by rfl, ?_⟩) hS ?_; rotate_left; focus (intro w' s0; go_simp <;> try with_reducible rfl))
      try simp only [Act.put, List.setIfInBounds_toArray, List.set_cons_zero, List.set_cons_succ]
      (refine wpAnyH_take (i := 12) (oi := { dst := some 107, op := Go.Op.move (Go.Operand.tmp 106), type := 4, pos := "outright.go:119", after := #[{ on := 11, ground := Go.Ground.data }, { on := 6, ground := Go.Ground.chain }], guard := none }) (v := ?_) rfl (by kernel_rfl) (by kernel_rfl) (by kernel_rfl) (fun _ _ _ h => h) (Or.inl ⟨by rfl, ?_⟩) hS ?_; rotate_left; focus (intro w' s0; go_simp <;> try with_reducible rfl))
      try simp only [Act.put, List.setIfInBounds_toArray, List.set_cons_zero, List.set_cons_succ]
      (refine wpAnyH_take (i := 13) (oi := { dst := some 108, op := Go.Op.load 24 (Go.Operand.tmp 15), type := 24, pos := "outright.go:119", after := #[{ on := 12, ground := Go.Ground.guard }], guard := some (12, true) }) (v := ?_) rfl (by kernel_rfl) (by kernel_rfl) (by kernel_rfl) (fun _ _ _ h => h) (Or.inl ⟨by rfl, ?_⟩) hS ?_; rotate_left; focus (intro w' s0; have c_0 := s0 0 _ rfl; have c_1 := s0 1 _ rfl; have c_2 := s0 2 _ rfl; have c_3 := s0 3 _ rfl; have c_4 := s0 4 _ rfl; have c_5 := s0 5 _ rfl; have c_6 := s0 6 _ rfl; have c_7 := s0 7 _ rfl; have c_8 := s0 8 _ rfl; go_simp <;> try with_reducible rfl))
      try simp only [Act.put, List.setIfInBounds_toArray, List.set_cons_zero, List.set_cons_succ]
      (refine wpAnyH_take (i := 14) (oi := { dst := some 109, op := Go.Op.move (Go.Operand.tmp 1), type := 22, pos := "outright.go:119", after := #[{ on := 12, ground := Go.Ground.guard }], guard := some (12, true) }) (v := ?_) rfl (by kernel_rfl) (by kernel_rfl) (by kernel_rfl) (fun _ _ _ h => h) (Or.inl ⟨by rfl, ?_⟩) hS ?_; rotate_left; focus (intro w' s0; go_simp <;> try with_reducible rfl))
      try simp only [Act.put, List.setIfInBounds_toArray, List.set_cons_zero, List.set_cons_succ]
      (refine wpAnyH_take (i := 15) (oi := { dst := some 110, op := Go.Op.move (Go.Operand.tmp 2), type := 22, pos := "outright.go:119", after := #[{ on := 12, ground := Go.Ground.guard }], guard := some (12, true) }) (v := ?_) rfl (by kernel_rfl) (by kernel_rfl) (by kernel_rfl) (fun _ _ _ h => h) (Or.inl ⟨by rfl, ?_⟩) hS ?_; rotate_left; focus (intro w' s0; go_simp <;> try with_reducible rfl))
      try simp only [Act.put, List.setIfInBounds_toArray, List.set_cons_zero, List.set_cons_succ]
      refine wpAnyH_ready (rs := [16]) (by kernel_rfl) (by simp) ?_
      refine AllReadyH.cons (o := { dst := some 111, op := Go.Op.call { callee := Go.Callee.value (Go.Operand.func 16), args := #[Go.Operand.const (Go.Value.bool false), Go.Operand.tmp 109, Go.Operand.tmp 110], argTypes := #[4, 22, 22] }, type := 24, pos := "outright.go:119", after := #[{ on := 14, ground := Go.Ground.data }, { on := 15, ground := Go.Ground.data }, { on := 12, ground := Go.Ground.chain }, { on := 12, ground := Go.Ground.guard }], guard := some (12, true) }) rfl (fun K hK => ?_) AllReadyH.nil
      refine take_if (by rfl) ?_
      go_simp
      (with_reducible refine (HUN.out g0).mono ?_)
      rintro e' w7 ⟨rfl, k1⟩
      have hS2 : At (b2) [.bool false, .int .i64 pe, .int .i64 ty, .int .i64 mo, .int .i64 ex, .int .i64 bb, .int .i64 tt, .bool bg, .int .u64 a] w7 := hS.kp k1 (by omega)
      have hs7 := k1.1.size
      have H7 := Lib.hid (Hd.out.kp k1)
      clear k1
      refine hK.out _ _ hS2 (fun hS => ?_)
      clear hK K hS2
      try simp only [Act.put, List.setIfInBounds_toArray, List.set_cons_zero, List.set_cons_succ]
      (refine wpAnyH_take (i := 17) (oi := { dst := some 112, op := Go.Op.binOp Go.BinOp.eql 24 (Go.Operand.tmp 108) (Go.Operand.tmp 111) 24, type := 4, pos := "outright.go:119", after := #[{ on := 13, ground := Go.Ground.data }, { on := 16, ground := Go.Ground.data }, { on := 12, ground := Go.Ground.guard }], guard := some (12, true) }) (v := ?_) rfl (by kernel_rfl) (by kernel_rfl) (by kernel_rfl) (fun _ _ _ h => h) (Or.inl ⟨by rfl, ?_⟩) hS ?_; rotate_left; focus (intro w' s0; go_simp <;> try with_reducible rfl))
      try simp only [Act.put, List.setIfInBounds_toArray, List.set_cons_zero, List.set_cons_succ]
      (refine wpAnyH_take (i := 18) (oi := { dst := some 113, op := Go.Op.pick (Go.Operand.tmp 107) (Go.Operand.tmp 112) (Go.Operand.const (Go.Value.bool false)), type := 4, pos := "outright.go:119", after := #[{ on := 12, ground := Go.Ground.data }, { on := 17, ground := Go.Ground.data }], guard := none }) (v := ?_) rfl (by kernel_rfl) (by kernel_rfl) (by kernel_rfl) (fun _ _ _ h => h) (Or.inl ⟨by rfl, ?_⟩) hS ?_; rotate_left; focus (intro w' s0; go_simp <;> try with_reducible rfl))
      try simp only [Act.put, List.setIfInBounds_toArray, List.set_cons_zero, List.set_cons_succ]
      (refine wpAnyH_take (i := 19) (oi := { dst := some 114, op := Go.Op.move (Go.Operand.tmp 113), type := 4, pos := "outright.go:119", after := #[{ on := 18, ground := Go.Ground.data }, { on := 16, ground := Go.Ground.chain }], guard := none }) (v := ?_) rfl (by kernel_rfl) (by kernel_rfl) (by kernel_rfl) (fun _ _ _ h => h) (Or.inl ⟨by rfl, ?_⟩) hS ?_; rotate_left; focus (intro w' s0; go_simp <;> try with_reducible rfl))
      try simp only [Act.put, List.setIfInBounds_toArray, List.set_cons_zero, List.set_cons_succ]
      refine wpAnyH_ready (rs := [20]) (by kernel_rfl) (by simp) ?_
      refine AllReadyH.cons (o := { dst := some 115, op := Go.Op.call { callee := Go.Callee.value (Go.Operand.func 12), args := #[], argTypes := #[] }, type := 4, pos := "outright.go:119", after := #[{ on := 19, ground := Go.Ground.chain }, { on := 19, ground := Go.Ground.guard }], guard := some (19, true) }) rfl (fun K hK => ?_) AllReadyH.nil
      refine take_if (by rfl) ?_
      go_simp
      (with_reducible refine (known15_w _ (JTb.h1 HTB (Lib.hid H7.out.b))).mono ?_)
      rintro e' w9 ⟨rfl, b9⟩
      have hS2 : At (b2) [.bool false, .int .i64 pe, .int .i64 ty, .int .i64 mo, .int .i64 ex, .int .i64 bb, .int .i64 tt, .bool bg, .int .u64 a] w9 := hS.below b9 (by omega)
      have HZ := Lib.hid (H7.out.b.trans (b9.mono H7.out.b.size))
      clear b9
      refine hK.out _ _ hS2 (fun hS => ?_)
      clear hK K hS2
      try simp only [Act.put, List.setIfInBounds_toArray, List.set_cons_zero, List.set_cons_succ]
      (refine wpAnyH_take (i := 21) (oi := { dst := some 116, op := Go.Op.pick (Go.Operand.tmp 114) (Go.Operand.tmp 115) (Go.Operand.const (Go.Value.bool false)), type := 4, pos := "outright.go:119", after := #[{ on := 19, ground := Go.Ground.data }, { on := 20, ground := Go.Ground.data }], guard := none }) (v := ?_) rfl (by kernel_rfl) (by kernel_rfl) (by kernel_rfl) (fun _ _ _ h => h) (Or.inl ⟨by rfl, ?_⟩) hS ?_; rotate_left; focus (intro w' s0; go_simp <;> try with_reducible rfl))
      try simp only [Act.put, List.setIfInBounds_toArray, List.set_cons_zero, List.set_cons_succ]
      (refine wpAnyH_take (i := 22) (oi := { dst := some 6, op := Go.Op.assign (Go.Operand.tmp 116), type := 4, pos := "outright.go:119", after := #[{ on := 21, ground := Go.Ground.data }, { on := 20, ground := Go.Ground.chain }, { on := 0, ground := Go.Ground.phase }, { on := 1, ground := Go.Ground.phase }, { on := 2, ground := Go.Ground.phase }, { on := 3, ground := Go.Ground.phase }, { on := 4, ground := Go.Ground.phase }, { on := 5, ground := Go.Ground.phase }, { on := 6, ground := Go.Ground.phase }, { on := 7, ground := Go.Ground.phase }, { on := 8, ground := Go.Ground.phase }, { on := 9, ground := Go.Ground.phase }, { on := 10, ground := Go.Ground.phase }, { on := 11, ground := Go.Ground.phase }, { on := 12, ground := Go.Ground.phase }, { on := 13, ground := Go.Ground.phase }, { on := 14, ground := Go.Ground.phase }, { on := 15, ground := Go.Ground.phase }, { on := 16, ground := Go.Ground.phase }, { on := 17, ground := Go.Ground.phase }, { on := 18, ground := Go.Ground.phase }, { on := 19, ground := Go.Ground.phase }, { on := 20, ground := Go.Ground.phase }, { on := 21, ground := Go.Ground.phase }], guard := none }) (v := ?_) rfl (by kernel_rfl) (by kernel_rfl) (by kernel_rfl) (fun _ _ _ h => h) (Or.inl ⟨by rfl, ?_⟩) hS ?_; rotate_left; focus (intro w' s0; go_simp <;> try with_reducible rfl))
      try simp only [Act.put, List.setIfInBounds_toArray, List.set_cons_zero, List.set_cons_succ]
      refine wpAnyH_done (by kernel_rfl) ?_ _
      go_wp2
      go_ret
      exact ⟨rfl, HZ.out⟩
    all_goals go_wp2
    · -- size 1
      go_loopw [11, 12] (fun v z wr => ∃ n : Nat, (n = 0 ∨ n = 1 ∨ n = 2 ∨ n = 3 ∨ n = 4 ∨ n = 5 ∨ n = 6 ∨ n = 7 ∨ n = 8) ∧ z = .int .i64 (n : Int) ∧ v = .int .u64 (pm a n) ∧ OneJ W wr hi g S) (fun _ z _ => 8 - (intOf z).toNat)
      case atStart => exact ⟨0, by decide, rfl, rfl, H0.out⟩
      case round =>
        clear H0
        obtain ⟨n, hn, rfl, rfl, h⟩ := hrel
        have H := Lib.hid h
        clear h
        rcases hn with rfl | rfl | rfl | rfl | rfl | rfl | rfl | rfl | rfl
        · obtain ⟨x, hx⟩ : ∃ x, x = a / 1 % 256 := ⟨_, rfl⟩
          have hl := HF.out.ld 0 1 (by decide) (by decide)
          rw [show ((256 : Int) ^ 0) = 1 from by decide, show ((256 : Int) ^ 1) = 256 from by decide, ← hx] at hl
          have HL : Hid (S.ldV P 1 = x ∧ S.ldO P 1 = true ∧ S.ldS P 1 = S) := Lib.hid (by rw [show P + ((0 : Nat) : Int) = P by omega] at hl; exact hl)
          have x0 : 0 ≤ x := by omega
          have x1 : x < 256 := by omega
          have hv : bits .or .u64 0 x = a % 256 := by rw [or_0 x x0 (by omega)]; omega
          have HV := Lib.hid hv
          clear hl hx hv
          rw [show (((0 : Nat)) : Int) = 0 from rfl, show pm a 0 = 0 from rfl]
          go_wp2_with (first | (go_at_call 10; (with_reducible refine (cjload_at H.out.o OK.out (JTb.h1 HTB (Lib.hid H.out.b)) P 1 x true S HL.out.1 HL.out.2.1 HL.out.2.2 (by omega) (by omega) (by decide) (by decide)).mono ?_); rintro e' w1 ⟨rfl, m1, f1⟩; have hs1 := f1.size; have H1 := Lib.hid (H.out.code m1 f1); clear m1 f1))
          go_roundw
          case rel => exact ⟨1, by decide, rfl, by rw [show pm a 1 = a % 256 from rfl]; exact congrArg (Value.int .u64) HV.out, H1.out⟩
          case measure => simp [intOf]
        · obtain ⟨x, hx⟩ : ∃ x, x = a / 256 % 256 := ⟨_, rfl⟩
          have hl := HF.out.ld 1 1 (by decide) (by decide)
          rw [show ((256 : Int) ^ 1) = 256 from by decide, ← hx] at hl
          have HL : Hid (S.ldV (P + 1) 1 = x ∧ S.ldO (P + 1) 1 = true ∧ S.ldS (P + 1) 1 = S) := Lib.hid hl
          have x0 : 0 ≤ x := by omega
          have x1 : x < 256 := by omega
          have ho := or_gen (a % 256) x 8 8 (by decide) (by omega) (by rw [show ((2 : Int) ^ 8) = 256 from by decide]; omega) x0 (by rw [show ((2 : Int) ^ 8) = 256 from by decide]; omega)
          rw [show ((2 : Int) ^ 8) = 256 from by decide] at ho
          have hv : bits .or .u64 (a % 256) (x * 256) = a % 65536 := ho.trans (by omega)
          have HV := Lib.hid hv
          clear hl hx hv ho
          rw [show (((1 : Nat)) : Int) = 1 from rfl, show pm a 1 = a % 256 from rfl]
          go_wp2_with (first | (go_at_call 10; (with_reducible refine (cjload_at H.out.o OK.out (JTb.h1 HTB (Lib.hid H.out.b)) (P + 1) 1 x true S HL.out.1 HL.out.2.1 HL.out.2.2 (by omega) (by omega) (by decide) (by decide)).mono ?_); rintro e' w1 ⟨rfl, m1, f1⟩; have hs1 := f1.size; have H1 := Lib.hid (H.out.code m1 f1); clear m1 f1))
          go_roundw
          case rel => exact ⟨2, by decide, rfl, by rw [show pm a 2 = a % 65536 from rfl]; exact congrArg (Value.int .u64) HV.out, H1.out⟩
          case measure => simp [intOf]
        · obtain ⟨x, hx⟩ : ∃ x, x = a / 65536 % 256 := ⟨_, rfl⟩
          have hl := HF.out.ld 2 1 (by decide) (by decide)
          rw [show ((256 : Int) ^ 2) = 65536 from by decide, show ((256 : Int) ^ 1) = 256 from by decide, ← hx] at hl
          have HL : Hid (S.ldV (P + 2) 1 = x ∧ S.ldO (P + 2) 1 = true ∧ S.ldS (P + 2) 1 = S) := Lib.hid hl
          have x0 : 0 ≤ x := by omega
          have x1 : x < 256 := by omega
          have ho := or_gen (a % 65536) x 16 8 (by decide) (by omega) (by rw [show ((2 : Int) ^ 16) = 65536 from by decide]; omega) x0 (by rw [show ((2 : Int) ^ 8) = 256 from by decide]; omega)
          rw [show ((2 : Int) ^ 16) = 65536 from by decide] at ho
          have hv : bits .or .u64 (a % 65536) (x * 65536) = a % 16777216 := ho.trans (by omega)
          have HV := Lib.hid hv
          clear hl hx hv ho
          rw [show (((2 : Nat)) : Int) = 2 from rfl, show pm a 2 = a % 65536 from rfl]
          go_wp2_with (first | (go_at_call 10; (with_reducible refine (cjload_at H.out.o OK.out (JTb.h1 HTB (Lib.hid H.out.b)) (P + 2) 1 x true S HL.out.1 HL.out.2.1 HL.out.2.2 (by omega) (by omega) (by decide) (by decide)).mono ?_); rintro e' w1 ⟨rfl, m1, f1⟩; have hs1 := f1.size; have H1 := Lib.hid (H.out.code m1 f1); clear m1 f1))
          go_roundw
          case rel => exact ⟨3, by decide, rfl, by rw [show pm a 3 = a % 16777216 from rfl]; exact congrArg (Value.int .u64) HV.out, H1.out⟩
          case measure => simp [intOf]
        · obtain ⟨x, hx⟩ : ∃ x, x = a / 16777216 % 256 := ⟨_, rfl⟩
          have hl := HF.out.ld 3 1 (by decide) (by decide)
          rw [show ((256 : Int) ^ 3) = 16777216 from by decide, show ((256 : Int) ^ 1) = 256 from by decide, ← hx] at hl
          have HL : Hid (S.ldV (P + 3) 1 = x ∧ S.ldO (P + 3) 1 = true ∧ S.ldS (P + 3) 1 = S) := Lib.hid hl
          have x0 : 0 ≤ x := by omega
          have x1 : x < 256 := by omega
          have ho := or_gen (a % 16777216) x 24 8 (by decide) (by omega) (by rw [show ((2 : Int) ^ 24) = 16777216 from by decide]; omega) x0 (by rw [show ((2 : Int) ^ 8) = 256 from by decide]; omega)
          rw [show ((2 : Int) ^ 24) = 16777216 from by decide] at ho
          have hv : bits .or .u64 (a % 16777216) (x * 16777216) = a % 4294967296 := ho.trans (by omega)
          have HV := Lib.hid hv
          clear hl hx hv ho
          rw [show (((3 : Nat)) : Int) = 3 from rfl, show pm a 3 = a % 16777216 from rfl]
          go_wp2_with (first | (go_at_call 10; (with_reducible refine (cjload_at H.out.o OK.out (JTb.h1 HTB (Lib.hid H.out.b)) (P + 3) 1 x true S HL.out.1 HL.out.2.1 HL.out.2.2 (by omega) (by omega) (by decide) (by decide)).mono ?_); rintro e' w1 ⟨rfl, m1, f1⟩; have hs1 := f1.size; have H1 := Lib.hid (H.out.code m1 f1); clear m1 f1))
          go_roundw
          case rel => exact ⟨4, by decide, rfl, by rw [show pm a 4 = a % 4294967296 from rfl]; exact congrArg (Value.int .u64) HV.out, H1.out⟩
          case measure => simp [intOf]
        · obtain ⟨x, hx⟩ : ∃ x, x = a / 4294967296 % 256 := ⟨_, rfl⟩
          have hl := HF.out.ld 4 1 (by decide) (by decide)
          rw [show ((256 : Int) ^ 4) = 4294967296 from by decide, show ((256 : Int) ^ 1) = 256 from by decide, ← hx] at hl
          have HL : Hid (S.ldV (P + 4) 1 = x ∧ S.ldO (P + 4) 1 = true ∧ S.ldS (P + 4) 1 = S) := Lib.hid hl
          have x0 : 0 ≤ x := by omega
          have x1 : x < 256 := by omega
          have ho := or_gen (a % 4294967296) x 32 8 (by decide) (by omega) (by rw [show ((2 : Int) ^ 32) = 4294967296 from by decide]; omega) x0 (by rw [show ((2 : Int) ^ 8) = 256 from by decide]; omega)
          rw [show ((2 : Int) ^ 32) = 4294967296 from by decide] at ho
          have hv : bits .or .u64 (a % 4294967296) (x * 4294967296) = a % 1099511627776 := ho.trans (by omega)
          have HV := Lib.hid hv
          clear hl hx hv ho
          rw [show (((4 : Nat)) : Int) = 4 from rfl, show pm a 4 = a % 4294967296 from rfl]
          go_wp2_with (first | (go_at_call 10; (with_reducible refine (cjload_at H.out.o OK.out (JTb.h1 HTB (Lib.hid H.out.b)) (P + 4) 1 x true S HL.out.1 HL.out.2.1 HL.out.2.2 (by omega) (by omega) (by decide) (by decide)).mono ?_); rintro e' w1 ⟨rfl, m1, f1⟩; have hs1 := f1.size; have H1 := Lib.hid (H.out.code m1 f1); clear m1 f1))
          go_roundw
          case rel => exact ⟨5, by decide, rfl, by rw [show pm a 5 = a % 1099511627776 from rfl]; exact congrArg (Value.int .u64) HV.out, H1.out⟩
          case measure => simp [intOf]
        · obtain ⟨x, hx⟩ : ∃ x, x = a / 1099511627776 % 256 := ⟨_, rfl⟩
          have hl := HF.out.ld 5 1 (by decide) (by decide)
          rw [show ((256 : Int) ^ 5) = 1099511627776 from by decide, show ((256 : Int) ^ 1) = 256 from by decide, ← hx] at hl
          have HL : Hid (S.ldV (P + 5) 1 = x ∧ S.ldO (P + 5) 1 = true ∧ S.ldS (P + 5) 1 = S) := Lib.hid hl
          have x0 : 0 ≤ x := by omega
          have x1 : x < 256 := by omega
          have ho := or_gen (a % 1099511627776) x 40 8 (by decide) (by omega) (by rw [show ((2 : Int) ^ 40) = 1099511627776 from by decide]; omega) x0 (by rw [show ((2 : Int) ^ 8) = 256 from by decide]; omega)
          rw [show ((2 : Int) ^ 40) = 1099511627776 from by decide] at ho
          have hv : bits .or .u64 (a % 1099511627776) (x * 1099511627776) = a % 281474976710656 := ho.trans (by omega)
          have HV := Lib.hid hv
          clear hl hx hv ho
          rw [show (((5 : Nat)) : Int) = 5 from rfl, show pm a 5 = a % 1099511627776 from rfl]
          go_wp2_with (first | (go_at_call 10; (with_reducible refine (cjload_at H.out.o OK.out (JTb.h1 HTB (Lib.hid H.out.b)) (P + 5) 1 x true S HL.out.1 HL.out.2.1 HL.out.2.2 (by omega) (by omega) (by decide) (by decide)).mono ?_); rintro e' w1 ⟨rfl, m1, f1⟩; have hs1 := f1.size; have H1 := Lib.hid (H.out.code m1 f1); clear m1 f1))
          go_roundw
          case rel => exact ⟨6, by decide, rfl, by rw [show pm a 6 = a % 281474976710656 from rfl]; exact congrArg (Value.int .u64) HV.out, H1.out⟩
          case measure => simp [intOf]
        · obtain ⟨x, hx⟩ : ∃ x, x = a / 281474976710656 % 256 := ⟨_, rfl⟩
          have hl := HF.out.ld 6 1 (by decide) (by decide)
          rw [show ((256 : Int) ^ 6) = 281474976710656 from by decide, show ((256 : Int) ^ 1) = 256 from by decide, ← hx] at hl
          have HL : Hid (S.ldV (P + 6) 1 = x ∧ S.ldO (P + 6) 1 = true ∧ S.ldS (P + 6) 1 = S) := Lib.hid hl
          have x0 : 0 ≤ x := by omega
          have x1 : x < 256 := by omega
          have ho := or_gen (a % 281474976710656) x 48 8 (by decide) (by omega) (by rw [show ((2 : Int) ^ 48) = 281474976710656 from by decide]; omega) x0 (by rw [show ((2 : Int) ^ 8) = 256 from by decide]; omega)
          rw [show ((2 : Int) ^ 48) = 281474976710656 from by decide] at ho
          have hv : bits .or .u64 (a % 281474976710656) (x * 281474976710656) = a % 72057594037927936 := ho.trans (by omega)
          have HV := Lib.hid hv
          clear hl hx hv ho
          rw [show (((6 : Nat)) : Int) = 6 from rfl, show pm a 6 = a % 281474976710656 from rfl]
          go_wp2_with (first | (go_at_call 10; (with_reducible refine (cjload_at H.out.o OK.out (JTb.h1 HTB (Lib.hid H.out.b)) (P + 6) 1 x true S HL.out.1 HL.out.2.1 HL.out.2.2 (by omega) (by omega) (by decide) (by decide)).mono ?_); rintro e' w1 ⟨rfl, m1, f1⟩; have hs1 := f1.size; have H1 := Lib.hid (H.out.code m1 f1); clear m1 f1))
          go_roundw
          case rel => exact ⟨7, by decide, rfl, by rw [show pm a 7 = a % 72057594037927936 from rfl]; exact congrArg (Value.int .u64) HV.out, H1.out⟩
          case measure => simp [intOf]
        · obtain ⟨x, hx⟩ : ∃ x, x = a / 72057594037927936 % 256 := ⟨_, rfl⟩
          have hl := HF.out.ld 7 1 (by decide) (by decide)
          rw [show ((256 : Int) ^ 7) = 72057594037927936 from by decide, show ((256 : Int) ^ 1) = 256 from by decide, ← hx] at hl
          have HL : Hid (S.ldV (P + 7) 1 = x ∧ S.ldO (P + 7) 1 = true ∧ S.ldS (P + 7) 1 = S) := Lib.hid hl
          have x0 : 0 ≤ x := by omega
          have x1 : x < 256 := by omega
          have ho := or_gen (a % 72057594037927936) x 56 8 (by decide) (by omega) (by rw [show ((2 : Int) ^ 56) = 72057594037927936 from by decide]; omega) x0 (by rw [show ((2 : Int) ^ 8) = 256 from by decide]; omega)
          rw [show ((2 : Int) ^ 56) = 72057594037927936 from by decide] at ho
          have hv : bits .or .u64 (a % 72057594037927936) (x * 72057594037927936) = a % 18446744073709551616 := ho.trans (by omega)
          have HV := Lib.hid hv
          clear hl hx hv ho
          rw [show (((7 : Nat)) : Int) = 7 from rfl, show pm a 7 = a % 72057594037927936 from rfl]
          go_wp2_with (first | (go_at_call 10; (with_reducible refine (cjload_at H.out.o OK.out (JTb.h1 HTB (Lib.hid H.out.b)) (P + 7) 1 x true S HL.out.1 HL.out.2.1 HL.out.2.2 (by omega) (by omega) (by decide) (by decide)).mono ?_); rintro e' w1 ⟨rfl, m1, f1⟩; have hs1 := f1.size; have H1 := Lib.hid (H.out.code m1 f1); clear m1 f1))
          go_roundw
          case rel => exact ⟨8, by decide, rfl, by rw [show pm a 8 = a % 18446744073709551616 from rfl]; exact congrArg (Value.int .u64) HV.out, H1.out⟩
          case measure => simp [intOf]
        · rw [show ((8 : Nat) : Int) = 8 from rfl, show pm a 8 = a % 18446744073709551616 from rfl, Int.emod_eq_of_lt a0 a1]
          go_wp2
          go_roundw
          case rel => exact ⟨2, by omega, rfl, H.out⟩
          case measure => simp [intOf]
    · -- size 2
      go_loopw [11, 12] (fun v z wr => ∃ n : Nat, (n = 0 ∨ n = 2 ∨ n = 4 ∨ n = 6 ∨ n = 8) ∧ z = .int .i64 (n : Int) ∧ v = .int .u64 (pm a n) ∧ OneJ W wr hi g S) (fun _ z _ => 8 - (intOf z).toNat)
      case atStart => exact ⟨0, by decide, rfl, rfl, H0.out⟩
      case round =>
        clear H0
        obtain ⟨n, hn, rfl, rfl, h⟩ := hrel
        have H := Lib.hid h
        clear h
        rcases hn with rfl | rfl | rfl | rfl | rfl
        · obtain ⟨x, hx⟩ : ∃ x, x = a / 1 % 65536 := ⟨_, rfl⟩
          have hl := HF.out.ld 0 2 (by decide) (by decide)
          rw [show ((256 : Int) ^ 0) = 1 from by decide, show ((256 : Int) ^ 2) = 65536 from by decide, ← hx] at hl
          have HL : Hid (S.ldV P 2 = x ∧ S.ldO P 2 = true ∧ S.ldS P 2 = S) := Lib.hid (by rw [show P + ((0 : Nat) : Int) = P by omega] at hl; exact hl)
          have x0 : 0 ≤ x := by omega
          have x1 : x < 65536 := by omega
          have hv : bits .or .u64 0 x = a % 65536 := by rw [or_0 x x0 (by omega)]; omega
          have HV := Lib.hid hv
          clear hl hx hv
          rw [show (((0 : Nat)) : Int) = 0 from rfl, show pm a 0 = 0 from rfl]
          go_wp2_with (first | (go_at_call 10; (with_reducible refine (cjload_at H.out.o OK.out (JTb.h1 HTB (Lib.hid H.out.b)) P 2 x true S HL.out.1 HL.out.2.1 HL.out.2.2 (by omega) (by omega) (by decide) (by decide)).mono ?_); rintro e' w1 ⟨rfl, m1, f1⟩; have hs1 := f1.size; have H1 := Lib.hid (H.out.code m1 f1); clear m1 f1))
          go_roundw
          case rel => exact ⟨2, by decide, rfl, by rw [show pm a 2 = a % 65536 from rfl]; exact congrArg (Value.int .u64) HV.out, H1.out⟩
          case measure => simp [intOf]
        · obtain ⟨x, hx⟩ : ∃ x, x = a / 65536 % 65536 := ⟨_, rfl⟩
          have hl := HF.out.ld 2 2 (by decide) (by decide)
          rw [show ((256 : Int) ^ 2) = 65536 from by decide, ← hx] at hl
          have HL : Hid (S.ldV (P + 2) 2 = x ∧ S.ldO (P + 2) 2 = true ∧ S.ldS (P + 2) 2 = S) := Lib.hid hl
          have x0 : 0 ≤ x := by omega
          have x1 : x < 65536 := by omega
          have ho := or_gen (a % 65536) x 16 16 (by decide) (by omega) (by rw [show ((2 : Int) ^ 16) = 65536 from by decide]; omega) x0 (by rw [show ((2 : Int) ^ 16) = 65536 from by decide]; omega)
          rw [show ((2 : Int) ^ 16) = 65536 from by decide] at ho
          have hv : bits .or .u64 (a % 65536) (x * 65536) = a % 4294967296 := ho.trans (by omega)
          have HV := Lib.hid hv
          clear hl hx hv ho
          rw [show (((2 : Nat)) : Int) = 2 from rfl, show pm a 2 = a % 65536 from rfl]
          go_wp2_with (first | (go_at_call 10; (with_reducible refine (cjload_at H.out.o OK.out (JTb.h1 HTB (Lib.hid H.out.b)) (P + 2) 2 x true S HL.out.1 HL.out.2.1 HL.out.2.2 (by omega) (by omega) (by decide) (by decide)).mono ?_); rintro e' w1 ⟨rfl, m1, f1⟩; have hs1 := f1.size; have H1 := Lib.hid (H.out.code m1 f1); clear m1 f1))
          go_roundw
          case rel => exact ⟨4, by decide, rfl, by rw [show pm a 4 = a % 4294967296 from rfl]; exact congrArg (Value.int .u64) HV.out, H1.out⟩
          case measure => simp [intOf]
        · obtain ⟨x, hx⟩ : ∃ x, x = a / 4294967296 % 65536 := ⟨_, rfl⟩
          have hl := HF.out.ld 4 2 (by decide) (by decide)
          rw [show ((256 : Int) ^ 4) = 4294967296 from by decide, show ((256 : Int) ^ 2) = 65536 from by decide, ← hx] at hl
          have HL : Hid (S.ldV (P + 4) 2 = x ∧ S.ldO (P + 4) 2 = true ∧ S.ldS (P + 4) 2 = S) := Lib.hid hl
          have x0 : 0 ≤ x := by omega
          have x1 : x < 65536 := by omega
          have ho := or_gen (a % 4294967296) x 32 16 (by decide) (by omega) (by rw [show ((2 : Int) ^ 32) = 4294967296 from by decide]; omega) x0 (by rw [show ((2 : Int) ^ 16) = 65536 from by decide]; omega)
          rw [show ((2 : Int) ^ 32) = 4294967296 from by decide] at ho
          have hv : bits .or .u64 (a % 4294967296) (x * 4294967296) = a % 281474976710656 := ho.trans (by omega)
          have HV := Lib.hid hv
          clear hl hx hv ho
          rw [show (((4 : Nat)) : Int) = 4 from rfl, show pm a 4 = a % 4294967296 from rfl]
          go_wp2_with (first | (go_at_call 10; (with_reducible refine (cjload_at H.out.o OK.out (JTb.h1 HTB (Lib.hid H.out.b)) (P + 4) 2 x true S HL.out.1 HL.out.2.1 HL.out.2.2 (by omega) (by omega) (by decide) (by decide)).mono ?_); rintro e' w1 ⟨rfl, m1, f1⟩; have hs1 := f1.size; have H1 := Lib.hid (H.out.code m1 f1); clear m1 f1))
          go_roundw
          case rel => exact ⟨6, by decide, rfl, by rw [show pm a 6 = a % 281474976710656 from rfl]; exact congrArg (Value.int .u64) HV.out, H1.out⟩
          case measure => simp [intOf]
        · obtain ⟨x, hx⟩ : ∃ x, x = a / 281474976710656 % 65536 := ⟨_, rfl⟩
          have hl := HF.out.ld 6 2 (by decide) (by decide)
          rw [show ((256 : Int) ^ 6) = 281474976710656 from by decide, show ((256 : Int) ^ 2) = 65536 from by decide, ← hx] at hl
          have HL : Hid (S.ldV (P + 6) 2 = x ∧ S.ldO (P + 6) 2 = true ∧ S.ldS (P + 6) 2 = S) := Lib.hid hl
          have x0 : 0 ≤ x := by omega
          have x1 : x < 65536 := by omega
          have ho := or_gen (a % 281474976710656) x 48 16 (by decide) (by omega) (by rw [show ((2 : Int) ^ 48) = 281474976710656 from by decide]; omega) x0 (by rw [show ((2 : Int) ^ 16) = 65536 from by decide]; omega)
          rw [show ((2 : Int) ^ 48) = 281474976710656 from by decide] at ho
          have hv : bits .or .u64 (a % 281474976710656) (x * 281474976710656) = a % 18446744073709551616 := ho.trans (by omega)
          have HV := Lib.hid hv
          clear hl hx hv ho
          rw [show (((6 : Nat)) : Int) = 6 from rfl, show pm a 6 = a % 281474976710656 from rfl]
          go_wp2_with (first | (go_at_call 10; (with_reducible refine (cjload_at H.out.o OK.out (JTb.h1 HTB (Lib.hid H.out.b)) (P + 6) 2 x true S HL.out.1 HL.out.2.1 HL.out.2.2 (by omega) (by omega) (by decide) (by decide)).mono ?_); rintro e' w1 ⟨rfl, m1, f1⟩; have hs1 := f1.size; have H1 := Lib.hid (H.out.code m1 f1); clear m1 f1))
          go_roundw
          case rel => exact ⟨8, by decide, rfl, by rw [show pm a 8 = a % 18446744073709551616 from rfl]; exact congrArg (Value.int .u64) HV.out, H1.out⟩
          case measure => simp [intOf]
        · rw [show ((8 : Nat) : Int) = 8 from rfl, show pm a 8 = a % 18446744073709551616 from rfl, Int.emod_eq_of_lt a0 a1]
          go_wp2
          go_roundw
          case rel => exact ⟨4, by omega, rfl, H.out⟩
          case measure => simp [intOf]
    · -- size 4
      go_loopw [11, 12] (fun v z wr => ∃ n : Nat, (n = 0 ∨ n = 4 ∨ n = 8) ∧ z = .int .i64 (n : Int) ∧ v = .int .u64 (pm a n) ∧ OneJ W wr hi g S) (fun _ z _ => 8 - (intOf z).toNat)
      case atStart => exact ⟨0, by decide, rfl, rfl, H0.out⟩
      case round =>
        clear H0
        obtain ⟨n, hn, rfl, rfl, h⟩ := hrel
        have H := Lib.hid h
        clear h
        rcases hn with rfl | rfl | rfl
        · obtain ⟨x, hx⟩ : ∃ x, x = a / 1 % 4294967296 := ⟨_, rfl⟩
          have hl := HF.out.ld 0 4 (by decide) (by decide)
          rw [show ((256 : Int) ^ 0) = 1 from by decide, show ((256 : Int) ^ 4) = 4294967296 from by decide, ← hx] at hl
          have HL : Hid (S.ldV P 4 = x ∧ S.ldO P 4 = true ∧ S.ldS P 4 = S) := Lib.hid (by rw [show P + ((0 : Nat) : Int) = P by omega] at hl; exact hl)
          have x0 : 0 ≤ x := by omega
          have x1 : x < 4294967296 := by omega
          have hv : bits .or .u64 0 x = a % 4294967296 := by rw [or_0 x x0 (by omega)]; omega
          have HV := Lib.hid hv
          clear hl hx hv
          rw [show (((0 : Nat)) : Int) = 0 from rfl, show pm a 0 = 0 from rfl]
          go_wp2_with (first | (go_at_call 10; (with_reducible refine (cjload_at H.out.o OK.out (JTb.h1 HTB (Lib.hid H.out.b)) P 4 x true S HL.out.1 HL.out.2.1 HL.out.2.2 (by omega) (by omega) (by decide) (by decide)).mono ?_); rintro e' w1 ⟨rfl, m1, f1⟩; have hs1 := f1.size; have H1 := Lib.hid (H.out.code m1 f1); clear m1 f1))
          go_roundw
          case rel => exact ⟨4, by decide, rfl, by rw [show pm a 4 = a % 4294967296 from rfl]; exact congrArg (Value.int .u64) HV.out, H1.out⟩
          case measure => simp [intOf]
        · obtain ⟨x, hx⟩ : ∃ x, x = a / 4294967296 % 4294967296 := ⟨_, rfl⟩
          have hl := HF.out.ld 4 4 (by decide) (by decide)
          rw [show ((256 : Int) ^ 4) = 4294967296 from by decide, ← hx] at hl
          have HL : Hid (S.ldV (P + 4) 4 = x ∧ S.ldO (P + 4) 4 = true ∧ S.ldS (P + 4) 4 = S) := Lib.hid hl
          have x0 : 0 ≤ x := by omega
          have x1 : x < 4294967296 := by omega
          have ho := or_gen (a % 4294967296) x 32 32 (by decide) (by omega) (by rw [show ((2 : Int) ^ 32) = 4294967296 from by decide]; omega) x0 (by rw [show ((2 : Int) ^ 32) = 4294967296 from by decide]; omega)
          rw [show ((2 : Int) ^ 32) = 4294967296 from by decide] at ho
          have hv : bits .or .u64 (a % 4294967296) (x * 4294967296) = a % 18446744073709551616 := ho.trans (by omega)
          have HV := Lib.hid hv
          clear hl hx hv ho
          rw [show (((4 : Nat)) : Int) = 4 from rfl, show pm a 4 = a % 4294967296 from rfl]
          go_wp2_with (first | (go_at_call 10; (with_reducible refine (cjload_at H.out.o OK.out (JTb.h1 HTB (Lib.hid H.out.b)) (P + 4) 4 x true S HL.out.1 HL.out.2.1 HL.out.2.2 (by omega) (by omega) (by decide) (by decide)).mono ?_); rintro e' w1 ⟨rfl, m1, f1⟩; have hs1 := f1.size; have H1 := Lib.hid (H.out.code m1 f1); clear m1 f1))
          go_roundw
          case rel => exact ⟨8, by decide, rfl, by rw [show pm a 8 = a % 18446744073709551616 from rfl]; exact congrArg (Value.int .u64) HV.out, H1.out⟩
          case measure => simp [intOf]
        · rw [show ((8 : Nat) : Int) = 8 from rfl, show pm a 8 = a % 18446744073709551616 from rfl, Int.emod_eq_of_lt a0 a1]
          go_wp2
          go_roundw
          case rel => exact ⟨8, by omega, rfl, H.out⟩
          case measure => simp [intOf]
    · -- size 8
      go_loopw [11, 12] (fun v z wr => ∃ n : Nat, (n = 0 ∨ n = 8) ∧ z = .int .i64 (n : Int) ∧ v = .int .u64 (pm a n) ∧ OneJ W wr hi g S) (fun _ z _ => 8 - (intOf z).toNat)
      case atStart => exact ⟨0, by decide, rfl, rfl, H0.out⟩
      case round =>
        clear H0
        obtain ⟨n, hn, rfl, rfl, h⟩ := hrel
        have H := Lib.hid h
        clear h
        rcases hn with rfl | rfl
        · obtain ⟨x, hx⟩ : ∃ x, x = a / 1 % 18446744073709551616 := ⟨_, rfl⟩
          have hl := HF.out.ld 0 8 (by decide) (by decide)
          rw [show ((256 : Int) ^ 0) = 1 from by decide, show ((256 : Int) ^ 8) = 18446744073709551616 from by decide, ← hx] at hl
          have HL : Hid (S.ldV P 8 = x ∧ S.ldO P 8 = true ∧ S.ldS P 8 = S) := Lib.hid (by rw [show P + ((0 : Nat) : Int) = P by omega] at hl; exact hl)
          have x0 : 0 ≤ x := by omega
          have x1 : x < 18446744073709551616 := by omega
          have hv : bits .or .u64 0 x = a % 18446744073709551616 := by rw [or_0 x x0 (by omega)]; omega
          have HV := Lib.hid hv
          clear hl hx hv
          rw [show (((0 : Nat)) : Int) = 0 from rfl, show pm a 0 = 0 from rfl]
          go_wp2_with (first | (go_at_call 10; (with_reducible refine (cjload_at H.out.o OK.out (JTb.h1 HTB (Lib.hid H.out.b)) P 8 x true S HL.out.1 HL.out.2.1 HL.out.2.2 (by omega) (by omega) (by decide) (by decide)).mono ?_); rintro e' w1 ⟨rfl, m1, f1⟩; have hs1 := f1.size; have H1 := Lib.hid (H.out.code m1 f1); clear m1 f1))
          go_roundw
          case rel => exact ⟨8, by decide, rfl, by rw [show pm a 8 = a % 18446744073709551616 from rfl]; exact congrArg (Value.int .u64) HV.out, H1.out⟩
          case measure => simp [intOf]
        · rw [show ((8 : Nat) : Int) = 8 from rfl, show pm a 8 = a % 18446744073709551616 from rfl, Int.emod_eq_of_lt a0 a1]
          go_wp2
          go_roundw
          case rel => exact ⟨16, by omega, rfl, H.out⟩
          case measure => simp [intOf]
end Go.Proofs.Ytikibfpfieoabaa
