/-
  BusKnown of layer 15: its walk. No condition but what the calls lean on.
-/
import Derived.Test.YtikibfpfieoabaaJOne
namespace Go.Proofs.Ytikibfpfieoabaa
open Go.ChangeShapes Go.WideShapes Go.ChangeAt Go.RowKit
set_option linter.unusedVariables false
set_option linter.unusedSimpArgs false
set_option maxRecDepth 4000
theorem OneJ.drew {W w : World} {hi g : Nat} {S : BS} (h : OneJ W w hi g S) : OneJ W w.drew hi g S := h.kp (Kp.drew (Kp.refl w))
def qS1 : BS := (BS.new 4096).stS 33554432 4 1
def qS2 : BS := qS1.stS 33570816 8 0
def qS3 : BS := qS2.ldS 268435461 1
def qS4 : BS := qS3.stS 1048576 4 21845
theorem qk1 : qS1.Ok := b4_ok.stS _ _ _ (by decide) (by decide)
theorem qk2 : qS2.Ok := qk1.stS _ _ _ (by decide) (by decide)
theorem qk3 : qS3.Ok := qk2.ldS _ _
theorem qk4 : qS4.Ok := qk3.stS _ _ _ (by decide) (by decide)
theorem qf1 : (BS.new 4096).ldO 33554432 4 = true := by decide +kernel
theorem qf2 : qS1.lines = 8 := by decide +kernel
theorem qf3 : qS1.ldO 33570816 8 = true := by decide +kernel
theorem qf4 : qS2.lines = 136 := by decide +kernel
theorem qf5 : qS2.ldV 268435461 1 = 96 := by decide +kernel
theorem qf6 : qS2.ldO 268435461 1 = true := by decide +kernel
theorem qf7 : inJ 2147483648 4096 2147483648 qS3.B.length = true := by decide +kernel
theorem qf8 : inJ 2147483648 4097 2147483648 qS3.B.length = false := by decide +kernel
theorem qf9 : inJ 2147483648 (-1) 2147483648 qS3.B.length = false := by decide +kernel
theorem qf10 : inJ 2147487744 0 2147483648 qS3.B.length = true := by decide +kernel
theorem qf11 : qS3.ldO 1048576 4 = true := by decide +kernel
theorem qf12 : qS4.w = true := by decide +kernel
/-- The places that are gone through, and the sizes. -/
def eP : List Int := [0, 1048575, 1052672, 33554428, 33619968, 201326588, 205520896, 268435455, 268435712, 2147483647, 2147487744, 18446744073709551615, 18446744073709551608]
def sP : List Int := [1, 2, 4, 8]
def eV : List Value := eP.map fun x => .int .u64 x
def sV : List Value := sP.map fun x => .int .i64 x
theorem eP_no : eP.all (fun x => decide (0 ≤ x) && decide (x < 18446744073709551616) && sP.all (fun z => decide (-9223372036854775808 ≤ z) && decide (z < 9223372036854775808) && (dvJ 4096 x z == 0))) = true := by decide +kernel
theorem eP_at (k : Nat) (hk : k < 13) : ∃ x, eV[k]? = some (.int .u64 x) ∧ 0 ≤ x ∧ x < 18446744073709551616 ∧ ∀ m : Nat, m < 4 → ∃ z, sV[m]? = some (.int .i64 z) ∧ -9223372036854775808 ≤ z ∧ z < 9223372036854775808 ∧ dvJ (BS.new 4096).B.length x z = 0 := by
  have h1 : eP[k]? = some eP[k] := List.getElem?_eq_getElem (show k < eP.length from hk)
  have := List.all_eq_true.1 eP_no eP[k] (List.getElem_mem _)
  simp only [Bool.and_eq_true, decide_eq_true_eq] at this
  refine ⟨eP[k], by rw [eV, List.getElem?_map, h1]; rfl, this.1.1, this.1.2, fun m hm => ?_⟩
  have h2 : sP[m]? = some sP[m] := List.getElem?_eq_getElem (show m < sP.length from hm)
  have hz := List.all_eq_true.1 this.2 sP[m] (List.getElem_mem _)
  simp only [Bool.and_eq_true, decide_eq_true_eq, beq_iff_eq] at hz
  exact ⟨sP[m], by rw [sV, List.getElem?_map, h2]; rfl, hz.1.1, hz.1.2, by rw [b4_len]; exact hz.2⟩
set_option maxRecDepth 100000 in
set_option maxHeartbeats 32000000 in
theorem known15c_w (W : World) (tb : JTb W) :
    Calls Try.prog 4 #[] W fun e w' => e = .returned (.bool true) ∧ Below W.heap.size W w' := by
  have HTB := Lib.hid tb
  have OK := Lib.hid b4_ok
  have NK1 := Lib.hid qk1
  have NK2 := Lib.hid qk2
  have NK3 := Lib.hid qk3
  clear tb
  go_enter Try.func4, Try.ntmps4
  go_wp2_with (first | (go_at_call 7; (with_reducible refine (cjnew_4k _ HTB.out).mono ?_); rintro e' w0 ⟨g, rfl, m0, b0⟩; have hs0 := b0.size; have H0 := Lib.hid (OneJ.mk m0 b0); clear m0 b0) | (go_at_call 7; (with_reducible refine (cjnew_no 5 (by decide) (by decide) (by decide) _ (JTb.h1 HTB (Lib.hid H0.out.b))).mono ?_); rintro e' w1 ⟨rfl, b1⟩; have hs1 := b1.size; have H1 := Lib.hid (H0.out.bel b1); clear b1))
  have hA := At.new w1 eV 22
  have H2 := Lib.hid (H1.out.alloc (.cells eV.toArray 22))
  have hs2 : (w1.alloc (.cells eV.toArray 22)).heap.size = w1.heap.size + 1 := by simp
  rw [show eV.toArray = #[.int .u64 0, .int .u64 1048575, .int .u64 1052672, .int .u64 33554428, .int .u64 33619968, .int .u64 201326588, .int .u64 205520896, .int .u64 268435455, .int .u64 268435712, .int .u64 2147483647, .int .u64 2147487744, .int .u64 18446744073709551615, .int .u64 18446744073709551608] from rfl] at hA H2 hs2
  generalize w1.alloc (.cells #[.int .u64 0, .int .u64 1048575, .int .u64 1052672, .int .u64 33554428, .int .u64 33619968, .int .u64 201326588, .int .u64 205520896, .int .u64 268435455, .int .u64 268435712, .int .u64 2147483647, .int .u64 2147487744, .int .u64 18446744073709551615, .int .u64 18446744073709551608] 22) = w2 at hA H2 hs2 ⊢
  have hC := At.new w2 sV 3
  have HA3 := Lib.hid (hA.below (w' := w2.alloc (.cells sV.toArray 3)) ((Below.refl _ w2).alloc (Nat.le_refl _) _) (by omega))
  have H4 := Lib.hid (H2.out.alloc (.cells sV.toArray 3))
  have hs4 : (w2.alloc (.cells sV.toArray 3)).heap.size = w2.heap.size + 1 := by simp
  rw [show sV.toArray = #[.int .i64 1, .int .i64 2, .int .i64 4, .int .i64 8] from rfl] at hC H4 hs4 HA3
  generalize w2.alloc (.cells #[.int .i64 1, .int .i64 2, .int .i64 4, .int .i64 8] 3) = w4 at hC H4 hs4 HA3 ⊢
  have hb2 : w2.heap.size = w1.heap.size + 1 := hs2
  have hbw : w0.heap.size ≤ w1.heap.size := by omega
  generalize hhi : w0.heap.size = hi at *
  generalize hb : w1.heap.size = b at *
  rw [hb2] at hC
  have HA4 := HA3
  have HC4 := Lib.hid hC
  clear hA hC hb hb2 hs2 hs4 hhi H0 H1 H2 HA3
  go_loopw [7] (fun i wr => ∃ k : Nat, k ≤ 13 ∧ i = .int .i64 (k : Int) ∧ OneJ W wr hi g (BS.new 4096) ∧ At b eV wr ∧ At (b + 1) sV wr) (fun i _ => 13 - (intOf i).toNat)
  case atStart => exact ⟨0, by omega, rfl, H4.out, HA4.out, HC4.out⟩
  case round =>
    clear H4 HA4 HC4
    obtain ⟨k, hk, rfl, h, hA5, hC5⟩ := hrel
    have hWs := h.b.size
    have htop := h.o.top
    have H := Lib.hid h
    by_cases hlt : k < 13
    · obtain ⟨x, hx, x0, x1, hz⟩ := eP_at k hlt
      have HI := Lib.hid hx
      have HA := Lib.hid hA5
      have HC := Lib.hid hC5
      have HZ := Lib.hid hz
      have f1 : (k : Int) < 13 := by omega
      clear h hA5 hC5 hx hz
      go_wp2
      obtain ⟨w5, hw5⟩ : ∃ w5, w5 = wr := ⟨_, rfl⟩
      rw [← hw5] at H HA HC hWs htop ⊢
      clear hw5
      go_loopw [8] (fun z wr => ∃ m : Nat, m ≤ 4 ∧ z = .int .i64 (m : Int) ∧ OneJ W wr hi g (BS.new 4096) ∧ At b eV wr ∧ At (b + 1) sV wr) (fun z _ => 4 - (intOf z).toNat)
      case atStart => exact ⟨0, by omega, rfl, H.out, HA.out, HC.out⟩
      case round =>
        clear H HA HC hWs htop
        obtain ⟨m, hm, rfl, h, hA5, hC5⟩ := hrel
        have hWs := h.b.size
        have htop := h.o.top
        have hlt5 : b < wr.heap.size := World.block_lt_of_cell? wr _ (hA5 0 _ rfl)
        have hlt6 : b + 1 < wr.heap.size := World.block_lt_of_cell? wr _ (hC5 0 _ rfl)
        by_cases hmm : m < 4
        · obtain ⟨z, hz, z0, z1, hd⟩ := HZ.out m hmm
          have HJ := Lib.hid hz
          have HD := Lib.hid (bs_ld0 hd)
          have f2 : (m : Int) < 4 := by omega
          obtain ⟨w5, hw5⟩ : ∃ w5, w5 = wr := ⟨_, rfl⟩
          rw [← hw5] at h hA5 hC5 hWs htop hlt5 hlt6 ⊢
          have H5 := Lib.hid h
          have HA5 := Lib.hid hA5
          have HC5 := Lib.hid hC5
          clear h hA5 hC5 hz hd hw5
          go_upto_region 13 with fail
          refine wp_region_held_drew (S := fun w' => At (b) eV w' ∧ At (b + 1) sV w') (by kernel_rfl) (⟨HA5.out.drew, HC5.out.drew⟩) (fun hS => ?_)
          have Hd := Lib.hid H5.out.drew
          have hsd : w5.drew.heap.size = w5.heap.size := rfl
          generalize w5.drew = g0 at hS Hd hsd ⊢
          (refine wpAnyH_take (i := 0) (oi := { dst := some 46, op := Go.Op.move (Go.Operand.tmp 1), type := 26, pos := "outright.go:84", after := #[], guard := none }) (v := ?_) rfl (by kernel_rfl) (by kernel_rfl) (by kernel_rfl) (fun _ _ _ h => h) (Or.inl ⟨by rfl, ?_⟩) hS ?_; rotate_left; focus (intro w' s0; go_simp <;> try with_reducible rfl))
          try simp only [Act.put, List.setIfInBounds_toArray, List.set_cons_zero, List.set_cons_succ]
          (refine wpAnyH_take (i := 1) (oi := { dst := some 47, op := Go.Op.move (Go.Operand.tmp 5), type := 38, pos := "outright.go:84", after := #[], guard := none }) (v := ?_) rfl (by kernel_rfl) (by kernel_rfl) (by kernel_rfl) (fun _ _ _ h => h) (Or.inl ⟨by rfl, ?_⟩) hS ?_; rotate_left; focus (intro w' s0; go_simp <;> try with_reducible rfl))
          try simp only [Act.put, List.setIfInBounds_toArray, List.set_cons_zero, List.set_cons_succ]
          (refine wpAnyH_take (i := 2) (oi := { dst := some 48, op := Go.Op.move (Go.Operand.tmp 7), type := 3, pos := "outright.go:84", after := #[], guard := none }) (v := ?_) rfl (by kernel_rfl) (by kernel_rfl) (by kernel_rfl) (fun _ _ _ h => h) (Or.inl ⟨by rfl, ?_⟩) hS ?_; rotate_left; focus (intro w' s0; go_simp <;> try with_reducible rfl))
          try simp only [Act.put, List.setIfInBounds_toArray, List.set_cons_zero, List.set_cons_succ]
          (refine wpAnyH_take (i := 3) (oi := { dst := some 49, op := Go.Op.indexAddr 38 (Go.Operand.tmp 47) (Go.Operand.tmp 48), type := 0, pos := "outright.go:84", after := #[{ on := 1, ground := Go.Ground.data }, { on := 2, ground := Go.Ground.data }], guard := none }) (v := ?_) rfl (by kernel_rfl) (by kernel_rfl) (by kernel_rfl) (fun _ _ _ h => h) (Or.inl ⟨by rfl, ?_⟩) hS ?_; rotate_left; focus (intro w' s0; go_simp <;> try with_reducible rfl))
          try simp only [Act.put, List.setIfInBounds_toArray, List.set_cons_zero, List.set_cons_succ]
          (refine wpAnyH_take (i := 4) (oi := { dst := some 50, op := Go.Op.load 22 (Go.Operand.tmp 49), type := 22, pos := "outright.go:84", after := #[{ on := 3, ground := Go.Ground.data }], guard := none }) (v := ?_) rfl (by kernel_rfl) (by kernel_rfl) (by kernel_rfl) (fun _ _ _ h => h) (Or.inl ⟨by rfl, ?_⟩) hS ?_; rotate_left; focus (intro w' s0; have c_0 := s0.1 _ _ HI.out; have c_1 := s0.2 _ _ HJ.out; go_simp <;> try with_reducible rfl))
          try simp only [Act.put, List.setIfInBounds_toArray, List.set_cons_zero, List.set_cons_succ]
          (refine wpAnyH_take (i := 5) (oi := { dst := some 51, op := Go.Op.move (Go.Operand.tmp 6), type := 39, pos := "outright.go:84", after := #[], guard := none }) (v := ?_) rfl (by kernel_rfl) (by kernel_rfl) (by kernel_rfl) (fun _ _ _ h => h) (Or.inl ⟨by rfl, ?_⟩) hS ?_; rotate_left; focus (intro w' s0; go_simp <;> try with_reducible rfl))
          try simp only [Act.put, List.setIfInBounds_toArray, List.set_cons_zero, List.set_cons_succ]
          (refine wpAnyH_take (i := 6) (oi := { dst := some 52, op := Go.Op.move (Go.Operand.tmp 8), type := 3, pos := "outright.go:84", after := #[], guard := none }) (v := ?_) rfl (by kernel_rfl) (by kernel_rfl) (by kernel_rfl) (fun _ _ _ h => h) (Or.inl ⟨by rfl, ?_⟩) hS ?_; rotate_left; focus (intro w' s0; go_simp <;> try with_reducible rfl))
          try simp only [Act.put, List.setIfInBounds_toArray, List.set_cons_zero, List.set_cons_succ]
          (refine wpAnyH_take (i := 7) (oi := { dst := some 53, op := Go.Op.indexAddr 39 (Go.Operand.tmp 51) (Go.Operand.tmp 52), type := 0, pos := "outright.go:84", after := #[{ on := 5, ground := Go.Ground.data }, { on := 6, ground := Go.Ground.data }], guard := none }) (v := ?_) rfl (by kernel_rfl) (by kernel_rfl) (by kernel_rfl) (fun _ _ _ h => h) (Or.inl ⟨by rfl, ?_⟩) hS ?_; rotate_left; focus (intro w' s0; go_simp <;> try with_reducible rfl))
          try simp only [Act.put, List.setIfInBounds_toArray, List.set_cons_zero, List.set_cons_succ]
          (refine wpAnyH_take (i := 8) (oi := { dst := some 54, op := Go.Op.load 3 (Go.Operand.tmp 53), type := 3, pos := "outright.go:84", after := #[{ on := 7, ground := Go.Ground.data }], guard := none }) (v := ?_) rfl (by kernel_rfl) (by kernel_rfl) (by kernel_rfl) (fun _ _ _ h => h) (Or.inl ⟨by rfl, ?_⟩) hS ?_; rotate_left; focus (intro w' s0; have c_0 := s0.1 _ _ HI.out; have c_1 := s0.2 _ _ HJ.out; go_simp <;> try with_reducible rfl))
          try simp only [Act.put, List.setIfInBounds_toArray, List.set_cons_zero, List.set_cons_succ]
          refine wpAnyH_ready (rs := [9]) (by kernel_rfl) (by simp) ?_
          refine AllReadyH.cons (o := { dst := some 55, op := Go.Op.call { callee := Go.Callee.value (Go.Operand.func 10), args := #[Go.Operand.tmp 46, Go.Operand.tmp 50, Go.Operand.tmp 54], argTypes := #[26, 22, 3] }, type := 33, pos := "outright.go:84", after := #[{ on := 0, ground := Go.Ground.data }, { on := 4, ground := Go.Ground.data }, { on := 8, ground := Go.Ground.data }], guard := none }) rfl (fun K hK => ?_) AllReadyH.nil
          refine take_if (by rfl) ?_
          go_simp
          (with_reducible refine (cjload_at Hd.out.o OK.out (JTb.h1 HTB (Lib.hid Hd.out.b)) x z 0 false _ HD.out.1 HD.out.2.1 HD.out.2.2.1 x0 x1 z0 z1).mono ?_)
          rintro e' w1 ⟨rfl, m1, f1⟩
          have hS2 : At (b) eV w1 ∧ At (b + 1) sV w1 := ⟨hS.1.fram f1 (by omega) (fun x => by unfold Rg at x; omega), hS.2.fram f1 (by omega) (fun x => by unfold Rg at x; omega)⟩
          have hs1 := f1.size
          have H6 := Lib.hid (Hd.out.code m1 f1)
          clear m1 f1
          refine hK.out _ _ hS2 (fun hS => ?_)
          clear hK K hS2
          try simp only [Act.put, List.setIfInBounds_toArray, List.set_cons_zero, List.set_cons_succ]
          (refine wpAnyH_take (i := 10) (oi := { dst := some 45, op := Go.Op.move (Go.Operand.tmp 55), type := 33, pos := "outright.go:84", after := #[{ on := 9, ground := Go.Ground.data }], guard := none }) (v := ?_) rfl (by kernel_rfl) (by kernel_rfl) (by kernel_rfl) (fun _ _ _ h => h) (Or.inl ⟨by rfl, ?_⟩) hS ?_; rotate_left; focus (intro w' s0; go_simp <;> try with_reducible rfl))
          try simp only [Act.put, List.setIfInBounds_toArray, List.set_cons_zero, List.set_cons_succ]
          (refine wpAnyH_take (i := 11) (oi := { dst := some 56, op := Go.Op.extract (Go.Operand.tmp 45) 0, type := 22, pos := "outright.go:84", after := #[{ on := 10, ground := Go.Ground.data }], guard := none }) (v := ?_) rfl (by kernel_rfl) (by kernel_rfl) (by kernel_rfl) (fun _ _ _ h => h) (Or.inl ⟨by rfl, ?_⟩) hS ?_; rotate_left; focus (intro w' s0; go_simp <;> try with_reducible rfl))
          try simp only [Act.put, List.setIfInBounds_toArray, List.set_cons_zero, List.set_cons_succ]
          (refine wpAnyH_take (i := 12) (oi := { dst := some 57, op := Go.Op.extract (Go.Operand.tmp 45) 1, type := 4, pos := "outright.go:84", after := #[{ on := 10, ground := Go.Ground.data }, { on := 13, ground := Go.Ground.gcOnly Go.Departure.lateStores }], guard := none }) (v := ?_) rfl (by kernel_rfl) (by kernel_rfl) (by kernel_rfl) (fun _ _ _ h => h) (Or.inl ⟨by rfl, ?_⟩) hS ?_; rotate_left; focus (intro w' s0; go_simp <;> try with_reducible rfl))
          try simp only [Act.put, List.setIfInBounds_toArray, List.set_cons_zero, List.set_cons_succ]
          (refine wpAnyH_take (i := 13) (oi := { dst := some 9, op := Go.Op.assign (Go.Operand.tmp 56), type := 22, pos := "outright.go:84", after := #[{ on := 11, ground := Go.Ground.data }, { on := 9, ground := Go.Ground.chain }, { on := 0, ground := Go.Ground.phase }, { on := 1, ground := Go.Ground.phase }, { on := 2, ground := Go.Ground.phase }, { on := 3, ground := Go.Ground.phase }, { on := 4, ground := Go.Ground.phase }, { on := 5, ground := Go.Ground.phase }, { on := 6, ground := Go.Ground.phase }, { on := 7, ground := Go.Ground.phase }, { on := 8, ground := Go.Ground.phase }, { on := 9, ground := Go.Ground.phase }, { on := 10, ground := Go.Ground.phase }, { on := 11, ground := Go.Ground.phase }, { on := 12, ground := Go.Ground.textOnly Go.Departure.lateStores }], guard := none }) (v := ?_) rfl (by kernel_rfl) (by kernel_rfl) (by kernel_rfl) (fun _ _ _ h => h) (Or.inl ⟨by rfl, ?_⟩) hS ?_; rotate_left; focus (intro w' s0; go_simp <;> try with_reducible rfl))
          try simp only [Act.put, List.setIfInBounds_toArray, List.set_cons_zero, List.set_cons_succ]
          (refine wpAnyH_take (i := 14) (oi := { dst := some 10, op := Go.Op.assign (Go.Operand.tmp 57), type := 4, pos := "outright.go:84", after := #[{ on := 12, ground := Go.Ground.data }, { on := 13, ground := Go.Ground.chain }, { on := 0, ground := Go.Ground.phase }, { on := 1, ground := Go.Ground.phase }, { on := 2, ground := Go.Ground.phase }, { on := 3, ground := Go.Ground.phase }, { on := 4, ground := Go.Ground.phase }, { on := 5, ground := Go.Ground.phase }, { on := 6, ground := Go.Ground.phase }, { on := 7, ground := Go.Ground.phase }, { on := 8, ground := Go.Ground.phase }, { on := 9, ground := Go.Ground.phase }, { on := 10, ground := Go.Ground.phase }, { on := 11, ground := Go.Ground.phase }, { on := 12, ground := Go.Ground.phase }, { on := 13, ground := Go.Ground.phase }], guard := none }) (v := ?_) rfl (by kernel_rfl) (by kernel_rfl) (by kernel_rfl) (fun _ _ _ h => h) (Or.inl ⟨by rfl, ?_⟩) hS ?_; rotate_left; focus (intro w' s0; go_simp <;> try with_reducible rfl))
          try simp only [Act.put, List.setIfInBounds_toArray, List.set_cons_zero, List.set_cons_succ]
          refine wpAnyH_done (by kernel_rfl) ?_ _
          have HA6 := Lib.hid hS.1
          have HC6 := Lib.hid hS.2
          clear hS H5 HA5 HC5 Hd
          obtain ⟨w5, hw5⟩ : ∃ w5, w5 = w1 := ⟨_, rfl⟩
          rw [← hw5] at H6 HA6 HC6 hs1 ⊢
          have H5 := H6
          have HA5 := HA6
          have HC5 := HC6
          clear H6 HA6 HC6 hw5
          go_upto_region 14 with fail
          refine wp_region_held_drew (S := fun w' => At (b) eV w' ∧ At (b + 1) sV w') (by kernel_rfl) (⟨HA5.out.drew, HC5.out.drew⟩) (fun hS => ?_)
          have Hd := Lib.hid H5.out.drew
          have hsd : w5.drew.heap.size = w5.heap.size := rfl
          generalize w5.drew = g0 at hS Hd hsd ⊢
          (refine wpAnyH_take (i := 0) (oi := { dst := some 58, op := Go.Op.move (Go.Operand.tmp 10), type := 4, pos := "outright.go:85", after := #[], guard := none }) (v := ?_) rfl (by kernel_rfl) (by kernel_rfl) (by kernel_rfl) (fun _ _ _ h => h) (Or.inl ⟨by rfl, ?_⟩) hS ?_; rotate_left; focus (intro w' s0; go_simp <;> try with_reducible rfl))
          try simp only [Act.put, List.setIfInBounds_toArray, List.set_cons_zero, List.set_cons_succ]
          (refine wpAnyH_take (i := 1) (oi := { dst := some 59, op := Go.Op.move (Go.Operand.tmp 58), type := 4, pos := "outright.go:85", after := #[{ on := 0, ground := Go.Ground.data }], guard := none }) (v := ?_) rfl (by kernel_rfl) (by kernel_rfl) (by kernel_rfl) (fun _ _ _ h => h) (Or.inl ⟨by rfl, ?_⟩) hS ?_; rotate_left; focus (intro w' s0; go_simp <;> try with_reducible rfl))
          try simp only [Act.put, List.setIfInBounds_toArray, List.set_cons_zero, List.set_cons_succ]
          (refine wpAnyH_take (i := 2) (oi := { dst := some 60, op := Go.Op.move (Go.Operand.tmp 1), type := 26, pos := "outright.go:85", after := #[{ on := 1, ground := Go.Ground.guard }], guard := some (1, false) }) (v := ?_) rfl (by kernel_rfl) (by kernel_rfl) (by kernel_rfl) (fun _ _ _ h => h) (Or.inl ⟨by rfl, ?_⟩) hS ?_; rotate_left; focus (intro w' s0; go_simp <;> try with_reducible rfl))
          try simp only [Act.put, List.setIfInBounds_toArray, List.set_cons_zero, List.set_cons_succ]
          (refine wpAnyH_take (i := 3) (oi := { dst := some 61, op := Go.Op.move (Go.Operand.tmp 5), type := 38, pos := "outright.go:85", after := #[{ on := 1, ground := Go.Ground.guard }], guard := some (1, false) }) (v := ?_) rfl (by kernel_rfl) (by kernel_rfl) (by kernel_rfl) (fun _ _ _ h => h) (Or.inl ⟨by rfl, ?_⟩) hS ?_; rotate_left; focus (intro w' s0; go_simp <;> try with_reducible rfl))
          try simp only [Act.put, List.setIfInBounds_toArray, List.set_cons_zero, List.set_cons_succ]
          (refine wpAnyH_take (i := 4) (oi := { dst := some 62, op := Go.Op.move (Go.Operand.tmp 7), type := 3, pos := "outright.go:85", after := #[{ on := 1, ground := Go.Ground.guard }], guard := some (1, false) }) (v := ?_) rfl (by kernel_rfl) (by kernel_rfl) (by kernel_rfl) (fun _ _ _ h => h) (Or.inl ⟨by rfl, ?_⟩) hS ?_; rotate_left; focus (intro w' s0; go_simp <;> try with_reducible rfl))
          try simp only [Act.put, List.setIfInBounds_toArray, List.set_cons_zero, List.set_cons_succ]
          (refine wpAnyH_take (i := 5) (oi := { dst := some 63, op := Go.Op.indexAddr 38 (Go.Operand.tmp 61) (Go.Operand.tmp 62), type := 0, pos := "outright.go:85", after := #[{ on := 3, ground := Go.Ground.data }, { on := 4, ground := Go.Ground.data }, { on := 1, ground := Go.Ground.guard }], guard := some (1, false) }) (v := ?_) rfl (by kernel_rfl) (by kernel_rfl) (by kernel_rfl) (fun _ _ _ h => h) (Or.inl ⟨by rfl, ?_⟩) hS ?_; rotate_left; focus (intro w' s0; go_simp <;> try with_reducible rfl))
          try simp only [Act.put, List.setIfInBounds_toArray, List.set_cons_zero, List.set_cons_succ]
          (refine wpAnyH_take (i := 6) (oi := { dst := some 64, op := Go.Op.load 22 (Go.Operand.tmp 63), type := 22, pos := "outright.go:85", after := #[{ on := 5, ground := Go.Ground.data }, { on := 1, ground := Go.Ground.guard }], guard := some (1, false) }) (v := ?_) rfl (by kernel_rfl) (by kernel_rfl) (by kernel_rfl) (fun _ _ _ h => h) (Or.inl ⟨by rfl, ?_⟩) hS ?_; rotate_left; focus (intro w' s0; have c_0 := s0.1 _ _ HI.out; have c_1 := s0.2 _ _ HJ.out; go_simp <;> try with_reducible rfl))
          try simp only [Act.put, List.setIfInBounds_toArray, List.set_cons_zero, List.set_cons_succ]
          (refine wpAnyH_take (i := 7) (oi := { dst := some 65, op := Go.Op.move (Go.Operand.tmp 6), type := 39, pos := "outright.go:85", after := #[{ on := 1, ground := Go.Ground.guard }], guard := some (1, false) }) (v := ?_) rfl (by kernel_rfl) (by kernel_rfl) (by kernel_rfl) (fun _ _ _ h => h) (Or.inl ⟨by rfl, ?_⟩) hS ?_; rotate_left; focus (intro w' s0; go_simp <;> try with_reducible rfl))
          try simp only [Act.put, List.setIfInBounds_toArray, List.set_cons_zero, List.set_cons_succ]
          (refine wpAnyH_take (i := 8) (oi := { dst := some 66, op := Go.Op.move (Go.Operand.tmp 8), type := 3, pos := "outright.go:85", after := #[{ on := 1, ground := Go.Ground.guard }], guard := some (1, false) }) (v := ?_) rfl (by kernel_rfl) (by kernel_rfl) (by kernel_rfl) (fun _ _ _ h => h) (Or.inl ⟨by rfl, ?_⟩) hS ?_; rotate_left; focus (intro w' s0; go_simp <;> try with_reducible rfl))
          try simp only [Act.put, List.setIfInBounds_toArray, List.set_cons_zero, List.set_cons_succ]
          (refine wpAnyH_take (i := 9) (oi := { dst := some 67, op := Go.Op.indexAddr 39 (Go.Operand.tmp 65) (Go.Operand.tmp 66), type := 0, pos := "outright.go:85", after := #[{ on := 7, ground := Go.Ground.data }, { on := 8, ground := Go.Ground.data }, { on := 1, ground := Go.Ground.guard }], guard := some (1, false) }) (v := ?_) rfl (by kernel_rfl) (by kernel_rfl) (by kernel_rfl) (fun _ _ _ h => h) (Or.inl ⟨by rfl, ?_⟩) hS ?_; rotate_left; focus (intro w' s0; go_simp <;> try with_reducible rfl))
          try simp only [Act.put, List.setIfInBounds_toArray, List.set_cons_zero, List.set_cons_succ]
          (refine wpAnyH_take (i := 10) (oi := { dst := some 68, op := Go.Op.load 3 (Go.Operand.tmp 67), type := 3, pos := "outright.go:85", after := #[{ on := 9, ground := Go.Ground.data }, { on := 1, ground := Go.Ground.guard }], guard := some (1, false) }) (v := ?_) rfl (by kernel_rfl) (by kernel_rfl) (by kernel_rfl) (fun _ _ _ h => h) (Or.inl ⟨by rfl, ?_⟩) hS ?_; rotate_left; focus (intro w' s0; have c_0 := s0.1 _ _ HI.out; have c_1 := s0.2 _ _ HJ.out; go_simp <;> try with_reducible rfl))
          try simp only [Act.put, List.setIfInBounds_toArray, List.set_cons_zero, List.set_cons_succ]
          refine wpAnyH_ready (rs := [11]) (by kernel_rfl) (by simp) ?_
          refine AllReadyH.cons (o := { dst := some 69, op := Go.Op.call { callee := Go.Callee.value (Go.Operand.func 11), args := #[Go.Operand.tmp 60, Go.Operand.tmp 64, Go.Operand.tmp 68, Go.Operand.const (Go.Value.int Go.IntKind.u64 1)], argTypes := #[26, 22, 3, 22] }, type := 4, pos := "outright.go:85", after := #[{ on := 2, ground := Go.Ground.data }, { on := 6, ground := Go.Ground.data }, { on := 10, ground := Go.Ground.data }, { on := 1, ground := Go.Ground.chain }, { on := 1, ground := Go.Ground.guard }], guard := some (1, false) }) rfl (fun K hK => ?_) AllReadyH.nil
          refine take_if (by rfl) ?_
          go_simp
          (with_reducible refine (cjstore_at Hd.out.o OK.out (JTb.h1 HTB (Lib.hid Hd.out.b)) x z 1 false _ HD.out.2.1 (HD.out.2.2.2 _) x0 x1 z0 z1 (by decide) (by decide)).mono ?_)
          rintro e' w1 ⟨rfl, m1, f1⟩
          have hS2 : At (b) eV w1 ∧ At (b + 1) sV w1 := ⟨hS.1.fram f1 (by omega) (fun x => by unfold Rg at x; omega), hS.2.fram f1 (by omega) (fun x => by unfold Rg at x; omega)⟩
          have hs1 := f1.size
          have H6 := Lib.hid (Hd.out.code m1 f1)
          clear m1 f1
          refine hK.out _ _ hS2 (fun hS => ?_)
          clear hK K hS2
          try simp only [Act.put, List.setIfInBounds_toArray, List.set_cons_zero, List.set_cons_succ]
          (refine wpAnyH_take (i := 12) (oi := { dst := some 70, op := Go.Op.pick (Go.Operand.tmp 59) (Go.Operand.const (Go.Value.bool true)) (Go.Operand.tmp 69), type := 4, pos := "outright.go:85", after := #[{ on := 1, ground := Go.Ground.data }, { on := 11, ground := Go.Ground.data }], guard := none }) (v := ?_) rfl (by kernel_rfl) (by kernel_rfl) (by kernel_rfl) (fun _ _ _ h => h) (Or.inl ⟨by rfl, ?_⟩) hS ?_; rotate_left; focus (intro w' s0; go_simp <;> try with_reducible rfl))
          try simp only [Act.put, List.setIfInBounds_toArray, List.set_cons_zero, List.set_cons_succ]
          refine wpAnyH_done (by kernel_rfl) ?_ _
          have HA6 := Lib.hid hS.1
          have HC6 := Lib.hid hS.2
          clear hS H5 HA5 HC5 Hd
          go_wp2
          go_roundw
          case rel => exact ⟨m + 1, by omega, by go_num, H6.out, HA6.out, HC6.out⟩
          case measure => simp [intOf]; omega
        · obtain rfl : m = 4 := by omega
          have H2 := Lib.hid h
          have HA2 := Lib.hid hA5
          have HC2 := Lib.hid hC5
          clear h hA5 hC5
          go_wp2
          go_roundw
          case rel => exact ⟨k + 1, by omega, by go_num, H2.out, HA2.out, HC2.out⟩
          case measure => simp [intOf]; omega
    · obtain rfl : k = 13 := by omega
      have H6 := H
      clear h hA5 hC5
      go_wp2_with (first | (go_at_call 11; (with_reducible refine (cjstore_at H6.out.o OK.out (JTb.h1 HTB (Lib.hid H6.out.b)) 33554432 4 1 true qS1 qf1 rfl (by decide) (by decide) (by decide) (by decide) (by decide) (by decide)).mono ?_); rintro e' w11 ⟨rfl, m11, f11⟩; have hs11 := f11.size; have H11 := Lib.hid (H6.out.code m11 f11); clear m11 f11) | (go_at_call 13; (with_reducible refine (cjlines_at H11.out.o NK1.out (JTb.h1 HTB (Lib.hid H11.out.b)) 8 qf2).mono ?_); rintro e' w12 ⟨rfl, m12, f12⟩; have hs12 := f12.size; have H12 := Lib.hid (H11.out.code m12 f12); clear m12 f12) | (go_at_call 11; (with_reducible refine (cjstore_at H12.out.o NK1.out (JTb.h1 HTB (Lib.hid H12.out.b)) 33570816 8 0 true qS2 qf3 rfl (by decide) (by decide) (by decide) (by decide) (by decide) (by decide)).mono ?_); rintro e' w13 ⟨rfl, m13, f13⟩; have hs13 := f13.size; have H13 := Lib.hid (H12.out.code m13 f13); clear m13 f13) | (go_at_call 13; (with_reducible refine (cjlines_at H13.out.o NK2.out (JTb.h1 HTB (Lib.hid H13.out.b)) 136 qf4).mono ?_); rintro e' w14 ⟨rfl, m14, f14⟩; have hs14 := f14.size; have H14 := Lib.hid (H13.out.code m14 f14); clear m14 f14) | (go_at_call 10; (with_reducible refine (cjload_at H14.out.o NK2.out (JTb.h1 HTB (Lib.hid H14.out.b)) 268435461 1 96 true qS3 qf5 qf6 rfl (by decide) (by decide) (by decide) (by decide)).mono ?_); rintro e' w15 ⟨rfl, m15, f15⟩; have hs15 := f15.size; have H15 := Lib.hid (H14.out.code m15 f15); clear m15 f15) | (go_at_call 14; (with_reducible refine (cjinram_at H15.out.o NK3.out (JTb.h1 HTB (Lib.hid H15.out.b)) 2147483648 4096 true qf7 (by decide) (by decide) (by decide) (by decide)).mono ?_); rintro e' w16 ⟨rfl, m16, f16⟩; have hs16 := f16.size; have H16 := Lib.hid (H15.out.code m16 f16); clear m16 f16) | (go_at_call 14; (with_reducible refine (cjinram_at H16.out.o NK3.out (JTb.h1 HTB (Lib.hid H16.out.b)) 2147483648 4097 false qf8 (by decide) (by decide) (by decide) (by decide)).mono ?_); rintro e' w17 ⟨rfl, m17, f17⟩; have hs17 := f17.size; have H17 := Lib.hid (H16.out.code m17 f17); clear m17 f17) | (go_at_call 14; (with_reducible refine (cjinram_at H17.out.o NK3.out (JTb.h1 HTB (Lib.hid H17.out.b)) 2147483648 (-1) false qf9 (by decide) (by decide) (by decide) (by decide)).mono ?_); rintro e' w18 ⟨rfl, m18, f18⟩; have hs18 := f18.size; have H18 := Lib.hid (H17.out.code m18 f18); clear m18 f18) | (go_at_call 14; (with_reducible refine (cjinram_at H18.out.o NK3.out (JTb.h1 HTB (Lib.hid H18.out.b)) 2147487744 0 true qf10 (by decide) (by decide) (by decide) (by decide)).mono ?_); rintro e' w19 ⟨rfl, m19, f19⟩; have hs19 := f19.size; have H19 := Lib.hid (H18.out.code m19 f19); clear m19 f19) | (go_at_call 11; (with_reducible refine (cjstore_at H19.out.o NK3.out (JTb.h1 HTB (Lib.hid H19.out.b)) 1048576 4 21845 true qS4 qf11 rfl (by decide) (by decide) (by decide) (by decide) (by decide) (by decide)).mono ?_); rintro e' w20 ⟨rfl, m20, f20⟩; have hs20 := f20.size; have H20 := Lib.hid (H19.out.code m20 f20); obtain ⟨gp, cp, hp⟩ := H20.out.o.pw (JTb.h1 HTB (Lib.hid H20.out.b)); have HP := Lib.hid hp; clear hp; clear m20 f20) | (go_at_call 15; (with_reducible refine (HP.out).mono ?_); rintro e' w21 ⟨rfl, m21, f21⟩; have hs21 := f21.size; have H21 := Lib.hid (H20.out.code m21 f21); clear m21 f21) | (go_at_call 12; (with_reducible refine (known15_w _ (JTb.h1 HTB (Lib.hid H21.out.b))).mono ?_); rintro e' w22 ⟨rfl, b22⟩; have HZ := Lib.hid (H21.out.b.trans (b22.mono H21.out.b.size)); clear b22))
      go_ret
      exact ⟨rfl, HZ.out⟩
end Go.Proofs.Ytikibfpfieoabaa
