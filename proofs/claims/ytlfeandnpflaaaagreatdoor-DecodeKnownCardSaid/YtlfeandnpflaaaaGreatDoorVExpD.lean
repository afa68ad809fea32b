/-
  Contract of rvc.Expand, row by row (4 of 4). No condition but what the tables hold.
-/
import Derived.Test.YtlfeandnpflaaaaGreatDoorVMk
import Derived.Test.YtlfeandnpflaaaaGreatDoorMA
namespace Go.Proofs.YtlfeandnpflaaaaGreatDoor
open Go.ChangeShapes Go.WideShapes Go.ChangeAt Go.RowKit
set_option linter.unusedVariables false
set_option linter.unusedSimpArgs false
set_option maxHeartbeats 4000000 in
set_option maxRecDepth 4000 in
theorem exp_3_0 (x : Nat) (hx : x < 65536) (w : World) (tb : Tb w) (hl : x % 4 = 3) (hh : x / 8192 = 0) :
    Calls Tryz.prog 17 #[.int .u16 (x : Int)] w fun e w' => e = .returned (VR (ex x)) ∧ Kp w w' := by
  have e : ex x = none := by simp [ex, hl, hh, row]
  rw [e]
  have TB := Lib.hid tb
  have HL := Lib.hid hl
  have HH := Lib.hid hh
  clear e tb hl hh
  go_enter Tryz.func17, Tryz.ntmps17
  go_wp2
  refine wp_region_held_drew (S := fun w' => Kp w w') (by kernel_rfl) (Kp.refl w).drew (fun hS => ?_)
  generalize hgw : w.drew = g0 at hS ⊢
  clear hgw
  try simp only [Act.put, zA, zB, zC]
  (refine tk 1 ?_ rfl (Or.inl ⟨by rfl, ?_⟩) hS ?_; rotate_left; focus (intro w' hSw; go_simp <;> try with_reducible rfl))
  try simp only [Act.put, zA, zB, zC]
  (refine tk 4 ?_ rfl (Or.inl ⟨by rfl, ?_⟩) hS ?_; rotate_left; focus (intro w' hSw; go_simp <;> try with_reducible rfl))
  try simp only [Act.put, zA, zB, zC]
  refine rdy 0 rfl (fun K hK => ?_)
  refine take_if (by rfl) ?_
  go_simp
  (with_reducible refine (rows_w g0).mono ?_)
  rintro e' g1 ⟨b0, b1, b2, b3, b4, b5, b6, b7, b8, b9, b10, b11, b12, b13, b14, b15, b16, b17, rfl, qk, rc⟩
  refine hK.out _ _ (hS.trans qk) (fun hS => ?_)
  clear qk
  clear hK K
  try simp only [Act.put, zA, zB, zC]
  have hI1 : ∀ w, (Instr.index 47 (.agg (rowsA b0 b1 b2 b3 b4 b5 b6 b7 b8 b9 b10 b11 b12 b13 b14 b15 b16 b17)) (.int .u32 3)).run Tryz.prog w = .ok (.agg #[.nilFunc, .nilFunc, .nilFunc, .nilFunc, .nilFunc, .nilFunc, .nilFunc, .nilFunc]) w := fun _ => by kernel_rfl
  have hI2 : ∀ w, (Instr.index 46 (.agg #[.nilFunc, .nilFunc, .nilFunc, .nilFunc, .nilFunc, .nilFunc, .nilFunc, .nilFunc]) (.int .u32 0)).run Tryz.prog w = .ok (.nilFunc) w := fun _ => by kernel_rfl
  have hE : ∀ w, (binOp .eql 45 (.nilFunc) .nilFunc).run Tryz.prog w = .ok (.bool true) w := fun _ => by kernel_rfl
  have TG := Lib.hid (TB.out.kp hS)
  clear rc
  refine rdy 2 rfl (fun K hK => ?_)
  refine take_if (by rfl) ?_
  go_simp
  have c := vlow_w x hx g1
  rw [HL.out] at c
  (try simp only [Int.cast_ofNat_Int, Int.natCast_zero, Int.natCast_one] at c)
  (with_reducible refine c.mono ?_)
  rintro e' w' ⟨rfl, rfl⟩
  refine hK.out _ _ hS (fun hS => ?_)
  clear c
  clear hK K
  try simp only [Act.put, zA, zB, zC]
  (refine tk 3 ?_ rfl (Or.inl ⟨by rfl, ?_⟩) hS ?_; rotate_left; focus (intro w' hSw; go_simp <;> try with_reducible rfl))
  try simp only [Act.put, zA, zB, zC]
  refine rdy 5 rfl (fun K hK => ?_)
  refine take_if (by rfl) ?_
  go_simp
  have c := vhigh_w x hx g1
  rw [HH.out] at c
  (try simp only [Int.cast_ofNat_Int, Int.natCast_zero, Int.natCast_one] at c)
  (with_reducible refine c.mono ?_)
  rintro e' w' ⟨rfl, rfl⟩
  refine hK.out _ _ hS (fun hS => ?_)
  clear c
  clear hK K
  try simp only [Act.put, zA, zB, zC]
  (refine tk 6 ?_ rfl (Or.inl ⟨by rfl, ?_⟩) hS ?_; rotate_left; focus (intro w' hSw; go_simp <;> try with_reducible rfl))
  try simp only [Act.put, zA, zB, zC]
  (refine tk 7 ?_ rfl (Or.inl ⟨by rfl, ?_⟩) hS ?_; rotate_left; focus (intro w' hSw; go_simp <;> try with_reducible rfl))
  try simp only [Act.put, zA, zB, zC]
  refine wpAnyH_done (by kernel_rfl) ?_ _
  have HS := Lib.hid hS
  clear hS
  go_wp2
  go_ret2
  exact ⟨rfl, HS.out⟩
set_option maxHeartbeats 4000000 in
set_option maxRecDepth 4000 in
theorem exp_3_1 (x : Nat) (hx : x < 65536) (w : World) (tb : Tb w) (hl : x % 4 = 3) (hh : x / 8192 = 1) :
    Calls Tryz.prog 17 #[.int .u16 (x : Int)] w fun e w' => e = .returned (VR (ex x)) ∧ Kp w w' := by
  have e : ex x = none := by simp [ex, hl, hh, row]
  rw [e]
  have TB := Lib.hid tb
  have HL := Lib.hid hl
  have HH := Lib.hid hh
  clear e tb hl hh
  go_enter Tryz.func17, Tryz.ntmps17
  go_wp2
  refine wp_region_held_drew (S := fun w' => Kp w w') (by kernel_rfl) (Kp.refl w).drew (fun hS => ?_)
  generalize hgw : w.drew = g0 at hS ⊢
  clear hgw
  try simp only [Act.put, zA, zB, zC]
  (refine tk 1 ?_ rfl (Or.inl ⟨by rfl, ?_⟩) hS ?_; rotate_left; focus (intro w' hSw; go_simp <;> try with_reducible rfl))
  try simp only [Act.put, zA, zB, zC]
  (refine tk 4 ?_ rfl (Or.inl ⟨by rfl, ?_⟩) hS ?_; rotate_left; focus (intro w' hSw; go_simp <;> try with_reducible rfl))
  try simp only [Act.put, zA, zB, zC]
  refine rdy 0 rfl (fun K hK => ?_)
  refine take_if (by rfl) ?_
  go_simp
  (with_reducible refine (rows_w g0).mono ?_)
  rintro e' g1 ⟨b0, b1, b2, b3, b4, b5, b6, b7, b8, b9, b10, b11, b12, b13, b14, b15, b16, b17, rfl, qk, rc⟩
  refine hK.out _ _ (hS.trans qk) (fun hS => ?_)
  clear qk
  clear hK K
  try simp only [Act.put, zA, zB, zC]
  have hI1 : ∀ w, (Instr.index 47 (.agg (rowsA b0 b1 b2 b3 b4 b5 b6 b7 b8 b9 b10 b11 b12 b13 b14 b15 b16 b17)) (.int .u32 3)).run Tryz.prog w = .ok (.agg #[.nilFunc, .nilFunc, .nilFunc, .nilFunc, .nilFunc, .nilFunc, .nilFunc, .nilFunc]) w := fun _ => by kernel_rfl
  have hI2 : ∀ w, (Instr.index 46 (.agg #[.nilFunc, .nilFunc, .nilFunc, .nilFunc, .nilFunc, .nilFunc, .nilFunc, .nilFunc]) (.int .u32 1)).run Tryz.prog w = .ok (.nilFunc) w := fun _ => by kernel_rfl
  have hE : ∀ w, (binOp .eql 45 (.nilFunc) .nilFunc).run Tryz.prog w = .ok (.bool true) w := fun _ => by kernel_rfl
  have TG := Lib.hid (TB.out.kp hS)
  clear rc
  refine rdy 2 rfl (fun K hK => ?_)
  refine take_if (by rfl) ?_
  go_simp
  have c := vlow_w x hx g1
  rw [HL.out] at c
  (try simp only [Int.cast_ofNat_Int, Int.natCast_zero, Int.natCast_one] at c)
  (with_reducible refine c.mono ?_)
  rintro e' w' ⟨rfl, rfl⟩
  refine hK.out _ _ hS (fun hS => ?_)
  clear c
  clear hK K
  try simp only [Act.put, zA, zB, zC]
  (refine tk 3 ?_ rfl (Or.inl ⟨by rfl, ?_⟩) hS ?_; rotate_left; focus (intro w' hSw; go_simp <;> try with_reducible rfl))
  try simp only [Act.put, zA, zB, zC]
  refine rdy 5 rfl (fun K hK => ?_)
  refine take_if (by rfl) ?_
  go_simp
  have c := vhigh_w x hx g1
  rw [HH.out] at c
  (try simp only [Int.cast_ofNat_Int, Int.natCast_zero, Int.natCast_one] at c)
  (with_reducible refine c.mono ?_)
  rintro e' w' ⟨rfl, rfl⟩
  refine hK.out _ _ hS (fun hS => ?_)
  clear c
  clear hK K
  try simp only [Act.put, zA, zB, zC]
  (refine tk 6 ?_ rfl (Or.inl ⟨by rfl, ?_⟩) hS ?_; rotate_left; focus (intro w' hSw; go_simp <;> try with_reducible rfl))
  try simp only [Act.put, zA, zB, zC]
  (refine tk 7 ?_ rfl (Or.inl ⟨by rfl, ?_⟩) hS ?_; rotate_left; focus (intro w' hSw; go_simp <;> try with_reducible rfl))
  try simp only [Act.put, zA, zB, zC]
  refine wpAnyH_done (by kernel_rfl) ?_ _
  have HS := Lib.hid hS
  clear hS
  go_wp2
  go_ret2
  exact ⟨rfl, HS.out⟩
set_option maxHeartbeats 4000000 in
set_option maxRecDepth 4000 in
theorem exp_3_2 (x : Nat) (hx : x < 65536) (w : World) (tb : Tb w) (hl : x % 4 = 3) (hh : x / 8192 = 2) :
    Calls Tryz.prog 17 #[.int .u16 (x : Int)] w fun e w' => e = .returned (VR (ex x)) ∧ Kp w w' := by
  have e : ex x = none := by simp [ex, hl, hh, row]
  rw [e]
  have TB := Lib.hid tb
  have HL := Lib.hid hl
  have HH := Lib.hid hh
  clear e tb hl hh
  go_enter Tryz.func17, Tryz.ntmps17
  go_wp2
  refine wp_region_held_drew (S := fun w' => Kp w w') (by kernel_rfl) (Kp.refl w).drew (fun hS => ?_)
  generalize hgw : w.drew = g0 at hS ⊢
  clear hgw
  try simp only [Act.put, zA, zB, zC]
  (refine tk 1 ?_ rfl (Or.inl ⟨by rfl, ?_⟩) hS ?_; rotate_left; focus (intro w' hSw; go_simp <;> try with_reducible rfl))
  try simp only [Act.put, zA, zB, zC]
  (refine tk 4 ?_ rfl (Or.inl ⟨by rfl, ?_⟩) hS ?_; rotate_left; focus (intro w' hSw; go_simp <;> try with_reducible rfl))
  try simp only [Act.put, zA, zB, zC]
  refine rdy 0 rfl (fun K hK => ?_)
  refine take_if (by rfl) ?_
  go_simp
  (with_reducible refine (rows_w g0).mono ?_)
  rintro e' g1 ⟨b0, b1, b2, b3, b4, b5, b6, b7, b8, b9, b10, b11, b12, b13, b14, b15, b16, b17, rfl, qk, rc⟩
  refine hK.out _ _ (hS.trans qk) (fun hS => ?_)
  clear qk
  clear hK K
  try simp only [Act.put, zA, zB, zC]
  have hI1 : ∀ w, (Instr.index 47 (.agg (rowsA b0 b1 b2 b3 b4 b5 b6 b7 b8 b9 b10 b11 b12 b13 b14 b15 b16 b17)) (.int .u32 3)).run Tryz.prog w = .ok (.agg #[.nilFunc, .nilFunc, .nilFunc, .nilFunc, .nilFunc, .nilFunc, .nilFunc, .nilFunc]) w := fun _ => by kernel_rfl
  have hI2 : ∀ w, (Instr.index 46 (.agg #[.nilFunc, .nilFunc, .nilFunc, .nilFunc, .nilFunc, .nilFunc, .nilFunc, .nilFunc]) (.int .u32 2)).run Tryz.prog w = .ok (.nilFunc) w := fun _ => by kernel_rfl
  have hE : ∀ w, (binOp .eql 45 (.nilFunc) .nilFunc).run Tryz.prog w = .ok (.bool true) w := fun _ => by kernel_rfl
  have TG := Lib.hid (TB.out.kp hS)
  clear rc
  refine rdy 2 rfl (fun K hK => ?_)
  refine take_if (by rfl) ?_
  go_simp
  have c := vlow_w x hx g1
  rw [HL.out] at c
  (try simp only [Int.cast_ofNat_Int, Int.natCast_zero, Int.natCast_one] at c)
  (with_reducible refine c.mono ?_)
  rintro e' w' ⟨rfl, rfl⟩
  refine hK.out _ _ hS (fun hS => ?_)
  clear c
  clear hK K
  try simp only [Act.put, zA, zB, zC]
  (refine tk 3 ?_ rfl (Or.inl ⟨by rfl, ?_⟩) hS ?_; rotate_left; focus (intro w' hSw; go_simp <;> try with_reducible rfl))
  try simp only [Act.put, zA, zB, zC]
  refine rdy 5 rfl (fun K hK => ?_)
  refine take_if (by rfl) ?_
  go_simp
  have c := vhigh_w x hx g1
  rw [HH.out] at c
  (try simp only [Int.cast_ofNat_Int, Int.natCast_zero, Int.natCast_one] at c)
  (with_reducible refine c.mono ?_)
  rintro e' w' ⟨rfl, rfl⟩
  refine hK.out _ _ hS (fun hS => ?_)
  clear c
  clear hK K
  try simp only [Act.put, zA, zB, zC]
  (refine tk 6 ?_ rfl (Or.inl ⟨by rfl, ?_⟩) hS ?_; rotate_left; focus (intro w' hSw; go_simp <;> try with_reducible rfl))
  try simp only [Act.put, zA, zB, zC]
  (refine tk 7 ?_ rfl (Or.inl ⟨by rfl, ?_⟩) hS ?_; rotate_left; focus (intro w' hSw; go_simp <;> try with_reducible rfl))
  try simp only [Act.put, zA, zB, zC]
  refine wpAnyH_done (by kernel_rfl) ?_ _
  have HS := Lib.hid hS
  clear hS
  go_wp2
  go_ret2
  exact ⟨rfl, HS.out⟩
set_option maxHeartbeats 4000000 in
set_option maxRecDepth 4000 in
theorem exp_3_3 (x : Nat) (hx : x < 65536) (w : World) (tb : Tb w) (hl : x % 4 = 3) (hh : x / 8192 = 3) :
    Calls Tryz.prog 17 #[.int .u16 (x : Int)] w fun e w' => e = .returned (VR (ex x)) ∧ Kp w w' := by
  have e : ex x = none := by simp [ex, hl, hh, row]
  rw [e]
  have TB := Lib.hid tb
  have HL := Lib.hid hl
  have HH := Lib.hid hh
  clear e tb hl hh
  go_enter Tryz.func17, Tryz.ntmps17
  go_wp2
  refine wp_region_held_drew (S := fun w' => Kp w w') (by kernel_rfl) (Kp.refl w).drew (fun hS => ?_)
  generalize hgw : w.drew = g0 at hS ⊢
  clear hgw
  try simp only [Act.put, zA, zB, zC]
  (refine tk 1 ?_ rfl (Or.inl ⟨by rfl, ?_⟩) hS ?_; rotate_left; focus (intro w' hSw; go_simp <;> try with_reducible rfl))
  try simp only [Act.put, zA, zB, zC]
  (refine tk 4 ?_ rfl (Or.inl ⟨by rfl, ?_⟩) hS ?_; rotate_left; focus (intro w' hSw; go_simp <;> try with_reducible rfl))
  try simp only [Act.put, zA, zB, zC]
  refine rdy 0 rfl (fun K hK => ?_)
  refine take_if (by rfl) ?_
  go_simp
  (with_reducible refine (rows_w g0).mono ?_)
  rintro e' g1 ⟨b0, b1, b2, b3, b4, b5, b6, b7, b8, b9, b10, b11, b12, b13, b14, b15, b16, b17, rfl, qk, rc⟩
  refine hK.out _ _ (hS.trans qk) (fun hS => ?_)
  clear qk
  clear hK K
  try simp only [Act.put, zA, zB, zC]
  have hI1 : ∀ w, (Instr.index 47 (.agg (rowsA b0 b1 b2 b3 b4 b5 b6 b7 b8 b9 b10 b11 b12 b13 b14 b15 b16 b17)) (.int .u32 3)).run Tryz.prog w = .ok (.agg #[.nilFunc, .nilFunc, .nilFunc, .nilFunc, .nilFunc, .nilFunc, .nilFunc, .nilFunc]) w := fun _ => by kernel_rfl
  have hI2 : ∀ w, (Instr.index 46 (.agg #[.nilFunc, .nilFunc, .nilFunc, .nilFunc, .nilFunc, .nilFunc, .nilFunc, .nilFunc]) (.int .u32 3)).run Tryz.prog w = .ok (.nilFunc) w := fun _ => by kernel_rfl
  have hE : ∀ w, (binOp .eql 45 (.nilFunc) .nilFunc).run Tryz.prog w = .ok (.bool true) w := fun _ => by kernel_rfl
  have TG := Lib.hid (TB.out.kp hS)
  clear rc
  refine rdy 2 rfl (fun K hK => ?_)
  refine take_if (by rfl) ?_
  go_simp
  have c := vlow_w x hx g1
  rw [HL.out] at c
  (try simp only [Int.cast_ofNat_Int, Int.natCast_zero, Int.natCast_one] at c)
  (with_reducible refine c.mono ?_)
  rintro e' w' ⟨rfl, rfl⟩
  refine hK.out _ _ hS (fun hS => ?_)
  clear c
  clear hK K
  try simp only [Act.put, zA, zB, zC]
  (refine tk 3 ?_ rfl (Or.inl ⟨by rfl, ?_⟩) hS ?_; rotate_left; focus (intro w' hSw; go_simp <;> try with_reducible rfl))
  try simp only [Act.put, zA, zB, zC]
  refine rdy 5 rfl (fun K hK => ?_)
  refine take_if (by rfl) ?_
  go_simp
  have c := vhigh_w x hx g1
  rw [HH.out] at c
  (try simp only [Int.cast_ofNat_Int, Int.natCast_zero, Int.natCast_one] at c)
  (with_reducible refine c.mono ?_)
  rintro e' w' ⟨rfl, rfl⟩
  refine hK.out _ _ hS (fun hS => ?_)
  clear c
  clear hK K
  try simp only [Act.put, zA, zB, zC]
  (refine tk 6 ?_ rfl (Or.inl ⟨by rfl, ?_⟩) hS ?_; rotate_left; focus (intro w' hSw; go_simp <;> try with_reducible rfl))
  try simp only [Act.put, zA, zB, zC]
  (refine tk 7 ?_ rfl (Or.inl ⟨by rfl, ?_⟩) hS ?_; rotate_left; focus (intro w' hSw; go_simp <;> try with_reducible rfl))
  try simp only [Act.put, zA, zB, zC]
  refine wpAnyH_done (by kernel_rfl) ?_ _
  have HS := Lib.hid hS
  clear hS
  go_wp2
  go_ret2
  exact ⟨rfl, HS.out⟩
set_option maxHeartbeats 4000000 in
set_option maxRecDepth 4000 in
theorem exp_3_4 (x : Nat) (hx : x < 65536) (w : World) (tb : Tb w) (hl : x % 4 = 3) (hh : x / 8192 = 4) :
    Calls Tryz.prog 17 #[.int .u16 (x : Int)] w fun e w' => e = .returned (VR (ex x)) ∧ Kp w w' := by
  have e : ex x = none := by simp [ex, hl, hh, row]
  rw [e]
  have TB := Lib.hid tb
  have HL := Lib.hid hl
  have HH := Lib.hid hh
  clear e tb hl hh
  go_enter Tryz.func17, Tryz.ntmps17
  go_wp2
  refine wp_region_held_drew (S := fun w' => Kp w w') (by kernel_rfl) (Kp.refl w).drew (fun hS => ?_)
  generalize hgw : w.drew = g0 at hS ⊢
  clear hgw
  try simp only [Act.put, zA, zB, zC]
  (refine tk 1 ?_ rfl (Or.inl ⟨by rfl, ?_⟩) hS ?_; rotate_left; focus (intro w' hSw; go_simp <;> try with_reducible rfl))
  try simp only [Act.put, zA, zB, zC]
  (refine tk 4 ?_ rfl (Or.inl ⟨by rfl, ?_⟩) hS ?_; rotate_left; focus (intro w' hSw; go_simp <;> try with_reducible rfl))
  try simp only [Act.put, zA, zB, zC]
  refine rdy 0 rfl (fun K hK => ?_)
  refine take_if (by rfl) ?_
  go_simp
  (with_reducible refine (rows_w g0).mono ?_)
  rintro e' g1 ⟨b0, b1, b2, b3, b4, b5, b6, b7, b8, b9, b10, b11, b12, b13, b14, b15, b16, b17, rfl, qk, rc⟩
  refine hK.out _ _ (hS.trans qk) (fun hS => ?_)
  clear qk
  clear hK K
  try simp only [Act.put, zA, zB, zC]
  have hI1 : ∀ w, (Instr.index 47 (.agg (rowsA b0 b1 b2 b3 b4 b5 b6 b7 b8 b9 b10 b11 b12 b13 b14 b15 b16 b17)) (.int .u32 3)).run Tryz.prog w = .ok (.agg #[.nilFunc, .nilFunc, .nilFunc, .nilFunc, .nilFunc, .nilFunc, .nilFunc, .nilFunc]) w := fun _ => by kernel_rfl
  have hI2 : ∀ w, (Instr.index 46 (.agg #[.nilFunc, .nilFunc, .nilFunc, .nilFunc, .nilFunc, .nilFunc, .nilFunc, .nilFunc]) (.int .u32 4)).run Tryz.prog w = .ok (.nilFunc) w := fun _ => by kernel_rfl
  have hE : ∀ w, (binOp .eql 45 (.nilFunc) .nilFunc).run Tryz.prog w = .ok (.bool true) w := fun _ => by kernel_rfl
  have TG := Lib.hid (TB.out.kp hS)
  clear rc
  refine rdy 2 rfl (fun K hK => ?_)
  refine take_if (by rfl) ?_
  go_simp
  have c := vlow_w x hx g1
  rw [HL.out] at c
  (try simp only [Int.cast_ofNat_Int, Int.natCast_zero, Int.natCast_one] at c)
  (with_reducible refine c.mono ?_)
  rintro e' w' ⟨rfl, rfl⟩
  refine hK.out _ _ hS (fun hS => ?_)
  clear c
  clear hK K
  try simp only [Act.put, zA, zB, zC]
  (refine tk 3 ?_ rfl (Or.inl ⟨by rfl, ?_⟩) hS ?_; rotate_left; focus (intro w' hSw; go_simp <;> try with_reducible rfl))
  try simp only [Act.put, zA, zB, zC]
  refine rdy 5 rfl (fun K hK => ?_)
  refine take_if (by rfl) ?_
  go_simp
  have c := vhigh_w x hx g1
  rw [HH.out] at c
  (try simp only [Int.cast_ofNat_Int, Int.natCast_zero, Int.natCast_one] at c)
  (with_reducible refine c.mono ?_)
  rintro e' w' ⟨rfl, rfl⟩
  refine hK.out _ _ hS (fun hS => ?_)
  clear c
  clear hK K
  try simp only [Act.put, zA, zB, zC]
  (refine tk 6 ?_ rfl (Or.inl ⟨by rfl, ?_⟩) hS ?_; rotate_left; focus (intro w' hSw; go_simp <;> try with_reducible rfl))
  try simp only [Act.put, zA, zB, zC]
  (refine tk 7 ?_ rfl (Or.inl ⟨by rfl, ?_⟩) hS ?_; rotate_left; focus (intro w' hSw; go_simp <;> try with_reducible rfl))
  try simp only [Act.put, zA, zB, zC]
  refine wpAnyH_done (by kernel_rfl) ?_ _
  have HS := Lib.hid hS
  clear hS
  go_wp2
  go_ret2
  exact ⟨rfl, HS.out⟩
set_option maxHeartbeats 4000000 in
set_option maxRecDepth 4000 in
theorem exp_3_5 (x : Nat) (hx : x < 65536) (w : World) (tb : Tb w) (hl : x % 4 = 3) (hh : x / 8192 = 5) :
    Calls Tryz.prog 17 #[.int .u16 (x : Int)] w fun e w' => e = .returned (VR (ex x)) ∧ Kp w w' := by
  have e : ex x = none := by simp [ex, hl, hh, row]
  rw [e]
  have TB := Lib.hid tb
  have HL := Lib.hid hl
  have HH := Lib.hid hh
  clear e tb hl hh
  go_enter Tryz.func17, Tryz.ntmps17
  go_wp2
  refine wp_region_held_drew (S := fun w' => Kp w w') (by kernel_rfl) (Kp.refl w).drew (fun hS => ?_)
  generalize hgw : w.drew = g0 at hS ⊢
  clear hgw
  try simp only [Act.put, zA, zB, zC]
  (refine tk 1 ?_ rfl (Or.inl ⟨by rfl, ?_⟩) hS ?_; rotate_left; focus (intro w' hSw; go_simp <;> try with_reducible rfl))
  try simp only [Act.put, zA, zB, zC]
  (refine tk 4 ?_ rfl (Or.inl ⟨by rfl, ?_⟩) hS ?_; rotate_left; focus (intro w' hSw; go_simp <;> try with_reducible rfl))
  try simp only [Act.put, zA, zB, zC]
  refine rdy 0 rfl (fun K hK => ?_)
  refine take_if (by rfl) ?_
  go_simp
  (with_reducible refine (rows_w g0).mono ?_)
  rintro e' g1 ⟨b0, b1, b2, b3, b4, b5, b6, b7, b8, b9, b10, b11, b12, b13, b14, b15, b16, b17, rfl, qk, rc⟩
  refine hK.out _ _ (hS.trans qk) (fun hS => ?_)
  clear qk
  clear hK K
  try simp only [Act.put, zA, zB, zC]
  have hI1 : ∀ w, (Instr.index 47 (.agg (rowsA b0 b1 b2 b3 b4 b5 b6 b7 b8 b9 b10 b11 b12 b13 b14 b15 b16 b17)) (.int .u32 3)).run Tryz.prog w = .ok (.agg #[.nilFunc, .nilFunc, .nilFunc, .nilFunc, .nilFunc, .nilFunc, .nilFunc, .nilFunc]) w := fun _ => by kernel_rfl
  have hI2 : ∀ w, (Instr.index 46 (.agg #[.nilFunc, .nilFunc, .nilFunc, .nilFunc, .nilFunc, .nilFunc, .nilFunc, .nilFunc]) (.int .u32 5)).run Tryz.prog w = .ok (.nilFunc) w := fun _ => by kernel_rfl
  have hE : ∀ w, (binOp .eql 45 (.nilFunc) .nilFunc).run Tryz.prog w = .ok (.bool true) w := fun _ => by kernel_rfl
  have TG := Lib.hid (TB.out.kp hS)
  clear rc
  refine rdy 2 rfl (fun K hK => ?_)
  refine take_if (by rfl) ?_
  go_simp
  have c := vlow_w x hx g1
  rw [HL.out] at c
  (try simp only [Int.cast_ofNat_Int, Int.natCast_zero, Int.natCast_one] at c)
  (with_reducible refine c.mono ?_)
  rintro e' w' ⟨rfl, rfl⟩
  refine hK.out _ _ hS (fun hS => ?_)
  clear c
  clear hK K
  try simp only [Act.put, zA, zB, zC]
  (refine tk 3 ?_ rfl (Or.inl ⟨by rfl, ?_⟩) hS ?_; rotate_left; focus (intro w' hSw; go_simp <;> try with_reducible rfl))
  try simp only [Act.put, zA, zB, zC]
  refine rdy 5 rfl (fun K hK => ?_)
  refine take_if (by rfl) ?_
  go_simp
  have c := vhigh_w x hx g1
  rw [HH.out] at c
  (try simp only [Int.cast_ofNat_Int, Int.natCast_zero, Int.natCast_one] at c)
  (with_reducible refine c.mono ?_)
  rintro e' w' ⟨rfl, rfl⟩
  refine hK.out _ _ hS (fun hS => ?_)
  clear c
  clear hK K
  try simp only [Act.put, zA, zB, zC]
  (refine tk 6 ?_ rfl (Or.inl ⟨by rfl, ?_⟩) hS ?_; rotate_left; focus (intro w' hSw; go_simp <;> try with_reducible rfl))
  try simp only [Act.put, zA, zB, zC]
  (refine tk 7 ?_ rfl (Or.inl ⟨by rfl, ?_⟩) hS ?_; rotate_left; focus (intro w' hSw; go_simp <;> try with_reducible rfl))
  try simp only [Act.put, zA, zB, zC]
  refine wpAnyH_done (by kernel_rfl) ?_ _
  have HS := Lib.hid hS
  clear hS
  go_wp2
  go_ret2
  exact ⟨rfl, HS.out⟩
set_option maxHeartbeats 4000000 in
set_option maxRecDepth 4000 in
theorem exp_3_6 (x : Nat) (hx : x < 65536) (w : World) (tb : Tb w) (hl : x % 4 = 3) (hh : x / 8192 = 6) :
    Calls Tryz.prog 17 #[.int .u16 (x : Int)] w fun e w' => e = .returned (VR (ex x)) ∧ Kp w w' := by
  have e : ex x = none := by simp [ex, hl, hh, row]
  rw [e]
  have TB := Lib.hid tb
  have HL := Lib.hid hl
  have HH := Lib.hid hh
  clear e tb hl hh
  go_enter Tryz.func17, Tryz.ntmps17
  go_wp2
  refine wp_region_held_drew (S := fun w' => Kp w w') (by kernel_rfl) (Kp.refl w).drew (fun hS => ?_)
  generalize hgw : w.drew = g0 at hS ⊢
  clear hgw
  try simp only [Act.put, zA, zB, zC]
  (refine tk 1 ?_ rfl (Or.inl ⟨by rfl, ?_⟩) hS ?_; rotate_left; focus (intro w' hSw; go_simp <;> try with_reducible rfl))
  try simp only [Act.put, zA, zB, zC]
  (refine tk 4 ?_ rfl (Or.inl ⟨by rfl, ?_⟩) hS ?_; rotate_left; focus (intro w' hSw; go_simp <;> try with_reducible rfl))
  try simp only [Act.put, zA, zB, zC]
  refine rdy 0 rfl (fun K hK => ?_)
  refine take_if (by rfl) ?_
  go_simp
  (with_reducible refine (rows_w g0).mono ?_)
  rintro e' g1 ⟨b0, b1, b2, b3, b4, b5, b6, b7, b8, b9, b10, b11, b12, b13, b14, b15, b16, b17, rfl, qk, rc⟩
  refine hK.out _ _ (hS.trans qk) (fun hS => ?_)
  clear qk
  clear hK K
  try simp only [Act.put, zA, zB, zC]
  have hI1 : ∀ w, (Instr.index 47 (.agg (rowsA b0 b1 b2 b3 b4 b5 b6 b7 b8 b9 b10 b11 b12 b13 b14 b15 b16 b17)) (.int .u32 3)).run Tryz.prog w = .ok (.agg #[.nilFunc, .nilFunc, .nilFunc, .nilFunc, .nilFunc, .nilFunc, .nilFunc, .nilFunc]) w := fun _ => by kernel_rfl
  have hI2 : ∀ w, (Instr.index 46 (.agg #[.nilFunc, .nilFunc, .nilFunc, .nilFunc, .nilFunc, .nilFunc, .nilFunc, .nilFunc]) (.int .u32 6)).run Tryz.prog w = .ok (.nilFunc) w := fun _ => by kernel_rfl
  have hE : ∀ w, (binOp .eql 45 (.nilFunc) .nilFunc).run Tryz.prog w = .ok (.bool true) w := fun _ => by kernel_rfl
  have TG := Lib.hid (TB.out.kp hS)
  clear rc
  refine rdy 2 rfl (fun K hK => ?_)
  refine take_if (by rfl) ?_
  go_simp
  have c := vlow_w x hx g1
  rw [HL.out] at c
  (try simp only [Int.cast_ofNat_Int, Int.natCast_zero, Int.natCast_one] at c)
  (with_reducible refine c.mono ?_)
  rintro e' w' ⟨rfl, rfl⟩
  refine hK.out _ _ hS (fun hS => ?_)
  clear c
  clear hK K
  try simp only [Act.put, zA, zB, zC]
  (refine tk 3 ?_ rfl (Or.inl ⟨by rfl, ?_⟩) hS ?_; rotate_left; focus (intro w' hSw; go_simp <;> try with_reducible rfl))
  try simp only [Act.put, zA, zB, zC]
  refine rdy 5 rfl (fun K hK => ?_)
  refine take_if (by rfl) ?_
  go_simp
  have c := vhigh_w x hx g1
  rw [HH.out] at c
  (try simp only [Int.cast_ofNat_Int, Int.natCast_zero, Int.natCast_one] at c)
  (with_reducible refine c.mono ?_)
  rintro e' w' ⟨rfl, rfl⟩
  refine hK.out _ _ hS (fun hS => ?_)
  clear c
  clear hK K
  try simp only [Act.put, zA, zB, zC]
  (refine tk 6 ?_ rfl (Or.inl ⟨by rfl, ?_⟩) hS ?_; rotate_left; focus (intro w' hSw; go_simp <;> try with_reducible rfl))
  try simp only [Act.put, zA, zB, zC]
  (refine tk 7 ?_ rfl (Or.inl ⟨by rfl, ?_⟩) hS ?_; rotate_left; focus (intro w' hSw; go_simp <;> try with_reducible rfl))
  try simp only [Act.put, zA, zB, zC]
  refine wpAnyH_done (by kernel_rfl) ?_ _
  have HS := Lib.hid hS
  clear hS
  go_wp2
  go_ret2
  exact ⟨rfl, HS.out⟩
set_option maxHeartbeats 4000000 in
set_option maxRecDepth 4000 in
theorem exp_3_7 (x : Nat) (hx : x < 65536) (w : World) (tb : Tb w) (hl : x % 4 = 3) (hh : x / 8192 = 7) :
    Calls Tryz.prog 17 #[.int .u16 (x : Int)] w fun e w' => e = .returned (VR (ex x)) ∧ Kp w w' := by
  have e : ex x = none := by simp [ex, hl, hh, row]
  rw [e]
  have TB := Lib.hid tb
  have HL := Lib.hid hl
  have HH := Lib.hid hh
  clear e tb hl hh
  go_enter Tryz.func17, Tryz.ntmps17
  go_wp2
  refine wp_region_held_drew (S := fun w' => Kp w w') (by kernel_rfl) (Kp.refl w).drew (fun hS => ?_)
  generalize hgw : w.drew = g0 at hS ⊢
  clear hgw
  try simp only [Act.put, zA, zB, zC]
  (refine tk 1 ?_ rfl (Or.inl ⟨by rfl, ?_⟩) hS ?_; rotate_left; focus (intro w' hSw; go_simp <;> try with_reducible rfl))
  try simp only [Act.put, zA, zB, zC]
  (refine tk 4 ?_ rfl (Or.inl ⟨by rfl, ?_⟩) hS ?_; rotate_left; focus (intro w' hSw; go_simp <;> try with_reducible rfl))
  try simp only [Act.put, zA, zB, zC]
  refine rdy 0 rfl (fun K hK => ?_)
  refine take_if (by rfl) ?_
  go_simp
  (with_reducible refine (rows_w g0).mono ?_)
  rintro e' g1 ⟨b0, b1, b2, b3, b4, b5, b6, b7, b8, b9, b10, b11, b12, b13, b14, b15, b16, b17, rfl, qk, rc⟩
  refine hK.out _ _ (hS.trans qk) (fun hS => ?_)
  clear qk
  clear hK K
  try simp only [Act.put, zA, zB, zC]
  have hI1 : ∀ w, (Instr.index 47 (.agg (rowsA b0 b1 b2 b3 b4 b5 b6 b7 b8 b9 b10 b11 b12 b13 b14 b15 b16 b17)) (.int .u32 3)).run Tryz.prog w = .ok (.agg #[.nilFunc, .nilFunc, .nilFunc, .nilFunc, .nilFunc, .nilFunc, .nilFunc, .nilFunc]) w := fun _ => by kernel_rfl
  have hI2 : ∀ w, (Instr.index 46 (.agg #[.nilFunc, .nilFunc, .nilFunc, .nilFunc, .nilFunc, .nilFunc, .nilFunc, .nilFunc]) (.int .u32 7)).run Tryz.prog w = .ok (.nilFunc) w := fun _ => by kernel_rfl
  have hE : ∀ w, (binOp .eql 45 (.nilFunc) .nilFunc).run Tryz.prog w = .ok (.bool true) w := fun _ => by kernel_rfl
  have TG := Lib.hid (TB.out.kp hS)
  clear rc
  refine rdy 2 rfl (fun K hK => ?_)
  refine take_if (by rfl) ?_
  go_simp
  have c := vlow_w x hx g1
  rw [HL.out] at c
  (try simp only [Int.cast_ofNat_Int, Int.natCast_zero, Int.natCast_one] at c)
  (with_reducible refine c.mono ?_)
  rintro e' w' ⟨rfl, rfl⟩
  refine hK.out _ _ hS (fun hS => ?_)
  clear c
  clear hK K
  try simp only [Act.put, zA, zB, zC]
  (refine tk 3 ?_ rfl (Or.inl ⟨by rfl, ?_⟩) hS ?_; rotate_left; focus (intro w' hSw; go_simp <;> try with_reducible rfl))
  try simp only [Act.put, zA, zB, zC]
  refine rdy 5 rfl (fun K hK => ?_)
  refine take_if (by rfl) ?_
  go_simp
  have c := vhigh_w x hx g1
  rw [HH.out] at c
  (try simp only [Int.cast_ofNat_Int, Int.natCast_zero, Int.natCast_one] at c)
  (with_reducible refine c.mono ?_)
  rintro e' w' ⟨rfl, rfl⟩
  refine hK.out _ _ hS (fun hS => ?_)
  clear c
  clear hK K
  try simp only [Act.put, zA, zB, zC]
  (refine tk 6 ?_ rfl (Or.inl ⟨by rfl, ?_⟩) hS ?_; rotate_left; focus (intro w' hSw; go_simp <;> try with_reducible rfl))
  try simp only [Act.put, zA, zB, zC]
  (refine tk 7 ?_ rfl (Or.inl ⟨by rfl, ?_⟩) hS ?_; rotate_left; focus (intro w' hSw; go_simp <;> try with_reducible rfl))
  try simp only [Act.put, zA, zB, zC]
  refine wpAnyH_done (by kernel_rfl) ?_ _
  have HS := Lib.hid hS
  clear hS
  go_wp2
  go_ret2
  exact ⟨rfl, HS.out⟩
end Go.Proofs.YtlfeandnpflaaaaGreatDoor
