/-
  Contract of rvc.Expand, row by row (2 of 4). No condition but what the tables hold.
-/
import Derived.Test.YtlfeandnpflaaaaGreatDoorVMk
import Derived.Test.YtlfeandnpflaaaaGreatDoorMA
namespace Go.Proofs.YtlfeandnpflaaaaGreatDoor
open Go.ChangeShapes Go.WideShapes Go.ChangeAt Go.RowKit
set_option linter.unusedVariables false
set_option linter.unusedSimpArgs false
set_option maxHeartbeats 4000000 in
set_option maxRecDepth 4000 in
theorem exp_1_0 (x : Nat) (hx : x < 65536) (w : World) (tb : Tb w) (hl : x % 4 = 1) (hh : x / 8192 = 0) :
    Calls Tryz.prog 17 #[.int .u16 (x : Int)] w fun e w' => e = .returned (VR (ex x)) ∧ Kp w w' := by
  have e : ex x = rAdd x := by simp [ex, hl, hh, row]
  rw [e]
  have TB := Lib.hid tb
  have HL := Lib.hid hl
  have HH := Lib.hid hh
  clear e tb hl hh
  generalize hv : rAdd x = v
  have HV := Lib.hid hv
  clear hv
  go_enter Tryz.func17, Tryz.ntmps17
  go_wp2
  refine wp_region_held_drew (S := fun w' => Kp w w') (by kernel_rfl) (Kp.refl w).drew (fun hS => ?_)
  generalize hgw : w.drew = g0 at hS ⊢
  clear hgw
  try simp only [Act.put, zA, zB, zC]
  (refine tk 1 ?_ rfl (Or.inl ⟨by rfl, ?_⟩) hS ?_; rotate_left; focus (intro w' hSw; go_simp <;> try with_reducible rfl))
  try simp only [Act.put, zA, zB, zC]
  (refine tk 4 ?_ rfl (Or.inl ⟨by rfl, ?_⟩) hS ?_; rotate_left; focus (intro w' hSw; go_simp <;> try with_reducible rfl))
  try simp only [Act.put, zA, zB, zC]
  refine rdy 0 rfl (fun K hK => ?_)
  refine take_if (by rfl) ?_
  go_simp
  (with_reducible refine (rows_w g0).mono ?_)
  rintro e' g1 ⟨b0, b1, b2, b3, b4, b5, b6, b7, b8, b9, b10, b11, b12, b13, b14, b15, b16, b17, rfl, qk, rc⟩
  refine hK.out _ _ (hS.trans qk) (fun hS => ?_)
  clear qk
  clear hK K
  try simp only [Act.put, zA, zB, zC]
  have hI1 : ∀ w, (Instr.index 47 (.agg (rowsA b0 b1 b2 b3 b4 b5 b6 b7 b8 b9 b10 b11 b12 b13 b14 b15 b16 b17)) (.int .u32 1)).run Tryz.prog w = .ok (.agg #[.func (.func 60) #[] #[], .func (.func 61) #[] #[], .func (.func 62) #[] #[], .func (.func 63) #[] #[], .func (.func 64) #[] #[], .func (.func 65) #[] #[], .func (.func 111) #[] #[.pointer (some ⟨b8, 0, none⟩)], .func (.func 111) #[] #[.pointer (some ⟨b9, 0, none⟩)]]) w := fun _ => by kernel_rfl
  have hI2 : ∀ w, (Instr.index 46 (.agg #[.func (.func 60) #[] #[], .func (.func 61) #[] #[], .func (.func 62) #[] #[], .func (.func 63) #[] #[], .func (.func 64) #[] #[], .func (.func 65) #[] #[], .func (.func 111) #[] #[.pointer (some ⟨b8, 0, none⟩)], .func (.func 111) #[] #[.pointer (some ⟨b9, 0, none⟩)]]) (.int .u32 0)).run Tryz.prog w = .ok (.func (.func 60) #[] #[]) w := fun _ => by kernel_rfl
  have hE : ∀ w, (binOp .eql 45 (.func (.func 60) #[] #[]) .nilFunc).run Tryz.prog w = .ok (.bool false) w := fun _ => by kernel_rfl
  have TG := Lib.hid (TB.out.kp hS)
  clear rc
  refine rdy 2 rfl (fun K hK => ?_)
  refine take_if (by rfl) ?_
  go_simp
  have c := vlow_w x hx g1
  rw [HL.out] at c
  (try simp only [Int.cast_ofNat_Int, Int.natCast_zero, Int.natCast_one] at c)
  (with_reducible refine c.mono ?_)
  rintro e' w' ⟨rfl, rfl⟩
  refine hK.out _ _ hS (fun hS => ?_)
  clear c
  clear hK K
  try simp only [Act.put, zA, zB, zC]
  (refine tk 3 ?_ rfl (Or.inl ⟨by rfl, ?_⟩) hS ?_; rotate_left; focus (intro w' hSw; go_simp <;> try with_reducible rfl))
  try simp only [Act.put, zA, zB, zC]
  refine rdy 5 rfl (fun K hK => ?_)
  refine take_if (by rfl) ?_
  go_simp
  have c := vhigh_w x hx g1
  rw [HH.out] at c
  (try simp only [Int.cast_ofNat_Int, Int.natCast_zero, Int.natCast_one] at c)
  (with_reducible refine c.mono ?_)
  rintro e' w' ⟨rfl, rfl⟩
  refine hK.out _ _ hS (fun hS => ?_)
  clear c
  clear hK K
  try simp only [Act.put, zA, zB, zC]
  (refine tk 6 ?_ rfl (Or.inl ⟨by rfl, ?_⟩) hS ?_; rotate_left; focus (intro w' hSw; go_simp <;> try with_reducible rfl))
  try simp only [Act.put, zA, zB, zC]
  (refine tk 7 ?_ rfl (Or.inl ⟨by rfl, ?_⟩) hS ?_; rotate_left; focus (intro w' hSw; go_simp <;> try with_reducible rfl))
  try simp only [Act.put, zA, zB, zC]
  refine wpAnyH_done (by kernel_rfl) ?_ _
  have HS := Lib.hid hS
  clear hS
  cases v
  · go_wp2_with (go_at_call 60; have c := r_add x hx g1 TG.out; rw [HV.out] at c; dsimp only [VR] at c; with_reducible refine c.mono ?_; rintro e' w1 ⟨rfl, rfl⟩)
    go_ret2
    exact ⟨rfl, HS.out⟩
  · go_wp2_with (go_at_call 60; have c := r_add x hx g1 TG.out; rw [HV.out] at c; dsimp only [VR] at c; with_reducible refine c.mono ?_; rintro e' w1 ⟨rfl, rfl⟩)
    go_ret2
    exact ⟨rfl, HS.out⟩
set_option maxHeartbeats 4000000 in
set_option maxRecDepth 4000 in
theorem exp_1_1 (x : Nat) (hx : x < 65536) (w : World) (tb : Tb w) (hl : x % 4 = 1) (hh : x / 8192 = 1) :
    Calls Tryz.prog 17 #[.int .u16 (x : Int)] w fun e w' => e = .returned (VR (ex x)) ∧ Kp w w' := by
  have e : ex x = rAddWord x := by simp [ex, hl, hh, row]
  rw [e]
  have TB := Lib.hid tb
  have HL := Lib.hid hl
  have HH := Lib.hid hh
  clear e tb hl hh
  generalize hv : rAddWord x = v
  have HV := Lib.hid hv
  clear hv
  go_enter Tryz.func17, Tryz.ntmps17
  go_wp2
  refine wp_region_held_drew (S := fun w' => Kp w w') (by kernel_rfl) (Kp.refl w).drew (fun hS => ?_)
  generalize hgw : w.drew = g0 at hS ⊢
  clear hgw
  try simp only [Act.put, zA, zB, zC]
  (refine tk 1 ?_ rfl (Or.inl ⟨by rfl, ?_⟩) hS ?_; rotate_left; focus (intro w' hSw; go_simp <;> try with_reducible rfl))
  try simp only [Act.put, zA, zB, zC]
  (refine tk 4 ?_ rfl (Or.inl ⟨by rfl, ?_⟩) hS ?_; rotate_left; focus (intro w' hSw; go_simp <;> try with_reducible rfl))
  try simp only [Act.put, zA, zB, zC]
  refine rdy 0 rfl (fun K hK => ?_)
  refine take_if (by rfl) ?_
  go_simp
  (with_reducible refine (rows_w g0).mono ?_)
  rintro e' g1 ⟨b0, b1, b2, b3, b4, b5, b6, b7, b8, b9, b10, b11, b12, b13, b14, b15, b16, b17, rfl, qk, rc⟩
  refine hK.out _ _ (hS.trans qk) (fun hS => ?_)
  clear qk
  clear hK K
  try simp only [Act.put, zA, zB, zC]
  have hI1 : ∀ w, (Instr.index 47 (.agg (rowsA b0 b1 b2 b3 b4 b5 b6 b7 b8 b9 b10 b11 b12 b13 b14 b15 b16 b17)) (.int .u32 1)).run Tryz.prog w = .ok (.agg #[.func (.func 60) #[] #[], .func (.func 61) #[] #[], .func (.func 62) #[] #[], .func (.func 63) #[] #[], .func (.func 64) #[] #[], .func (.func 65) #[] #[], .func (.func 111) #[] #[.pointer (some ⟨b8, 0, none⟩)], .func (.func 111) #[] #[.pointer (some ⟨b9, 0, none⟩)]]) w := fun _ => by kernel_rfl
  have hI2 : ∀ w, (Instr.index 46 (.agg #[.func (.func 60) #[] #[], .func (.func 61) #[] #[], .func (.func 62) #[] #[], .func (.func 63) #[] #[], .func (.func 64) #[] #[], .func (.func 65) #[] #[], .func (.func 111) #[] #[.pointer (some ⟨b8, 0, none⟩)], .func (.func 111) #[] #[.pointer (some ⟨b9, 0, none⟩)]]) (.int .u32 1)).run Tryz.prog w = .ok (.func (.func 61) #[] #[]) w := fun _ => by kernel_rfl
  have hE : ∀ w, (binOp .eql 45 (.func (.func 61) #[] #[]) .nilFunc).run Tryz.prog w = .ok (.bool false) w := fun _ => by kernel_rfl
  have TG := Lib.hid (TB.out.kp hS)
  clear rc
  refine rdy 2 rfl (fun K hK => ?_)
  refine take_if (by rfl) ?_
  go_simp
  have c := vlow_w x hx g1
  rw [HL.out] at c
  (try simp only [Int.cast_ofNat_Int, Int.natCast_zero, Int.natCast_one] at c)
  (with_reducible refine c.mono ?_)
  rintro e' w' ⟨rfl, rfl⟩
  refine hK.out _ _ hS (fun hS => ?_)
  clear c
  clear hK K
  try simp only [Act.put, zA, zB, zC]
  (refine tk 3 ?_ rfl (Or.inl ⟨by rfl, ?_⟩) hS ?_; rotate_left; focus (intro w' hSw; go_simp <;> try with_reducible rfl))
  try simp only [Act.put, zA, zB, zC]
  refine rdy 5 rfl (fun K hK => ?_)
  refine take_if (by rfl) ?_
  go_simp
  have c := vhigh_w x hx g1
  rw [HH.out] at c
  (try simp only [Int.cast_ofNat_Int, Int.natCast_zero, Int.natCast_one] at c)
  (with_reducible refine c.mono ?_)
  rintro e' w' ⟨rfl, rfl⟩
  refine hK.out _ _ hS (fun hS => ?_)
  clear c
  clear hK K
  try simp only [Act.put, zA, zB, zC]
  (refine tk 6 ?_ rfl (Or.inl ⟨by rfl, ?_⟩) hS ?_; rotate_left; focus (intro w' hSw; go_simp <;> try with_reducible rfl))
  try simp only [Act.put, zA, zB, zC]
  (refine tk 7 ?_ rfl (Or.inl ⟨by rfl, ?_⟩) hS ?_; rotate_left; focus (intro w' hSw; go_simp <;> try with_reducible rfl))
  try simp only [Act.put, zA, zB, zC]
  refine wpAnyH_done (by kernel_rfl) ?_ _
  have HS := Lib.hid hS
  clear hS
  cases v
  · go_wp2_with (go_at_call 61; have c := r_addWord x hx g1 TG.out; rw [HV.out] at c; dsimp only [VR] at c; with_reducible refine c.mono ?_; rintro e' w1 ⟨rfl, rfl⟩)
    go_ret2
    exact ⟨rfl, HS.out⟩
  · go_wp2_with (go_at_call 61; have c := r_addWord x hx g1 TG.out; rw [HV.out] at c; dsimp only [VR] at c; with_reducible refine c.mono ?_; rintro e' w1 ⟨rfl, rfl⟩)
    go_ret2
    exact ⟨rfl, HS.out⟩
set_option maxHeartbeats 4000000 in
set_option maxRecDepth 4000 in
theorem exp_1_2 (x : Nat) (hx : x < 65536) (w : World) (tb : Tb w) (hl : x % 4 = 1) (hh : x / 8192 = 2) :
    Calls Tryz.prog 17 #[.int .u16 (x : Int)] w fun e w' => e = .returned (VR (ex x)) ∧ Kp w w' := by
  have e : ex x = rSet x := by simp [ex, hl, hh, row]
  rw [e]
  have TB := Lib.hid tb
  have HL := Lib.hid hl
  have HH := Lib.hid hh
  clear e tb hl hh
  generalize hv : rSet x = v
  have HV := Lib.hid hv
  clear hv
  go_enter Tryz.func17, Tryz.ntmps17
  go_wp2
  refine wp_region_held_drew (S := fun w' => Kp w w') (by kernel_rfl) (Kp.refl w).drew (fun hS => ?_)
  generalize hgw : w.drew = g0 at hS ⊢
  clear hgw
  try simp only [Act.put, zA, zB, zC]
  (refine tk 1 ?_ rfl (Or.inl ⟨by rfl, ?_⟩) hS ?_; rotate_left; focus (intro w' hSw; go_simp <;> try with_reducible rfl))
  try simp only [Act.put, zA, zB, zC]
  (refine tk 4 ?_ rfl (Or.inl ⟨by rfl, ?_⟩) hS ?_; rotate_left; focus (intro w' hSw; go_simp <;> try with_reducible rfl))
  try simp only [Act.put, zA, zB, zC]
  refine rdy 0 rfl (fun K hK => ?_)
  refine take_if (by rfl) ?_
  go_simp
  (with_reducible refine (rows_w g0).mono ?_)
  rintro e' g1 ⟨b0, b1, b2, b3, b4, b5, b6, b7, b8, b9, b10, b11, b12, b13, b14, b15, b16, b17, rfl, qk, rc⟩
  refine hK.out _ _ (hS.trans qk) (fun hS => ?_)
  clear qk
  clear hK K
  try simp only [Act.put, zA, zB, zC]
  have hI1 : ∀ w, (Instr.index 47 (.agg (rowsA b0 b1 b2 b3 b4 b5 b6 b7 b8 b9 b10 b11 b12 b13 b14 b15 b16 b17)) (.int .u32 1)).run Tryz.prog w = .ok (.agg #[.func (.func 60) #[] #[], .func (.func 61) #[] #[], .func (.func 62) #[] #[], .func (.func 63) #[] #[], .func (.func 64) #[] #[], .func (.func 65) #[] #[], .func (.func 111) #[] #[.pointer (some ⟨b8, 0, none⟩)], .func (.func 111) #[] #[.pointer (some ⟨b9, 0, none⟩)]]) w := fun _ => by kernel_rfl
  have hI2 : ∀ w, (Instr.index 46 (.agg #[.func (.func 60) #[] #[], .func (.func 61) #[] #[], .func (.func 62) #[] #[], .func (.func 63) #[] #[], .func (.func 64) #[] #[], .func (.func 65) #[] #[], .func (.func 111) #[] #[.pointer (some ⟨b8, 0, none⟩)], .func (.func 111) #[] #[.pointer (some ⟨b9, 0, none⟩)]]) (.int .u32 2)).run Tryz.prog w = .ok (.func (.func 62) #[] #[]) w := fun _ => by kernel_rfl
  have hE : ∀ w, (binOp .eql 45 (.func (.func 62) #[] #[]) .nilFunc).run Tryz.prog w = .ok (.bool false) w := fun _ => by kernel_rfl
  have TG := Lib.hid (TB.out.kp hS)
  clear rc
  refine rdy 2 rfl (fun K hK => ?_)
  refine take_if (by rfl) ?_
  go_simp
  have c := vlow_w x hx g1
  rw [HL.out] at c
  (try simp only [Int.cast_ofNat_Int, Int.natCast_zero, Int.natCast_one] at c)
  (with_reducible refine c.mono ?_)
  rintro e' w' ⟨rfl, rfl⟩
  refine hK.out _ _ hS (fun hS => ?_)
  clear c
  clear hK K
  try simp only [Act.put, zA, zB, zC]
  (refine tk 3 ?_ rfl (Or.inl ⟨by rfl, ?_⟩) hS ?_; rotate_left; focus (intro w' hSw; go_simp <;> try with_reducible rfl))
  try simp only [Act.put, zA, zB, zC]
  refine rdy 5 rfl (fun K hK => ?_)
  refine take_if (by rfl) ?_
  go_simp
  have c := vhigh_w x hx g1
  rw [HH.out] at c
  (try simp only [Int.cast_ofNat_Int, Int.natCast_zero, Int.natCast_one] at c)
  (with_reducible refine c.mono ?_)
  rintro e' w' ⟨rfl, rfl⟩
  refine hK.out _ _ hS (fun hS => ?_)
  clear c
  clear hK K
  try simp only [Act.put, zA, zB, zC]
  (refine tk 6 ?_ rfl (Or.inl ⟨by rfl, ?_⟩) hS ?_; rotate_left; focus (intro w' hSw; go_simp <;> try with_reducible rfl))
  try simp only [Act.put, zA, zB, zC]
  (refine tk 7 ?_ rfl (Or.inl ⟨by rfl, ?_⟩) hS ?_; rotate_left; focus (intro w' hSw; go_simp <;> try with_reducible rfl))
  try simp only [Act.put, zA, zB, zC]
  refine wpAnyH_done (by kernel_rfl) ?_ _
  have HS := Lib.hid hS
  clear hS
  cases v
  · go_wp2_with (go_at_call 62; have c := r_set x hx g1 TG.out; rw [HV.out] at c; dsimp only [VR] at c; with_reducible refine c.mono ?_; rintro e' w1 ⟨rfl, rfl⟩)
    go_ret2
    exact ⟨rfl, HS.out⟩
  · go_wp2_with (go_at_call 62; have c := r_set x hx g1 TG.out; rw [HV.out] at c; dsimp only [VR] at c; with_reducible refine c.mono ?_; rintro e' w1 ⟨rfl, rfl⟩)
    go_ret2
    exact ⟨rfl, HS.out⟩
set_option maxHeartbeats 4000000 in
set_option maxRecDepth 4000 in
theorem exp_1_3 (x : Nat) (hx : x < 65536) (w : World) (tb : Tb w) (hl : x % 4 = 1) (hh : x / 8192 = 3) :
    Calls Tryz.prog 17 #[.int .u16 (x : Int)] w fun e w' => e = .returned (VR (ex x)) ∧ Kp w w' := by
  have e : ex x = rUpper x := by simp [ex, hl, hh, row]
  rw [e]
  have TB := Lib.hid tb
  have HL := Lib.hid hl
  have HH := Lib.hid hh
  clear e tb hl hh
  generalize hv : rUpper x = v
  have HV := Lib.hid hv
  clear hv
  go_enter Tryz.func17, Tryz.ntmps17
  go_wp2
  refine wp_region_held_drew (S := fun w' => Kp w w') (by kernel_rfl) (Kp.refl w).drew (fun hS => ?_)
  generalize hgw : w.drew = g0 at hS ⊢
  clear hgw
  try simp only [Act.put, zA, zB, zC]
  (refine tk 1 ?_ rfl (Or.inl ⟨by rfl, ?_⟩) hS ?_; rotate_left; focus (intro w' hSw; go_simp <;> try with_reducible rfl))
  try simp only [Act.put, zA, zB, zC]
  (refine tk 4 ?_ rfl (Or.inl ⟨by rfl, ?_⟩) hS ?_; rotate_left; focus (intro w' hSw; go_simp <;> try with_reducible rfl))
  try simp only [Act.put, zA, zB, zC]
  refine rdy 0 rfl (fun K hK => ?_)
  refine take_if (by rfl) ?_
  go_simp
  (with_reducible refine (rows_w g0).mono ?_)
  rintro e' g1 ⟨b0, b1, b2, b3, b4, b5, b6, b7, b8, b9, b10, b11, b12, b13, b14, b15, b16, b17, rfl, qk, rc⟩
  refine hK.out _ _ (hS.trans qk) (fun hS => ?_)
  clear qk
  clear hK K
  try simp only [Act.put, zA, zB, zC]
  have hI1 : ∀ w, (Instr.index 47 (.agg (rowsA b0 b1 b2 b3 b4 b5 b6 b7 b8 b9 b10 b11 b12 b13 b14 b15 b16 b17)) (.int .u32 1)).run Tryz.prog w = .ok (.agg #[.func (.func 60) #[] #[], .func (.func 61) #[] #[], .func (.func 62) #[] #[], .func (.func 63) #[] #[], .func (.func 64) #[] #[], .func (.func 65) #[] #[], .func (.func 111) #[] #[.pointer (some ⟨b8, 0, none⟩)], .func (.func 111) #[] #[.pointer (some ⟨b9, 0, none⟩)]]) w := fun _ => by kernel_rfl
  have hI2 : ∀ w, (Instr.index 46 (.agg #[.func (.func 60) #[] #[], .func (.func 61) #[] #[], .func (.func 62) #[] #[], .func (.func 63) #[] #[], .func (.func 64) #[] #[], .func (.func 65) #[] #[], .func (.func 111) #[] #[.pointer (some ⟨b8, 0, none⟩)], .func (.func 111) #[] #[.pointer (some ⟨b9, 0, none⟩)]]) (.int .u32 3)).run Tryz.prog w = .ok (.func (.func 63) #[] #[]) w := fun _ => by kernel_rfl
  have hE : ∀ w, (binOp .eql 45 (.func (.func 63) #[] #[]) .nilFunc).run Tryz.prog w = .ok (.bool false) w := fun _ => by kernel_rfl
  have TG := Lib.hid (TB.out.kp hS)
  clear rc
  refine rdy 2 rfl (fun K hK => ?_)
  refine take_if (by rfl) ?_
  go_simp
  have c := vlow_w x hx g1
  rw [HL.out] at c
  (try simp only [Int.cast_ofNat_Int, Int.natCast_zero, Int.natCast_one] at c)
  (with_reducible refine c.mono ?_)
  rintro e' w' ⟨rfl, rfl⟩
  refine hK.out _ _ hS (fun hS => ?_)
  clear c
  clear hK K
  try simp only [Act.put, zA, zB, zC]
  (refine tk 3 ?_ rfl (Or.inl ⟨by rfl, ?_⟩) hS ?_; rotate_left; focus (intro w' hSw; go_simp <;> try with_reducible rfl))
  try simp only [Act.put, zA, zB, zC]
  refine rdy 5 rfl (fun K hK => ?_)
  refine take_if (by rfl) ?_
  go_simp
  have c := vhigh_w x hx g1
  rw [HH.out] at c
  (try simp only [Int.cast_ofNat_Int, Int.natCast_zero, Int.natCast_one] at c)
  (with_reducible refine c.mono ?_)
  rintro e' w' ⟨rfl, rfl⟩
  refine hK.out _ _ hS (fun hS => ?_)
  clear c
  clear hK K
  try simp only [Act.put, zA, zB, zC]
  (refine tk 6 ?_ rfl (Or.inl ⟨by rfl, ?_⟩) hS ?_; rotate_left; focus (intro w' hSw; go_simp <;> try with_reducible rfl))
  try simp only [Act.put, zA, zB, zC]
  (refine tk 7 ?_ rfl (Or.inl ⟨by rfl, ?_⟩) hS ?_; rotate_left; focus (intro w' hSw; go_simp <;> try with_reducible rfl))
  try simp only [Act.put, zA, zB, zC]
  refine wpAnyH_done (by kernel_rfl) ?_ _
  have HS := Lib.hid hS
  clear hS
  cases v
  · go_wp2_with (go_at_call 63; have c := r_upper x hx g1 TG.out; rw [HV.out] at c; dsimp only [VR] at c; with_reducible refine c.mono ?_; rintro e' w1 ⟨rfl, rfl⟩)
    go_ret2
    exact ⟨rfl, HS.out⟩
  · go_wp2_with (go_at_call 63; have c := r_upper x hx g1 TG.out; rw [HV.out] at c; dsimp only [VR] at c; with_reducible refine c.mono ?_; rintro e' w1 ⟨rfl, rfl⟩)
    go_ret2
    exact ⟨rfl, HS.out⟩
set_option maxHeartbeats 4000000 in
set_option maxRecDepth 4000 in
theorem exp_1_4 (x : Nat) (hx : x < 65536) (w : World) (tb : Tb w) (hl : x % 4 = 1) (hh : x / 8192 = 4) :
    Calls Tryz.prog 17 #[.int .u16 (x : Int)] w fun e w' => e = .returned (VR (ex x)) ∧ Kp w w' := by
  have e : ex x = rNear x := by simp [ex, hl, hh, row]
  rw [e]
  have TB := Lib.hid tb
  have HL := Lib.hid hl
  have HH := Lib.hid hh
  clear e tb hl hh
  generalize hv : rNear x = v
  have HV := Lib.hid hv
  clear hv
  go_enter Tryz.func17, Tryz.ntmps17
  go_wp2
  refine wp_region_held_drew (S := fun w' => Kp w w') (by kernel_rfl) (Kp.refl w).drew (fun hS => ?_)
  generalize hgw : w.drew = g0 at hS ⊢
  clear hgw
  try simp only [Act.put, zA, zB, zC]
  (refine tk 1 ?_ rfl (Or.inl ⟨by rfl, ?_⟩) hS ?_; rotate_left; focus (intro w' hSw; go_simp <;> try with_reducible rfl))
  try simp only [Act.put, zA, zB, zC]
  (refine tk 4 ?_ rfl (Or.inl ⟨by rfl, ?_⟩) hS ?_; rotate_left; focus (intro w' hSw; go_simp <;> try with_reducible rfl))
  try simp only [Act.put, zA, zB, zC]
  refine rdy 0 rfl (fun K hK => ?_)
  refine take_if (by rfl) ?_
  go_simp
  (with_reducible refine (rows_w g0).mono ?_)
  rintro e' g1 ⟨b0, b1, b2, b3, b4, b5, b6, b7, b8, b9, b10, b11, b12, b13, b14, b15, b16, b17, rfl, qk, rc⟩
  refine hK.out _ _ (hS.trans qk) (fun hS => ?_)
  clear qk
  clear hK K
  try simp only [Act.put, zA, zB, zC]
  have hI1 : ∀ w, (Instr.index 47 (.agg (rowsA b0 b1 b2 b3 b4 b5 b6 b7 b8 b9 b10 b11 b12 b13 b14 b15 b16 b17)) (.int .u32 1)).run Tryz.prog w = .ok (.agg #[.func (.func 60) #[] #[], .func (.func 61) #[] #[], .func (.func 62) #[] #[], .func (.func 63) #[] #[], .func (.func 64) #[] #[], .func (.func 65) #[] #[], .func (.func 111) #[] #[.pointer (some ⟨b8, 0, none⟩)], .func (.func 111) #[] #[.pointer (some ⟨b9, 0, none⟩)]]) w := fun _ => by kernel_rfl
  have hI2 : ∀ w, (Instr.index 46 (.agg #[.func (.func 60) #[] #[], .func (.func 61) #[] #[], .func (.func 62) #[] #[], .func (.func 63) #[] #[], .func (.func 64) #[] #[], .func (.func 65) #[] #[], .func (.func 111) #[] #[.pointer (some ⟨b8, 0, none⟩)], .func (.func 111) #[] #[.pointer (some ⟨b9, 0, none⟩)]]) (.int .u32 4)).run Tryz.prog w = .ok (.func (.func 64) #[] #[]) w := fun _ => by kernel_rfl
  have hE : ∀ w, (binOp .eql 45 (.func (.func 64) #[] #[]) .nilFunc).run Tryz.prog w = .ok (.bool false) w := fun _ => by kernel_rfl
  have TG := Lib.hid (TB.out.kp hS)
  clear rc
  refine rdy 2 rfl (fun K hK => ?_)
  refine take_if (by rfl) ?_
  go_simp
  have c := vlow_w x hx g1
  rw [HL.out] at c
  (try simp only [Int.cast_ofNat_Int, Int.natCast_zero, Int.natCast_one] at c)
  (with_reducible refine c.mono ?_)
  rintro e' w' ⟨rfl, rfl⟩
  refine hK.out _ _ hS (fun hS => ?_)
  clear c
  clear hK K
  try simp only [Act.put, zA, zB, zC]
  (refine tk 3 ?_ rfl (Or.inl ⟨by rfl, ?_⟩) hS ?_; rotate_left; focus (intro w' hSw; go_simp <;> try with_reducible rfl))
  try simp only [Act.put, zA, zB, zC]
  refine rdy 5 rfl (fun K hK => ?_)
  refine take_if (by rfl) ?_
  go_simp
  have c := vhigh_w x hx g1
  rw [HH.out] at c
  (try simp only [Int.cast_ofNat_Int, Int.natCast_zero, Int.natCast_one] at c)
  (with_reducible refine c.mono ?_)
  rintro e' w' ⟨rfl, rfl⟩
  refine hK.out _ _ hS (fun hS => ?_)
  clear c
  clear hK K
  try simp only [Act.put, zA, zB, zC]
  (refine tk 6 ?_ rfl (Or.inl ⟨by rfl, ?_⟩) hS ?_; rotate_left; focus (intro w' hSw; go_simp <;> try with_reducible rfl))
  try simp only [Act.put, zA, zB, zC]
  (refine tk 7 ?_ rfl (Or.inl ⟨by rfl, ?_⟩) hS ?_; rotate_left; focus (intro w' hSw; go_simp <;> try with_reducible rfl))
  try simp only [Act.put, zA, zB, zC]
  refine wpAnyH_done (by kernel_rfl) ?_ _
  have HS := Lib.hid hS
  clear hS
  cases v
  · go_wp2_with (go_at_call 64; have c := r_near x hx g1 TG.out; rw [HV.out] at c; dsimp only [VR] at c; with_reducible refine c.mono ?_; rintro e' w1 ⟨rfl, rfl⟩)
    go_ret2
    exact ⟨rfl, HS.out⟩
  · go_wp2_with (go_at_call 64; have c := r_near x hx g1 TG.out; rw [HV.out] at c; dsimp only [VR] at c; with_reducible refine c.mono ?_; rintro e' w1 ⟨rfl, rfl⟩)
    go_ret2
    exact ⟨rfl, HS.out⟩
set_option maxHeartbeats 4000000 in
set_option maxRecDepth 4000 in
theorem exp_1_5 (x : Nat) (hx : x < 65536) (w : World) (tb : Tb w) (hl : x % 4 = 1) (hh : x / 8192 = 5) :
    Calls Tryz.prog 17 #[.int .u16 (x : Int)] w fun e w' => e = .returned (VR (ex x)) ∧ Kp w w' := by
  have e : ex x = rJump x := by simp [ex, hl, hh, row]
  rw [e]
  have TB := Lib.hid tb
  have HL := Lib.hid hl
  have HH := Lib.hid hh
  clear e tb hl hh
  generalize hv : rJump x = v
  have HV := Lib.hid hv
  clear hv
  go_enter Tryz.func17, Tryz.ntmps17
  go_wp2
  refine wp_region_held_drew (S := fun w' => Kp w w') (by kernel_rfl) (Kp.refl w).drew (fun hS => ?_)
  generalize hgw : w.drew = g0 at hS ⊢
  clear hgw
  try simp only [Act.put, zA, zB, zC]
  (refine tk 1 ?_ rfl (Or.inl ⟨by rfl, ?_⟩) hS ?_; rotate_left; focus (intro w' hSw; go_simp <;> try with_reducible rfl))
  try simp only [Act.put, zA, zB, zC]
  (refine tk 4 ?_ rfl (Or.inl ⟨by rfl, ?_⟩) hS ?_; rotate_left; focus (intro w' hSw; go_simp <;> try with_reducible rfl))
  try simp only [Act.put, zA, zB, zC]
  refine rdy 0 rfl (fun K hK => ?_)
  refine take_if (by rfl) ?_
  go_simp
  (with_reducible refine (rows_w g0).mono ?_)
  rintro e' g1 ⟨b0, b1, b2, b3, b4, b5, b6, b7, b8, b9, b10, b11, b12, b13, b14, b15, b16, b17, rfl, qk, rc⟩
  refine hK.out _ _ (hS.trans qk) (fun hS => ?_)
  clear qk
  clear hK K
  try simp only [Act.put, zA, zB, zC]
  have hI1 : ∀ w, (Instr.index 47 (.agg (rowsA b0 b1 b2 b3 b4 b5 b6 b7 b8 b9 b10 b11 b12 b13 b14 b15 b16 b17)) (.int .u32 1)).run Tryz.prog w = .ok (.agg #[.func (.func 60) #[] #[], .func (.func 61) #[] #[], .func (.func 62) #[] #[], .func (.func 63) #[] #[], .func (.func 64) #[] #[], .func (.func 65) #[] #[], .func (.func 111) #[] #[.pointer (some ⟨b8, 0, none⟩)], .func (.func 111) #[] #[.pointer (some ⟨b9, 0, none⟩)]]) w := fun _ => by kernel_rfl
  have hI2 : ∀ w, (Instr.index 46 (.agg #[.func (.func 60) #[] #[], .func (.func 61) #[] #[], .func (.func 62) #[] #[], .func (.func 63) #[] #[], .func (.func 64) #[] #[], .func (.func 65) #[] #[], .func (.func 111) #[] #[.pointer (some ⟨b8, 0, none⟩)], .func (.func 111) #[] #[.pointer (some ⟨b9, 0, none⟩)]]) (.int .u32 5)).run Tryz.prog w = .ok (.func (.func 65) #[] #[]) w := fun _ => by kernel_rfl
  have hE : ∀ w, (binOp .eql 45 (.func (.func 65) #[] #[]) .nilFunc).run Tryz.prog w = .ok (.bool false) w := fun _ => by kernel_rfl
  have TG := Lib.hid (TB.out.kp hS)
  clear rc
  refine rdy 2 rfl (fun K hK => ?_)
  refine take_if (by rfl) ?_
  go_simp
  have c := vlow_w x hx g1
  rw [HL.out] at c
  (try simp only [Int.cast_ofNat_Int, Int.natCast_zero, Int.natCast_one] at c)
  (with_reducible refine c.mono ?_)
  rintro e' w' ⟨rfl, rfl⟩
  refine hK.out _ _ hS (fun hS => ?_)
  clear c
  clear hK K
  try simp only [Act.put, zA, zB, zC]
  (refine tk 3 ?_ rfl (Or.inl ⟨by rfl, ?_⟩) hS ?_; rotate_left; focus (intro w' hSw; go_simp <;> try with_reducible rfl))
  try simp only [Act.put, zA, zB, zC]
  refine rdy 5 rfl (fun K hK => ?_)
  refine take_if (by rfl) ?_
  go_simp
  have c := vhigh_w x hx g1
  rw [HH.out] at c
  (try simp only [Int.cast_ofNat_Int, Int.natCast_zero, Int.natCast_one] at c)
  (with_reducible refine c.mono ?_)
  rintro e' w' ⟨rfl, rfl⟩
  refine hK.out _ _ hS (fun hS => ?_)
  clear c
  clear hK K
  try simp only [Act.put, zA, zB, zC]
  (refine tk 6 ?_ rfl (Or.inl ⟨by rfl, ?_⟩) hS ?_; rotate_left; focus (intro w' hSw; go_simp <;> try with_reducible rfl))
  try simp only [Act.put, zA, zB, zC]
  (refine tk 7 ?_ rfl (Or.inl ⟨by rfl, ?_⟩) hS ?_; rotate_left; focus (intro w' hSw; go_simp <;> try with_reducible rfl))
  try simp only [Act.put, zA, zB, zC]
  refine wpAnyH_done (by kernel_rfl) ?_ _
  have HS := Lib.hid hS
  clear hS
  cases v
  · go_wp2_with (go_at_call 65; have c := r_jump x hx g1 TG.out; rw [HV.out] at c; dsimp only [VR] at c; with_reducible refine c.mono ?_; rintro e' w1 ⟨rfl, rfl⟩)
    go_ret2
    exact ⟨rfl, HS.out⟩
  · go_wp2_with (go_at_call 65; have c := r_jump x hx g1 TG.out; rw [HV.out] at c; dsimp only [VR] at c; with_reducible refine c.mono ?_; rintro e' w1 ⟨rfl, rfl⟩)
    go_ret2
    exact ⟨rfl, HS.out⟩
set_option maxHeartbeats 4000000 in
set_option maxRecDepth 4000 in
theorem exp_1_6 (x : Nat) (hx : x < 65536) (w : World) (tb : Tb w) (hl : x % 4 = 1) (hh : x / 8192 = 6) :
    Calls Tryz.prog 17 #[.int .u16 (x : Int)] w fun e w' => e = .returned (VR (ex x)) ∧ Kp w w' := by
  have e : ex x = (rBranch 0) x := by simp [ex, hl, hh, row]
  rw [e]
  have TB := Lib.hid tb
  have HL := Lib.hid hl
  have HH := Lib.hid hh
  clear e tb hl hh
  generalize hv : (rBranch 0) x = v
  have HV := Lib.hid hv
  clear hv
  go_enter Tryz.func17, Tryz.ntmps17
  go_wp2
  refine wp_region_held_drew (S := fun w' => Kp w w') (by kernel_rfl) (Kp.refl w).drew (fun hS => ?_)
  generalize hgw : w.drew = g0 at hS ⊢
  clear hgw
  try simp only [Act.put, zA, zB, zC]
  (refine tk 1 ?_ rfl (Or.inl ⟨by rfl, ?_⟩) hS ?_; rotate_left; focus (intro w' hSw; go_simp <;> try with_reducible rfl))
  try simp only [Act.put, zA, zB, zC]
  (refine tk 4 ?_ rfl (Or.inl ⟨by rfl, ?_⟩) hS ?_; rotate_left; focus (intro w' hSw; go_simp <;> try with_reducible rfl))
  try simp only [Act.put, zA, zB, zC]
  refine rdy 0 rfl (fun K hK => ?_)
  refine take_if (by rfl) ?_
  go_simp
  (with_reducible refine (rows_w g0).mono ?_)
  rintro e' g1 ⟨b0, b1, b2, b3, b4, b5, b6, b7, b8, b9, b10, b11, b12, b13, b14, b15, b16, b17, rfl, qk, rc⟩
  refine hK.out _ _ (hS.trans qk) (fun hS => ?_)
  clear qk
  clear hK K
  try simp only [Act.put, zA, zB, zC]
  have hI1 : ∀ w, (Instr.index 47 (.agg (rowsA b0 b1 b2 b3 b4 b5 b6 b7 b8 b9 b10 b11 b12 b13 b14 b15 b16 b17)) (.int .u32 1)).run Tryz.prog w = .ok (.agg #[.func (.func 60) #[] #[], .func (.func 61) #[] #[], .func (.func 62) #[] #[], .func (.func 63) #[] #[], .func (.func 64) #[] #[], .func (.func 65) #[] #[], .func (.func 111) #[] #[.pointer (some ⟨b8, 0, none⟩)], .func (.func 111) #[] #[.pointer (some ⟨b9, 0, none⟩)]]) w := fun _ => by kernel_rfl
  have hI2 : ∀ w, (Instr.index 46 (.agg #[.func (.func 60) #[] #[], .func (.func 61) #[] #[], .func (.func 62) #[] #[], .func (.func 63) #[] #[], .func (.func 64) #[] #[], .func (.func 65) #[] #[], .func (.func 111) #[] #[.pointer (some ⟨b8, 0, none⟩)], .func (.func 111) #[] #[.pointer (some ⟨b9, 0, none⟩)]]) (.int .u32 6)).run Tryz.prog w = .ok (.func (.func 111) #[] #[.pointer (some ⟨b8, 0, none⟩)]) w := fun _ => by kernel_rfl
  have hE : ∀ w, (binOp .eql 45 (.func (.func 111) #[] #[.pointer (some ⟨b8, 0, none⟩)]) .nilFunc).run Tryz.prog w = .ok (.bool false) w := fun _ => by kernel_rfl
  have db8 := rc.c8
  have TG := Lib.hid (TB.out.kp hS)
  clear rc
  refine rdy 2 rfl (fun K hK => ?_)
  refine take_if (by rfl) ?_
  go_simp
  have c := vlow_w x hx g1
  rw [HL.out] at c
  (try simp only [Int.cast_ofNat_Int, Int.natCast_zero, Int.natCast_one] at c)
  (with_reducible refine c.mono ?_)
  rintro e' w' ⟨rfl, rfl⟩
  refine hK.out _ _ hS (fun hS => ?_)
  clear c
  clear hK K
  try simp only [Act.put, zA, zB, zC]
  (refine tk 3 ?_ rfl (Or.inl ⟨by rfl, ?_⟩) hS ?_; rotate_left; focus (intro w' hSw; go_simp <;> try with_reducible rfl))
  try simp only [Act.put, zA, zB, zC]
  refine rdy 5 rfl (fun K hK => ?_)
  refine take_if (by rfl) ?_
  go_simp
  have c := vhigh_w x hx g1
  rw [HH.out] at c
  (try simp only [Int.cast_ofNat_Int, Int.natCast_zero, Int.natCast_one] at c)
  (with_reducible refine c.mono ?_)
  rintro e' w' ⟨rfl, rfl⟩
  refine hK.out _ _ hS (fun hS => ?_)
  clear c
  clear hK K
  try simp only [Act.put, zA, zB, zC]
  (refine tk 6 ?_ rfl (Or.inl ⟨by rfl, ?_⟩) hS ?_; rotate_left; focus (intro w' hSw; go_simp <;> try with_reducible rfl))
  try simp only [Act.put, zA, zB, zC]
  (refine tk 7 ?_ rfl (Or.inl ⟨by rfl, ?_⟩) hS ?_; rotate_left; focus (intro w' hSw; go_simp <;> try with_reducible rfl))
  try simp only [Act.put, zA, zB, zC]
  refine wpAnyH_done (by kernel_rfl) ?_ _
  have HS := Lib.hid hS
  clear hS
  cases v
  · go_wp2_with (go_at_call 111; have c := r_branch x hx b8 0 (by decide) g1 TG.out db8; rw [HV.out] at c; dsimp only [VR] at c; with_reducible refine c.mono ?_; rintro e' w1 ⟨rfl, q1⟩)
    go_ret2
    exact ⟨rfl, HS.out.trans q1.kp⟩
  · go_wp2_with (go_at_call 111; have c := r_branch x hx b8 0 (by decide) g1 TG.out db8; rw [HV.out] at c; dsimp only [VR] at c; with_reducible refine c.mono ?_; rintro e' w1 ⟨rfl, q1⟩)
    go_ret2
    exact ⟨rfl, HS.out.trans q1.kp⟩
set_option maxHeartbeats 4000000 in
set_option maxRecDepth 4000 in
theorem exp_1_7 (x : Nat) (hx : x < 65536) (w : World) (tb : Tb w) (hl : x % 4 = 1) (hh : x / 8192 = 7) :
    Calls Tryz.prog 17 #[.int .u16 (x : Int)] w fun e w' => e = .returned (VR (ex x)) ∧ Kp w w' := by
  have e : ex x = (rBranch 1) x := by simp [ex, hl, hh, row]
  rw [e]
  have TB := Lib.hid tb
  have HL := Lib.hid hl
  have HH := Lib.hid hh
  clear e tb hl hh
  generalize hv : (rBranch 1) x = v
  have HV := Lib.hid hv
  clear hv
  go_enter Tryz.func17, Tryz.ntmps17
  go_wp2
  refine wp_region_held_drew (S := fun w' => Kp w w') (by kernel_rfl) (Kp.refl w).drew (fun hS => ?_)
  generalize hgw : w.drew = g0 at hS ⊢
  clear hgw
  try simp only [Act.put, zA, zB, zC]
  (refine tk 1 ?_ rfl (Or.inl ⟨by rfl, ?_⟩) hS ?_; rotate_left; focus (intro w' hSw; go_simp <;> try with_reducible rfl))
  try simp only [Act.put, zA, zB, zC]
  (refine tk 4 ?_ rfl (Or.inl ⟨by rfl, ?_⟩) hS ?_; rotate_left; focus (intro w' hSw; go_simp <;> try with_reducible rfl))
  try simp only [Act.put, zA, zB, zC]
  refine rdy 0 rfl (fun K hK => ?_)
  refine take_if (by rfl) ?_
  go_simp
  (with_reducible refine (rows_w g0).mono ?_)
  rintro e' g1 ⟨b0, b1, b2, b3, b4, b5, b6, b7, b8, b9, b10, b11, b12, b13, b14, b15, b16, b17, rfl, qk, rc⟩
  refine hK.out _ _ (hS.trans qk) (fun hS => ?_)
  clear qk
  clear hK K
  try simp only [Act.put, zA, zB, zC]
  have hI1 : ∀ w, (Instr.index 47 (.agg (rowsA b0 b1 b2 b3 b4 b5 b6 b7 b8 b9 b10 b11 b12 b13 b14 b15 b16 b17)) (.int .u32 1)).run Tryz.prog w = .ok (.agg #[.func (.func 60) #[] #[], .func (.func 61) #[] #[], .func (.func 62) #[] #[], .func (.func 63) #[] #[], .func (.func 64) #[] #[], .func (.func 65) #[] #[], .func (.func 111) #[] #[.pointer (some ⟨b8, 0, none⟩)], .func (.func 111) #[] #[.pointer (some ⟨b9, 0, none⟩)]]) w := fun _ => by kernel_rfl
  have hI2 : ∀ w, (Instr.index 46 (.agg #[.func (.func 60) #[] #[], .func (.func 61) #[] #[], .func (.func 62) #[] #[], .func (.func 63) #[] #[], .func (.func 64) #[] #[], .func (.func 65) #[] #[], .func (.func 111) #[] #[.pointer (some ⟨b8, 0, none⟩)], .func (.func 111) #[] #[.pointer (some ⟨b9, 0, none⟩)]]) (.int .u32 7)).run Tryz.prog w = .ok (.func (.func 111) #[] #[.pointer (some ⟨b9, 0, none⟩)]) w := fun _ => by kernel_rfl
  have hE : ∀ w, (binOp .eql 45 (.func (.func 111) #[] #[.pointer (some ⟨b9, 0, none⟩)]) .nilFunc).run Tryz.prog w = .ok (.bool false) w := fun _ => by kernel_rfl
  have db9 := rc.c9
  have TG := Lib.hid (TB.out.kp hS)
  clear rc
  refine rdy 2 rfl (fun K hK => ?_)
  refine take_if (by rfl) ?_
  go_simp
  have c := vlow_w x hx g1
  rw [HL.out] at c
  (try simp only [Int.cast_ofNat_Int, Int.natCast_zero, Int.natCast_one] at c)
  (with_reducible refine c.mono ?_)
  rintro e' w' ⟨rfl, rfl⟩
  refine hK.out _ _ hS (fun hS => ?_)
  clear c
  clear hK K
  try simp only [Act.put, zA, zB, zC]
  (refine tk 3 ?_ rfl (Or.inl ⟨by rfl, ?_⟩) hS ?_; rotate_left; focus (intro w' hSw; go_simp <;> try with_reducible rfl))
  try simp only [Act.put, zA, zB, zC]
  refine rdy 5 rfl (fun K hK => ?_)
  refine take_if (by rfl) ?_
  go_simp
  have c := vhigh_w x hx g1
  rw [HH.out] at c
  (try simp only [Int.cast_ofNat_Int, Int.natCast_zero, Int.natCast_one] at c)
  (with_reducible refine c.mono ?_)
  rintro e' w' ⟨rfl, rfl⟩
  refine hK.out _ _ hS (fun hS => ?_)
  clear c
  clear hK K
  try simp only [Act.put, zA, zB, zC]
  (refine tk 6 ?_ rfl (Or.inl ⟨by rfl, ?_⟩) hS ?_; rotate_left; focus (intro w' hSw; go_simp <;> try with_reducible rfl))
  try simp only [Act.put, zA, zB, zC]
  (refine tk 7 ?_ rfl (Or.inl ⟨by rfl, ?_⟩) hS ?_; rotate_left; focus (intro w' hSw; go_simp <;> try with_reducible rfl))
  try simp only [Act.put, zA, zB, zC]
  refine wpAnyH_done (by kernel_rfl) ?_ _
  have HS := Lib.hid hS
  clear hS
  cases v
  · go_wp2_with (go_at_call 111; have c := r_branch x hx b9 1 (by decide) g1 TG.out db9; rw [HV.out] at c; dsimp only [VR] at c; with_reducible refine c.mono ?_; rintro e' w1 ⟨rfl, q1⟩)
    go_ret2
    exact ⟨rfl, HS.out.trans q1.kp⟩
  · go_wp2_with (go_at_call 111; have c := r_branch x hx b9 1 (by decide) g1 TG.out db9; rw [HV.out] at c; dsimp only [VR] at c; with_reducible refine c.mono ?_; rintro e' w1 ⟨rfl, q1⟩)
    go_ret2
    exact ⟨rfl, HS.out.trans q1.kp⟩
end Go.Proofs.YtlfeandnpflaaaaGreatDoor
