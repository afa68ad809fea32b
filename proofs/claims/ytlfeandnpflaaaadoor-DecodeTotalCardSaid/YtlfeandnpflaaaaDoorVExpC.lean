/-
  Contract of rvc.Expand, row by row (3 of 4). No condition but what the tables hold.
-/
import Derived.Test.YtlfeandnpflaaaaDoorVMk
import Derived.Test.YtlfeandnpflaaaaDoorCAt
namespace Go.Proofs.YtlfeandnpflaaaaDoor
open Go.ChangeShapes Go.WideShapes Go.ChangeAt Go.RowKit
set_option linter.unusedVariables false
set_option linter.unusedSimpArgs false
set_option maxHeartbeats 4000000 in
set_option maxRecDepth 4000 in
theorem exp_2_0 (x : Nat) (hx : x < 65536) (w : World) (tb : Tb w) (hl : x % 4 = 2) (hh : x / 8192 = 0) :
    Calls Tryd.prog 8 #[.int .u16 (x : Int)] w fun e w' => e = .returned (VR (ex x)) ∧ Kp w w' := by
  have e : ex x = rShift x := by simp [ex, hl, hh, row]
  rw [e]
  have TB := Lib.hid tb
  have HL := Lib.hid hl
  have HH := Lib.hid hh
  clear e tb hl hh
  generalize hv : rShift x = v
  have HV := Lib.hid hv
  clear hv
  go_enter Tryd.func8, Tryd.ntmps8
  go_wp2
  refine wp_region_held_drew (S := fun w' => Kp w w') (by kernel_rfl) (Kp.refl w).drew (fun hS => ?_)
  generalize hgw : w.drew = g0 at hS ⊢
  clear hgw
  try simp only [Act.put, List.setIfInBounds_toArray, List.set_cons_zero, List.set_cons_succ]
  (refine wpAnyH_take (i := 1) (oi := { dst := some 8, op := Op.move (Operand.tmp 4), type := 38, pos := "rvc.go:12", after := #[], guard := none }) (v := ?_) rfl (by kernel_rfl) (by kernel_rfl) (by kernel_rfl) (fun _ _ _ h => h) (Or.inl ⟨by rfl, ?_⟩) hS ?_; rotate_left; focus (intro w' hSw; go_simp <;> try with_reducible rfl))
  try simp only [Act.put, List.setIfInBounds_toArray, List.set_cons_zero, List.set_cons_succ]
  (refine wpAnyH_take (i := 4) (oi := { dst := some 11, op := Op.move (Operand.tmp 4), type := 38, pos := "rvc.go:12", after := #[], guard := none }) (v := ?_) rfl (by kernel_rfl) (by kernel_rfl) (by kernel_rfl) (fun _ _ _ h => h) (Or.inl ⟨by rfl, ?_⟩) hS ?_; rotate_left; focus (intro w' hSw; go_simp <;> try with_reducible rfl))
  try simp only [Act.put, List.setIfInBounds_toArray, List.set_cons_zero, List.set_cons_succ]
  refine wpAnyH_ready (rs := [0]) (by kernel_rfl) (by simp) ?_
  refine AllReadyH.cons (o := { dst := some 7, op := Op.call { callee := Callee.value (Operand.func 14), args := #[], argTypes := #[] }, type := 42, pos := "rvc.go:12", after := #[], guard := none }) rfl (fun K hK => ?_) AllReadyH.nil
  refine take_if (by rfl) ?_
  go_simp
  (with_reducible refine (rows_w g0).mono ?_)
  rintro e' g1 ⟨b0, b1, b2, b3, b4, b5, b6, b7, b8, b9, b10, b11, b12, b13, b14, b15, b16, b17, rfl, qk, rc⟩
  refine hK.out _ _ (hS.trans qk) (fun hS => ?_)
  clear qk
  clear hK K
  try simp only [Act.put, List.setIfInBounds_toArray, List.set_cons_zero, List.set_cons_succ]
  have hI1 : ∀ w, (Instr.index 42 (.agg (rowsA b0 b1 b2 b3 b4 b5 b6 b7 b8 b9 b10 b11 b12 b13 b14 b15 b16 b17)) (.int .u32 2)).run Tryd.prog w = .ok (.agg #[.func (.func 32) #[] #[], .nilFunc, .func (.func 71) #[] #[.pointer (some ⟨b10, 0, none⟩), .pointer (some ⟨b11, 0, none⟩)], .func (.func 71) #[] #[.pointer (some ⟨b12, 0, none⟩), .pointer (some ⟨b13, 0, none⟩)], .func (.func 34) #[] #[], .nilFunc, .func (.func 75) #[] #[.pointer (some ⟨b14, 0, none⟩), .pointer (some ⟨b15, 0, none⟩)], .func (.func 75) #[] #[.pointer (some ⟨b16, 0, none⟩), .pointer (some ⟨b17, 0, none⟩)]]) w := fun _ => by kernel_rfl
  have hI2 : ∀ w, (Instr.index 41 (.agg #[.func (.func 32) #[] #[], .nilFunc, .func (.func 71) #[] #[.pointer (some ⟨b10, 0, none⟩), .pointer (some ⟨b11, 0, none⟩)], .func (.func 71) #[] #[.pointer (some ⟨b12, 0, none⟩), .pointer (some ⟨b13, 0, none⟩)], .func (.func 34) #[] #[], .nilFunc, .func (.func 75) #[] #[.pointer (some ⟨b14, 0, none⟩), .pointer (some ⟨b15, 0, none⟩)], .func (.func 75) #[] #[.pointer (some ⟨b16, 0, none⟩), .pointer (some ⟨b17, 0, none⟩)]]) (.int .u32 0)).run Tryd.prog w = .ok (.func (.func 32) #[] #[]) w := fun _ => by kernel_rfl
  have hE : ∀ w, (binOp .eql 40 (.func (.func 32) #[] #[]) .nilFunc).run Tryd.prog w = .ok (.bool false) w := fun _ => by kernel_rfl
  have TG := Lib.hid (TB.out.kp hS)
  clear rc
  refine wpAnyH_ready (rs := [2]) (by kernel_rfl) (by simp) ?_
  refine AllReadyH.cons (o := { dst := some 9, op := Op.call { callee := Callee.value (Operand.func 15), args := #[Operand.tmp 8], argTypes := #[38] }, type := 22, pos := "rvc.go:12", after := #[{ on := 1, ground := Ground.data }, { on := 0, ground := Ground.chain }], guard := none }) rfl (fun K hK => ?_) AllReadyH.nil
  refine take_if (by rfl) ?_
  go_simp
  have c := vlow_w x hx g1
  rw [HL.out] at c
  (try simp only [Int.cast_ofNat_Int, Int.natCast_zero, Int.natCast_one] at c)
  (with_reducible refine c.mono ?_)
  rintro e' w' ⟨rfl, rfl⟩
  refine hK.out _ _ hS (fun hS => ?_)
  clear c
  clear hK K
  try simp only [Act.put, List.setIfInBounds_toArray, List.set_cons_zero, List.set_cons_succ]
  (refine wpAnyH_take (i := 3) (oi := { dst := some 10, op := Op.index 42 (Operand.tmp 7) (Operand.tmp 9), type := 41, pos := "rvc.go:12", after := #[{ on := 0, ground := Ground.data }, { on := 2, ground := Ground.data }], guard := none }) (v := ?_) rfl (by kernel_rfl) (by kernel_rfl) (by kernel_rfl) (fun _ _ _ h => h) (Or.inl ⟨by rfl, ?_⟩) hS ?_; rotate_left; focus (intro w' hSw; go_simp <;> try with_reducible rfl))
  try simp only [Act.put, List.setIfInBounds_toArray, List.set_cons_zero, List.set_cons_succ]
  refine wpAnyH_ready (rs := [5]) (by kernel_rfl) (by simp) ?_
  refine AllReadyH.cons (o := { dst := some 12, op := Op.call { callee := Callee.value (Operand.func 16), args := #[Operand.tmp 11], argTypes := #[38] }, type := 22, pos := "rvc.go:12", after := #[{ on := 4, ground := Ground.data }, { on := 2, ground := Ground.chain }], guard := none }) rfl (fun K hK => ?_) AllReadyH.nil
  refine take_if (by rfl) ?_
  go_simp
  have c := vhigh_w x hx g1
  rw [HH.out] at c
  (try simp only [Int.cast_ofNat_Int, Int.natCast_zero, Int.natCast_one] at c)
  (with_reducible refine c.mono ?_)
  rintro e' w' ⟨rfl, rfl⟩
  refine hK.out _ _ hS (fun hS => ?_)
  clear c
  clear hK K
  try simp only [Act.put, List.setIfInBounds_toArray, List.set_cons_zero, List.set_cons_succ]
  (refine wpAnyH_take (i := 6) (oi := { dst := some 13, op := Op.index 41 (Operand.tmp 10) (Operand.tmp 12), type := 40, pos := "rvc.go:12", after := #[{ on := 3, ground := Ground.data }, { on := 5, ground := Ground.data }], guard := none }) (v := ?_) rfl (by kernel_rfl) (by kernel_rfl) (by kernel_rfl) (fun _ _ _ h => h) (Or.inl ⟨by rfl, ?_⟩) hS ?_; rotate_left; focus (intro w' hSw; go_simp <;> try with_reducible rfl))
  try simp only [Act.put, List.setIfInBounds_toArray, List.set_cons_zero, List.set_cons_succ]
  (refine wpAnyH_take (i := 7) (oi := { dst := some 5, op := Op.assign (Operand.tmp 13), type := 40, pos := "rvc.go:12", after := #[{ on := 6, ground := Ground.data }, { on := 5, ground := Ground.chain }, { on := 0, ground := Ground.phase }, { on := 1, ground := Ground.phase }, { on := 2, ground := Ground.phase }, { on := 3, ground := Ground.phase }, { on := 4, ground := Ground.phase }, { on := 5, ground := Ground.phase }, { on := 6, ground := Ground.phase }], guard := none }) (v := ?_) rfl (by kernel_rfl) (by kernel_rfl) (by kernel_rfl) (fun _ _ _ h => h) (Or.inl ⟨by rfl, ?_⟩) hS ?_; rotate_left; focus (intro w' hSw; go_simp <;> try with_reducible rfl))
  try simp only [Act.put, List.setIfInBounds_toArray, List.set_cons_zero, List.set_cons_succ]
  refine wpAnyH_done (by kernel_rfl) ?_ _
  have HS := Lib.hid hS
  clear hS
  cases v
  · go_wp2_with (go_at_call 32; have c := r_shift x hx g1 TG.out; rw [HV.out] at c; dsimp only [VR] at c; with_reducible refine c.mono ?_; rintro e' w1 ⟨rfl, rfl⟩)
    go_ret2
    exact ⟨rfl, HS.out⟩
  · go_wp2_with (go_at_call 32; have c := r_shift x hx g1 TG.out; rw [HV.out] at c; dsimp only [VR] at c; with_reducible refine c.mono ?_; rintro e' w1 ⟨rfl, rfl⟩)
    go_ret2
    exact ⟨rfl, HS.out⟩
set_option maxHeartbeats 4000000 in
set_option maxRecDepth 4000 in
theorem exp_2_1 (x : Nat) (hx : x < 65536) (w : World) (tb : Tb w) (hl : x % 4 = 2) (hh : x / 8192 = 1) :
    Calls Tryd.prog 8 #[.int .u16 (x : Int)] w fun e w' => e = .returned (VR (ex x)) ∧ Kp w w' := by
  have e : ex x = none := by simp [ex, hl, hh, row]
  rw [e]
  have TB := Lib.hid tb
  have HL := Lib.hid hl
  have HH := Lib.hid hh
  clear e tb hl hh
  go_enter Tryd.func8, Tryd.ntmps8
  go_wp2
  refine wp_region_held_drew (S := fun w' => Kp w w') (by kernel_rfl) (Kp.refl w).drew (fun hS => ?_)
  generalize hgw : w.drew = g0 at hS ⊢
  clear hgw
  try simp only [Act.put, List.setIfInBounds_toArray, List.set_cons_zero, List.set_cons_succ]
  (refine wpAnyH_take (i := 1) (oi := { dst := some 8, op := Op.move (Operand.tmp 4), type := 38, pos := "rvc.go:12", after := #[], guard := none }) (v := ?_) rfl (by kernel_rfl) (by kernel_rfl) (by kernel_rfl) (fun _ _ _ h => h) (Or.inl ⟨by rfl, ?_⟩) hS ?_; rotate_left; focus (intro w' hSw; go_simp <;> try with_reducible rfl))
  try simp only [Act.put, List.setIfInBounds_toArray, List.set_cons_zero, List.set_cons_succ]
  (refine wpAnyH_take (i := 4) (oi := { dst := some 11, op := Op.move (Operand.tmp 4), type := 38, pos := "rvc.go:12", after := #[], guard := none }) (v := ?_) rfl (by kernel_rfl) (by kernel_rfl) (by kernel_rfl) (fun _ _ _ h => h) (Or.inl ⟨by rfl, ?_⟩) hS ?_; rotate_left; focus (intro w' hSw; go_simp <;> try with_reducible rfl))
  try simp only [Act.put, List.setIfInBounds_toArray, List.set_cons_zero, List.set_cons_succ]
  refine wpAnyH_ready (rs := [0]) (by kernel_rfl) (by simp) ?_
  refine AllReadyH.cons (o := { dst := some 7, op := Op.call { callee := Callee.value (Operand.func 14), args := #[], argTypes := #[] }, type := 42, pos := "rvc.go:12", after := #[], guard := none }) rfl (fun K hK => ?_) AllReadyH.nil
  refine take_if (by rfl) ?_
  go_simp
  (with_reducible refine (rows_w g0).mono ?_)
  rintro e' g1 ⟨b0, b1, b2, b3, b4, b5, b6, b7, b8, b9, b10, b11, b12, b13, b14, b15, b16, b17, rfl, qk, rc⟩
  refine hK.out _ _ (hS.trans qk) (fun hS => ?_)
  clear qk
  clear hK K
  try simp only [Act.put, List.setIfInBounds_toArray, List.set_cons_zero, List.set_cons_succ]
  have hI1 : ∀ w, (Instr.index 42 (.agg (rowsA b0 b1 b2 b3 b4 b5 b6 b7 b8 b9 b10 b11 b12 b13 b14 b15 b16 b17)) (.int .u32 2)).run Tryd.prog w = .ok (.agg #[.func (.func 32) #[] #[], .nilFunc, .func (.func 71) #[] #[.pointer (some ⟨b10, 0, none⟩), .pointer (some ⟨b11, 0, none⟩)], .func (.func 71) #[] #[.pointer (some ⟨b12, 0, none⟩), .pointer (some ⟨b13, 0, none⟩)], .func (.func 34) #[] #[], .nilFunc, .func (.func 75) #[] #[.pointer (some ⟨b14, 0, none⟩), .pointer (some ⟨b15, 0, none⟩)], .func (.func 75) #[] #[.pointer (some ⟨b16, 0, none⟩), .pointer (some ⟨b17, 0, none⟩)]]) w := fun _ => by kernel_rfl
  have hI2 : ∀ w, (Instr.index 41 (.agg #[.func (.func 32) #[] #[], .nilFunc, .func (.func 71) #[] #[.pointer (some ⟨b10, 0, none⟩), .pointer (some ⟨b11, 0, none⟩)], .func (.func 71) #[] #[.pointer (some ⟨b12, 0, none⟩), .pointer (some ⟨b13, 0, none⟩)], .func (.func 34) #[] #[], .nilFunc, .func (.func 75) #[] #[.pointer (some ⟨b14, 0, none⟩), .pointer (some ⟨b15, 0, none⟩)], .func (.func 75) #[] #[.pointer (some ⟨b16, 0, none⟩), .pointer (some ⟨b17, 0, none⟩)]]) (.int .u32 1)).run Tryd.prog w = .ok (.nilFunc) w := fun _ => by kernel_rfl
  have hE : ∀ w, (binOp .eql 40 (.nilFunc) .nilFunc).run Tryd.prog w = .ok (.bool true) w := fun _ => by kernel_rfl
  have TG := Lib.hid (TB.out.kp hS)
  clear rc
  refine wpAnyH_ready (rs := [2]) (by kernel_rfl) (by simp) ?_
  refine AllReadyH.cons (o := { dst := some 9, op := Op.call { callee := Callee.value (Operand.func 15), args := #[Operand.tmp 8], argTypes := #[38] }, type := 22, pos := "rvc.go:12", after := #[{ on := 1, ground := Ground.data }, { on := 0, ground := Ground.chain }], guard := none }) rfl (fun K hK => ?_) AllReadyH.nil
  refine take_if (by rfl) ?_
  go_simp
  have c := vlow_w x hx g1
  rw [HL.out] at c
  (try simp only [Int.cast_ofNat_Int, Int.natCast_zero, Int.natCast_one] at c)
  (with_reducible refine c.mono ?_)
  rintro e' w' ⟨rfl, rfl⟩
  refine hK.out _ _ hS (fun hS => ?_)
  clear c
  clear hK K
  try simp only [Act.put, List.setIfInBounds_toArray, List.set_cons_zero, List.set_cons_succ]
  (refine wpAnyH_take (i := 3) (oi := { dst := some 10, op := Op.index 42 (Operand.tmp 7) (Operand.tmp 9), type := 41, pos := "rvc.go:12", after := #[{ on := 0, ground := Ground.data }, { on := 2, ground := Ground.data }], guard := none }) (v := ?_) rfl (by kernel_rfl) (by kernel_rfl) (by kernel_rfl) (fun _ _ _ h => h) (Or.inl ⟨by rfl, ?_⟩) hS ?_; rotate_left; focus (intro w' hSw; go_simp <;> try with_reducible rfl))
  try simp only [Act.put, List.setIfInBounds_toArray, List.set_cons_zero, List.set_cons_succ]
  refine wpAnyH_ready (rs := [5]) (by kernel_rfl) (by simp) ?_
  refine AllReadyH.cons (o := { dst := some 12, op := Op.call { callee := Callee.value (Operand.func 16), args := #[Operand.tmp 11], argTypes := #[38] }, type := 22, pos := "rvc.go:12", after := #[{ on := 4, ground := Ground.data }, { on := 2, ground := Ground.chain }], guard := none }) rfl (fun K hK => ?_) AllReadyH.nil
  refine take_if (by rfl) ?_
  go_simp
  have c := vhigh_w x hx g1
  rw [HH.out] at c
  (try simp only [Int.cast_ofNat_Int, Int.natCast_zero, Int.natCast_one] at c)
  (with_reducible refine c.mono ?_)
  rintro e' w' ⟨rfl, rfl⟩
  refine hK.out _ _ hS (fun hS => ?_)
  clear c
  clear hK K
  try simp only [Act.put, List.setIfInBounds_toArray, List.set_cons_zero, List.set_cons_succ]
  (refine wpAnyH_take (i := 6) (oi := { dst := some 13, op := Op.index 41 (Operand.tmp 10) (Operand.tmp 12), type := 40, pos := "rvc.go:12", after := #[{ on := 3, ground := Ground.data }, { on := 5, ground := Ground.data }], guard := none }) (v := ?_) rfl (by kernel_rfl) (by kernel_rfl) (by kernel_rfl) (fun _ _ _ h => h) (Or.inl ⟨by rfl, ?_⟩) hS ?_; rotate_left; focus (intro w' hSw; go_simp <;> try with_reducible rfl))
  try simp only [Act.put, List.setIfInBounds_toArray, List.set_cons_zero, List.set_cons_succ]
  (refine wpAnyH_take (i := 7) (oi := { dst := some 5, op := Op.assign (Operand.tmp 13), type := 40, pos := "rvc.go:12", after := #[{ on := 6, ground := Ground.data }, { on := 5, ground := Ground.chain }, { on := 0, ground := Ground.phase }, { on := 1, ground := Ground.phase }, { on := 2, ground := Ground.phase }, { on := 3, ground := Ground.phase }, { on := 4, ground := Ground.phase }, { on := 5, ground := Ground.phase }, { on := 6, ground := Ground.phase }], guard := none }) (v := ?_) rfl (by kernel_rfl) (by kernel_rfl) (by kernel_rfl) (fun _ _ _ h => h) (Or.inl ⟨by rfl, ?_⟩) hS ?_; rotate_left; focus (intro w' hSw; go_simp <;> try with_reducible rfl))
  try simp only [Act.put, List.setIfInBounds_toArray, List.set_cons_zero, List.set_cons_succ]
  refine wpAnyH_done (by kernel_rfl) ?_ _
  have HS := Lib.hid hS
  clear hS
  go_wp2
  go_ret2
  exact ⟨rfl, HS.out⟩
set_option maxHeartbeats 4000000 in
set_option maxRecDepth 4000 in
theorem exp_2_2 (x : Nat) (hx : x < 65536) (w : World) (tb : Tb w) (hl : x % 4 = 2) (hh : x / 8192 = 2) :
    Calls Tryd.prog 8 #[.int .u16 (x : Int)] w fun e w' => e = .returned (VR (ex x)) ∧ Kp w w' := by
  have e : ex x = (rStackLoad 2 6) x := by simp [ex, hl, hh, row]
  rw [e]
  have TB := Lib.hid tb
  have HL := Lib.hid hl
  have HH := Lib.hid hh
  clear e tb hl hh
  generalize hv : (rStackLoad 2 6) x = v
  have HV := Lib.hid hv
  clear hv
  go_enter Tryd.func8, Tryd.ntmps8
  go_wp2
  refine wp_region_held_drew (S := fun w' => Kp w w') (by kernel_rfl) (Kp.refl w).drew (fun hS => ?_)
  generalize hgw : w.drew = g0 at hS ⊢
  clear hgw
  try simp only [Act.put, List.setIfInBounds_toArray, List.set_cons_zero, List.set_cons_succ]
  (refine wpAnyH_take (i := 1) (oi := { dst := some 8, op := Op.move (Operand.tmp 4), type := 38, pos := "rvc.go:12", after := #[], guard := none }) (v := ?_) rfl (by kernel_rfl) (by kernel_rfl) (by kernel_rfl) (fun _ _ _ h => h) (Or.inl ⟨by rfl, ?_⟩) hS ?_; rotate_left; focus (intro w' hSw; go_simp <;> try with_reducible rfl))
  try simp only [Act.put, List.setIfInBounds_toArray, List.set_cons_zero, List.set_cons_succ]
  (refine wpAnyH_take (i := 4) (oi := { dst := some 11, op := Op.move (Operand.tmp 4), type := 38, pos := "rvc.go:12", after := #[], guard := none }) (v := ?_) rfl (by kernel_rfl) (by kernel_rfl) (by kernel_rfl) (fun _ _ _ h => h) (Or.inl ⟨by rfl, ?_⟩) hS ?_; rotate_left; focus (intro w' hSw; go_simp <;> try with_reducible rfl))
  try simp only [Act.put, List.setIfInBounds_toArray, List.set_cons_zero, List.set_cons_succ]
  refine wpAnyH_ready (rs := [0]) (by kernel_rfl) (by simp) ?_
  refine AllReadyH.cons (o := { dst := some 7, op := Op.call { callee := Callee.value (Operand.func 14), args := #[], argTypes := #[] }, type := 42, pos := "rvc.go:12", after := #[], guard := none }) rfl (fun K hK => ?_) AllReadyH.nil
  refine take_if (by rfl) ?_
  go_simp
  (with_reducible refine (rows_w g0).mono ?_)
  rintro e' g1 ⟨b0, b1, b2, b3, b4, b5, b6, b7, b8, b9, b10, b11, b12, b13, b14, b15, b16, b17, rfl, qk, rc⟩
  refine hK.out _ _ (hS.trans qk) (fun hS => ?_)
  clear qk
  clear hK K
  try simp only [Act.put, List.setIfInBounds_toArray, List.set_cons_zero, List.set_cons_succ]
  have hI1 : ∀ w, (Instr.index 42 (.agg (rowsA b0 b1 b2 b3 b4 b5 b6 b7 b8 b9 b10 b11 b12 b13 b14 b15 b16 b17)) (.int .u32 2)).run Tryd.prog w = .ok (.agg #[.func (.func 32) #[] #[], .nilFunc, .func (.func 71) #[] #[.pointer (some ⟨b10, 0, none⟩), .pointer (some ⟨b11, 0, none⟩)], .func (.func 71) #[] #[.pointer (some ⟨b12, 0, none⟩), .pointer (some ⟨b13, 0, none⟩)], .func (.func 34) #[] #[], .nilFunc, .func (.func 75) #[] #[.pointer (some ⟨b14, 0, none⟩), .pointer (some ⟨b15, 0, none⟩)], .func (.func 75) #[] #[.pointer (some ⟨b16, 0, none⟩), .pointer (some ⟨b17, 0, none⟩)]]) w := fun _ => by kernel_rfl
  have hI2 : ∀ w, (Instr.index 41 (.agg #[.func (.func 32) #[] #[], .nilFunc, .func (.func 71) #[] #[.pointer (some ⟨b10, 0, none⟩), .pointer (some ⟨b11, 0, none⟩)], .func (.func 71) #[] #[.pointer (some ⟨b12, 0, none⟩), .pointer (some ⟨b13, 0, none⟩)], .func (.func 34) #[] #[], .nilFunc, .func (.func 75) #[] #[.pointer (some ⟨b14, 0, none⟩), .pointer (some ⟨b15, 0, none⟩)], .func (.func 75) #[] #[.pointer (some ⟨b16, 0, none⟩), .pointer (some ⟨b17, 0, none⟩)]]) (.int .u32 2)).run Tryd.prog w = .ok (.func (.func 71) #[] #[.pointer (some ⟨b10, 0, none⟩), .pointer (some ⟨b11, 0, none⟩)]) w := fun _ => by kernel_rfl
  have hE : ∀ w, (binOp .eql 40 (.func (.func 71) #[] #[.pointer (some ⟨b10, 0, none⟩), .pointer (some ⟨b11, 0, none⟩)]) .nilFunc).run Tryd.prog w = .ok (.bool false) w := fun _ => by kernel_rfl
  have db10 := rc.c10
  have db11 := rc.c11
  have TG := Lib.hid (TB.out.kp hS)
  clear rc
  refine wpAnyH_ready (rs := [2]) (by kernel_rfl) (by simp) ?_
  refine AllReadyH.cons (o := { dst := some 9, op := Op.call { callee := Callee.value (Operand.func 15), args := #[Operand.tmp 8], argTypes := #[38] }, type := 22, pos := "rvc.go:12", after := #[{ on := 1, ground := Ground.data }, { on := 0, ground := Ground.chain }], guard := none }) rfl (fun K hK => ?_) AllReadyH.nil
  refine take_if (by rfl) ?_
  go_simp
  have c := vlow_w x hx g1
  rw [HL.out] at c
  (try simp only [Int.cast_ofNat_Int, Int.natCast_zero, Int.natCast_one] at c)
  (with_reducible refine c.mono ?_)
  rintro e' w' ⟨rfl, rfl⟩
  refine hK.out _ _ hS (fun hS => ?_)
  clear c
  clear hK K
  try simp only [Act.put, List.setIfInBounds_toArray, List.set_cons_zero, List.set_cons_succ]
  (refine wpAnyH_take (i := 3) (oi := { dst := some 10, op := Op.index 42 (Operand.tmp 7) (Operand.tmp 9), type := 41, pos := "rvc.go:12", after := #[{ on := 0, ground := Ground.data }, { on := 2, ground := Ground.data }], guard := none }) (v := ?_) rfl (by kernel_rfl) (by kernel_rfl) (by kernel_rfl) (fun _ _ _ h => h) (Or.inl ⟨by rfl, ?_⟩) hS ?_; rotate_left; focus (intro w' hSw; go_simp <;> try with_reducible rfl))
  try simp only [Act.put, List.setIfInBounds_toArray, List.set_cons_zero, List.set_cons_succ]
  refine wpAnyH_ready (rs := [5]) (by kernel_rfl) (by simp) ?_
  refine AllReadyH.cons (o := { dst := some 12, op := Op.call { callee := Callee.value (Operand.func 16), args := #[Operand.tmp 11], argTypes := #[38] }, type := 22, pos := "rvc.go:12", after := #[{ on := 4, ground := Ground.data }, { on := 2, ground := Ground.chain }], guard := none }) rfl (fun K hK => ?_) AllReadyH.nil
  refine take_if (by rfl) ?_
  go_simp
  have c := vhigh_w x hx g1
  rw [HH.out] at c
  (try simp only [Int.cast_ofNat_Int, Int.natCast_zero, Int.natCast_one] at c)
  (with_reducible refine c.mono ?_)
  rintro e' w' ⟨rfl, rfl⟩
  refine hK.out _ _ hS (fun hS => ?_)
  clear c
  clear hK K
  try simp only [Act.put, List.setIfInBounds_toArray, List.set_cons_zero, List.set_cons_succ]
  (refine wpAnyH_take (i := 6) (oi := { dst := some 13, op := Op.index 41 (Operand.tmp 10) (Operand.tmp 12), type := 40, pos := "rvc.go:12", after := #[{ on := 3, ground := Ground.data }, { on := 5, ground := Ground.data }], guard := none }) (v := ?_) rfl (by kernel_rfl) (by kernel_rfl) (by kernel_rfl) (fun _ _ _ h => h) (Or.inl ⟨by rfl, ?_⟩) hS ?_; rotate_left; focus (intro w' hSw; go_simp <;> try with_reducible rfl))
  try simp only [Act.put, List.setIfInBounds_toArray, List.set_cons_zero, List.set_cons_succ]
  (refine wpAnyH_take (i := 7) (oi := { dst := some 5, op := Op.assign (Operand.tmp 13), type := 40, pos := "rvc.go:12", after := #[{ on := 6, ground := Ground.data }, { on := 5, ground := Ground.chain }, { on := 0, ground := Ground.phase }, { on := 1, ground := Ground.phase }, { on := 2, ground := Ground.phase }, { on := 3, ground := Ground.phase }, { on := 4, ground := Ground.phase }, { on := 5, ground := Ground.phase }, { on := 6, ground := Ground.phase }], guard := none }) (v := ?_) rfl (by kernel_rfl) (by kernel_rfl) (by kernel_rfl) (fun _ _ _ h => h) (Or.inl ⟨by rfl, ?_⟩) hS ?_; rotate_left; focus (intro w' hSw; go_simp <;> try with_reducible rfl))
  try simp only [Act.put, List.setIfInBounds_toArray, List.set_cons_zero, List.set_cons_succ]
  refine wpAnyH_done (by kernel_rfl) ?_ _
  have HS := Lib.hid hS
  clear hS
  cases v
  · go_wp2_with (go_at_call 71; have c := r_stackLoad x hx b10 b11 2 6 (by decide) (by decide) g1 TG.out db10 db11; rw [HV.out] at c; dsimp only [VR] at c; with_reducible refine c.mono ?_; rintro e' w1 ⟨rfl, q1⟩)
    go_ret2
    exact ⟨rfl, HS.out.trans q1.kp⟩
  · go_wp2_with (go_at_call 71; have c := r_stackLoad x hx b10 b11 2 6 (by decide) (by decide) g1 TG.out db10 db11; rw [HV.out] at c; dsimp only [VR] at c; with_reducible refine c.mono ?_; rintro e' w1 ⟨rfl, q1⟩)
    go_ret2
    exact ⟨rfl, HS.out.trans q1.kp⟩
set_option maxHeartbeats 4000000 in
set_option maxRecDepth 4000 in
theorem exp_2_3 (x : Nat) (hx : x < 65536) (w : World) (tb : Tb w) (hl : x % 4 = 2) (hh : x / 8192 = 3) :
    Calls Tryd.prog 8 #[.int .u16 (x : Int)] w fun e w' => e = .returned (VR (ex x)) ∧ Kp w w' := by
  have e : ex x = (rStackLoad 3 7) x := by simp [ex, hl, hh, row]
  rw [e]
  have TB := Lib.hid tb
  have HL := Lib.hid hl
  have HH := Lib.hid hh
  clear e tb hl hh
  generalize hv : (rStackLoad 3 7) x = v
  have HV := Lib.hid hv
  clear hv
  go_enter Tryd.func8, Tryd.ntmps8
  go_wp2
  refine wp_region_held_drew (S := fun w' => Kp w w') (by kernel_rfl) (Kp.refl w).drew (fun hS => ?_)
  generalize hgw : w.drew = g0 at hS ⊢
  clear hgw
  try simp only [Act.put, List.setIfInBounds_toArray, List.set_cons_zero, List.set_cons_succ]
  (refine wpAnyH_take (i := 1) (oi := { dst := some 8, op := Op.move (Operand.tmp 4), type := 38, pos := "rvc.go:12", after := #[], guard := none }) (v := ?_) rfl (by kernel_rfl) (by kernel_rfl) (by kernel_rfl) (fun _ _ _ h => h) (Or.inl ⟨by rfl, ?_⟩) hS ?_; rotate_left; focus (intro w' hSw; go_simp <;> try with_reducible rfl))
  try simp only [Act.put, List.setIfInBounds_toArray, List.set_cons_zero, List.set_cons_succ]
  (refine wpAnyH_take (i := 4) (oi := { dst := some 11, op := Op.move (Operand.tmp 4), type := 38, pos := "rvc.go:12", after := #[], guard := none }) (v := ?_) rfl (by kernel_rfl) (by kernel_rfl) (by kernel_rfl) (fun _ _ _ h => h) (Or.inl ⟨by rfl, ?_⟩) hS ?_; rotate_left; focus (intro w' hSw; go_simp <;> try with_reducible rfl))
  try simp only [Act.put, List.setIfInBounds_toArray, List.set_cons_zero, List.set_cons_succ]
  refine wpAnyH_ready (rs := [0]) (by kernel_rfl) (by simp) ?_
  refine AllReadyH.cons (o := { dst := some 7, op := Op.call { callee := Callee.value (Operand.func 14), args := #[], argTypes := #[] }, type := 42, pos := "rvc.go:12", after := #[], guard := none }) rfl (fun K hK => ?_) AllReadyH.nil
  refine take_if (by rfl) ?_
  go_simp
  (with_reducible refine (rows_w g0).mono ?_)
  rintro e' g1 ⟨b0, b1, b2, b3, b4, b5, b6, b7, b8, b9, b10, b11, b12, b13, b14, b15, b16, b17, rfl, qk, rc⟩
  refine hK.out _ _ (hS.trans qk) (fun hS => ?_)
  clear qk
  clear hK K
  try simp only [Act.put, List.setIfInBounds_toArray, List.set_cons_zero, List.set_cons_succ]
  have hI1 : ∀ w, (Instr.index 42 (.agg (rowsA b0 b1 b2 b3 b4 b5 b6 b7 b8 b9 b10 b11 b12 b13 b14 b15 b16 b17)) (.int .u32 2)).run Tryd.prog w = .ok (.agg #[.func (.func 32) #[] #[], .nilFunc, .func (.func 71) #[] #[.pointer (some ⟨b10, 0, none⟩), .pointer (some ⟨b11, 0, none⟩)], .func (.func 71) #[] #[.pointer (some ⟨b12, 0, none⟩), .pointer (some ⟨b13, 0, none⟩)], .func (.func 34) #[] #[], .nilFunc, .func (.func 75) #[] #[.pointer (some ⟨b14, 0, none⟩), .pointer (some ⟨b15, 0, none⟩)], .func (.func 75) #[] #[.pointer (some ⟨b16, 0, none⟩), .pointer (some ⟨b17, 0, none⟩)]]) w := fun _ => by kernel_rfl
  have hI2 : ∀ w, (Instr.index 41 (.agg #[.func (.func 32) #[] #[], .nilFunc, .func (.func 71) #[] #[.pointer (some ⟨b10, 0, none⟩), .pointer (some ⟨b11, 0, none⟩)], .func (.func 71) #[] #[.pointer (some ⟨b12, 0, none⟩), .pointer (some ⟨b13, 0, none⟩)], .func (.func 34) #[] #[], .nilFunc, .func (.func 75) #[] #[.pointer (some ⟨b14, 0, none⟩), .pointer (some ⟨b15, 0, none⟩)], .func (.func 75) #[] #[.pointer (some ⟨b16, 0, none⟩), .pointer (some ⟨b17, 0, none⟩)]]) (.int .u32 3)).run Tryd.prog w = .ok (.func (.func 71) #[] #[.pointer (some ⟨b12, 0, none⟩), .pointer (some ⟨b13, 0, none⟩)]) w := fun _ => by kernel_rfl
  have hE : ∀ w, (binOp .eql 40 (.func (.func 71) #[] #[.pointer (some ⟨b12, 0, none⟩), .pointer (some ⟨b13, 0, none⟩)]) .nilFunc).run Tryd.prog w = .ok (.bool false) w := fun _ => by kernel_rfl
  have db12 := rc.c12
  have db13 := rc.c13
  have TG := Lib.hid (TB.out.kp hS)
  clear rc
  refine wpAnyH_ready (rs := [2]) (by kernel_rfl) (by simp) ?_
  refine AllReadyH.cons (o := { dst := some 9, op := Op.call { callee := Callee.value (Operand.func 15), args := #[Operand.tmp 8], argTypes := #[38] }, type := 22, pos := "rvc.go:12", after := #[{ on := 1, ground := Ground.data }, { on := 0, ground := Ground.chain }], guard := none }) rfl (fun K hK => ?_) AllReadyH.nil
  refine take_if (by rfl) ?_
  go_simp
  have c := vlow_w x hx g1
  rw [HL.out] at c
  (try simp only [Int.cast_ofNat_Int, Int.natCast_zero, Int.natCast_one] at c)
  (with_reducible refine c.mono ?_)
  rintro e' w' ⟨rfl, rfl⟩
  refine hK.out _ _ hS (fun hS => ?_)
  clear c
  clear hK K
  try simp only [Act.put, List.setIfInBounds_toArray, List.set_cons_zero, List.set_cons_succ]
  (refine wpAnyH_take (i := 3) (oi := { dst := some 10, op := Op.index 42 (Operand.tmp 7) (Operand.tmp 9), type := 41, pos := "rvc.go:12", after := #[{ on := 0, ground := Ground.data }, { on := 2, ground := Ground.data }], guard := none }) (v := ?_) rfl (by kernel_rfl) (by kernel_rfl) (by kernel_rfl) (fun _ _ _ h => h) (Or.inl ⟨by rfl, ?_⟩) hS ?_; rotate_left; focus (intro w' hSw; go_simp <;> try with_reducible rfl))
  try simp only [Act.put, List.setIfInBounds_toArray, List.set_cons_zero, List.set_cons_succ]
  refine wpAnyH_ready (rs := [5]) (by kernel_rfl) (by simp) ?_
  refine AllReadyH.cons (o := { dst := some 12, op := Op.call { callee := Callee.value (Operand.func 16), args := #[Operand.tmp 11], argTypes := #[38] }, type := 22, pos := "rvc.go:12", after := #[{ on := 4, ground := Ground.data }, { on := 2, ground := Ground.chain }], guard := none }) rfl (fun K hK => ?_) AllReadyH.nil
  refine take_if (by rfl) ?_
  go_simp
  have c := vhigh_w x hx g1
  rw [HH.out] at c
  (try simp only [Int.cast_ofNat_Int, Int.natCast_zero, Int.natCast_one] at c)
  (with_reducible refine c.mono ?_)
  rintro e' w' ⟨rfl, rfl⟩
  refine hK.out _ _ hS (fun hS => ?_)
  clear c
  clear hK K
  try simp only [Act.put, List.setIfInBounds_toArray, List.set_cons_zero, List.set_cons_succ]
  (refine wpAnyH_take (i := 6) (oi := { dst := some 13, op := Op.index 41 (Operand.tmp 10) (Operand.tmp 12), type := 40, pos := "rvc.go:12", after := #[{ on := 3, ground := Ground.data }, { on := 5, ground := Ground.data }], guard := none }) (v := ?_) rfl (by kernel_rfl) (by kernel_rfl) (by kernel_rfl) (fun _ _ _ h => h) (Or.inl ⟨by rfl, ?_⟩) hS ?_; rotate_left; focus (intro w' hSw; go_simp <;> try with_reducible rfl))
  try simp only [Act.put, List.setIfInBounds_toArray, List.set_cons_zero, List.set_cons_succ]
  (refine wpAnyH_take (i := 7) (oi := { dst := some 5, op := Op.assign (Operand.tmp 13), type := 40, pos := "rvc.go:12", after := #[{ on := 6, ground := Ground.data }, { on := 5, ground := Ground.chain }, { on := 0, ground := Ground.phase }, { on := 1, ground := Ground.phase }, { on := 2, ground := Ground.phase }, { on := 3, ground := Ground.phase }, { on := 4, ground := Ground.phase }, { on := 5, ground := Ground.phase }, { on := 6, ground := Ground.phase }], guard := none }) (v := ?_) rfl (by kernel_rfl) (by kernel_rfl) (by kernel_rfl) (fun _ _ _ h => h) (Or.inl ⟨by rfl, ?_⟩) hS ?_; rotate_left; focus (intro w' hSw; go_simp <;> try with_reducible rfl))
  try simp only [Act.put, List.setIfInBounds_toArray, List.set_cons_zero, List.set_cons_succ]
  refine wpAnyH_done (by kernel_rfl) ?_ _
  have HS := Lib.hid hS
  clear hS
  cases v
  · go_wp2_with (go_at_call 71; have c := r_stackLoad x hx b12 b13 3 7 (by decide) (by decide) g1 TG.out db12 db13; rw [HV.out] at c; dsimp only [VR] at c; with_reducible refine c.mono ?_; rintro e' w1 ⟨rfl, q1⟩)
    go_ret2
    exact ⟨rfl, HS.out.trans q1.kp⟩
  · go_wp2_with (go_at_call 71; have c := r_stackLoad x hx b12 b13 3 7 (by decide) (by decide) g1 TG.out db12 db13; rw [HV.out] at c; dsimp only [VR] at c; with_reducible refine c.mono ?_; rintro e' w1 ⟨rfl, q1⟩)
    go_ret2
    exact ⟨rfl, HS.out.trans q1.kp⟩
set_option maxHeartbeats 4000000 in
set_option maxRecDepth 4000 in
theorem exp_2_4 (x : Nat) (hx : x < 65536) (w : World) (tb : Tb w) (hl : x % 4 = 2) (hh : x / 8192 = 4) :
    Calls Tryd.prog 8 #[.int .u16 (x : Int)] w fun e w' => e = .returned (VR (ex x)) ∧ Kp w w' := by
  have e : ex x = rMove x := by simp [ex, hl, hh, row]
  rw [e]
  have TB := Lib.hid tb
  have HL := Lib.hid hl
  have HH := Lib.hid hh
  clear e tb hl hh
  generalize hv : rMove x = v
  have HV := Lib.hid hv
  clear hv
  go_enter Tryd.func8, Tryd.ntmps8
  go_wp2
  refine wp_region_held_drew (S := fun w' => Kp w w') (by kernel_rfl) (Kp.refl w).drew (fun hS => ?_)
  generalize hgw : w.drew = g0 at hS ⊢
  clear hgw
  try simp only [Act.put, List.setIfInBounds_toArray, List.set_cons_zero, List.set_cons_succ]
  (refine wpAnyH_take (i := 1) (oi := { dst := some 8, op := Op.move (Operand.tmp 4), type := 38, pos := "rvc.go:12", after := #[], guard := none }) (v := ?_) rfl (by kernel_rfl) (by kernel_rfl) (by kernel_rfl) (fun _ _ _ h => h) (Or.inl ⟨by rfl, ?_⟩) hS ?_; rotate_left; focus (intro w' hSw; go_simp <;> try with_reducible rfl))
  try simp only [Act.put, List.setIfInBounds_toArray, List.set_cons_zero, List.set_cons_succ]
  (refine wpAnyH_take (i := 4) (oi := { dst := some 11, op := Op.move (Operand.tmp 4), type := 38, pos := "rvc.go:12", after := #[], guard := none }) (v := ?_) rfl (by kernel_rfl) (by kernel_rfl) (by kernel_rfl) (fun _ _ _ h => h) (Or.inl ⟨by rfl, ?_⟩) hS ?_; rotate_left; focus (intro w' hSw; go_simp <;> try with_reducible rfl))
  try simp only [Act.put, List.setIfInBounds_toArray, List.set_cons_zero, List.set_cons_succ]
  refine wpAnyH_ready (rs := [0]) (by kernel_rfl) (by simp) ?_
  refine AllReadyH.cons (o := { dst := some 7, op := Op.call { callee := Callee.value (Operand.func 14), args := #[], argTypes := #[] }, type := 42, pos := "rvc.go:12", after := #[], guard := none }) rfl (fun K hK => ?_) AllReadyH.nil
  refine take_if (by rfl) ?_
  go_simp
  (with_reducible refine (rows_w g0).mono ?_)
  rintro e' g1 ⟨b0, b1, b2, b3, b4, b5, b6, b7, b8, b9, b10, b11, b12, b13, b14, b15, b16, b17, rfl, qk, rc⟩
  refine hK.out _ _ (hS.trans qk) (fun hS => ?_)
  clear qk
  clear hK K
  try simp only [Act.put, List.setIfInBounds_toArray, List.set_cons_zero, List.set_cons_succ]
  have hI1 : ∀ w, (Instr.index 42 (.agg (rowsA b0 b1 b2 b3 b4 b5 b6 b7 b8 b9 b10 b11 b12 b13 b14 b15 b16 b17)) (.int .u32 2)).run Tryd.prog w = .ok (.agg #[.func (.func 32) #[] #[], .nilFunc, .func (.func 71) #[] #[.pointer (some ⟨b10, 0, none⟩), .pointer (some ⟨b11, 0, none⟩)], .func (.func 71) #[] #[.pointer (some ⟨b12, 0, none⟩), .pointer (some ⟨b13, 0, none⟩)], .func (.func 34) #[] #[], .nilFunc, .func (.func 75) #[] #[.pointer (some ⟨b14, 0, none⟩), .pointer (some ⟨b15, 0, none⟩)], .func (.func 75) #[] #[.pointer (some ⟨b16, 0, none⟩), .pointer (some ⟨b17, 0, none⟩)]]) w := fun _ => by kernel_rfl
  have hI2 : ∀ w, (Instr.index 41 (.agg #[.func (.func 32) #[] #[], .nilFunc, .func (.func 71) #[] #[.pointer (some ⟨b10, 0, none⟩), .pointer (some ⟨b11, 0, none⟩)], .func (.func 71) #[] #[.pointer (some ⟨b12, 0, none⟩), .pointer (some ⟨b13, 0, none⟩)], .func (.func 34) #[] #[], .nilFunc, .func (.func 75) #[] #[.pointer (some ⟨b14, 0, none⟩), .pointer (some ⟨b15, 0, none⟩)], .func (.func 75) #[] #[.pointer (some ⟨b16, 0, none⟩), .pointer (some ⟨b17, 0, none⟩)]]) (.int .u32 4)).run Tryd.prog w = .ok (.func (.func 34) #[] #[]) w := fun _ => by kernel_rfl
  have hE : ∀ w, (binOp .eql 40 (.func (.func 34) #[] #[]) .nilFunc).run Tryd.prog w = .ok (.bool false) w := fun _ => by kernel_rfl
  have TG := Lib.hid (TB.out.kp hS)
  clear rc
  refine wpAnyH_ready (rs := [2]) (by kernel_rfl) (by simp) ?_
  refine AllReadyH.cons (o := { dst := some 9, op := Op.call { callee := Callee.value (Operand.func 15), args := #[Operand.tmp 8], argTypes := #[38] }, type := 22, pos := "rvc.go:12", after := #[{ on := 1, ground := Ground.data }, { on := 0, ground := Ground.chain }], guard := none }) rfl (fun K hK => ?_) AllReadyH.nil
  refine take_if (by rfl) ?_
  go_simp
  have c := vlow_w x hx g1
  rw [HL.out] at c
  (try simp only [Int.cast_ofNat_Int, Int.natCast_zero, Int.natCast_one] at c)
  (with_reducible refine c.mono ?_)
  rintro e' w' ⟨rfl, rfl⟩
  refine hK.out _ _ hS (fun hS => ?_)
  clear c
  clear hK K
  try simp only [Act.put, List.setIfInBounds_toArray, List.set_cons_zero, List.set_cons_succ]
  (refine wpAnyH_take (i := 3) (oi := { dst := some 10, op := Op.index 42 (Operand.tmp 7) (Operand.tmp 9), type := 41, pos := "rvc.go:12", after := #[{ on := 0, ground := Ground.data }, { on := 2, ground := Ground.data }], guard := none }) (v := ?_) rfl (by kernel_rfl) (by kernel_rfl) (by kernel_rfl) (fun _ _ _ h => h) (Or.inl ⟨by rfl, ?_⟩) hS ?_; rotate_left; focus (intro w' hSw; go_simp <;> try with_reducible rfl))
  try simp only [Act.put, List.setIfInBounds_toArray, List.set_cons_zero, List.set_cons_succ]
  refine wpAnyH_ready (rs := [5]) (by kernel_rfl) (by simp) ?_
  refine AllReadyH.cons (o := { dst := some 12, op := Op.call { callee := Callee.value (Operand.func 16), args := #[Operand.tmp 11], argTypes := #[38] }, type := 22, pos := "rvc.go:12", after := #[{ on := 4, ground := Ground.data }, { on := 2, ground := Ground.chain }], guard := none }) rfl (fun K hK => ?_) AllReadyH.nil
  refine take_if (by rfl) ?_
  go_simp
  have c := vhigh_w x hx g1
  rw [HH.out] at c
  (try simp only [Int.cast_ofNat_Int, Int.natCast_zero, Int.natCast_one] at c)
  (with_reducible refine c.mono ?_)
  rintro e' w' ⟨rfl, rfl⟩
  refine hK.out _ _ hS (fun hS => ?_)
  clear c
  clear hK K
  try simp only [Act.put, List.setIfInBounds_toArray, List.set_cons_zero, List.set_cons_succ]
  (refine wpAnyH_take (i := 6) (oi := { dst := some 13, op := Op.index 41 (Operand.tmp 10) (Operand.tmp 12), type := 40, pos := "rvc.go:12", after := #[{ on := 3, ground := Ground.data }, { on := 5, ground := Ground.data }], guard := none }) (v := ?_) rfl (by kernel_rfl) (by kernel_rfl) (by kernel_rfl) (fun _ _ _ h => h) (Or.inl ⟨by rfl, ?_⟩) hS ?_; rotate_left; focus (intro w' hSw; go_simp <;> try with_reducible rfl))
  try simp only [Act.put, List.setIfInBounds_toArray, List.set_cons_zero, List.set_cons_succ]
  (refine wpAnyH_take (i := 7) (oi := { dst := some 5, op := Op.assign (Operand.tmp 13), type := 40, pos := "rvc.go:12", after := #[{ on := 6, ground := Ground.data }, { on := 5, ground := Ground.chain }, { on := 0, ground := Ground.phase }, { on := 1, ground := Ground.phase }, { on := 2, ground := Ground.phase }, { on := 3, ground := Ground.phase }, { on := 4, ground := Ground.phase }, { on := 5, ground := Ground.phase }, { on := 6, ground := Ground.phase }], guard := none }) (v := ?_) rfl (by kernel_rfl) (by kernel_rfl) (by kernel_rfl) (fun _ _ _ h => h) (Or.inl ⟨by rfl, ?_⟩) hS ?_; rotate_left; focus (intro w' hSw; go_simp <;> try with_reducible rfl))
  try simp only [Act.put, List.setIfInBounds_toArray, List.set_cons_zero, List.set_cons_succ]
  refine wpAnyH_done (by kernel_rfl) ?_ _
  have HS := Lib.hid hS
  clear hS
  cases v
  · go_wp2_with (go_at_call 34; have c := r_move x hx g1 TG.out; rw [HV.out] at c; dsimp only [VR] at c; with_reducible refine c.mono ?_; rintro e' w1 ⟨rfl, rfl⟩)
    go_ret2
    exact ⟨rfl, HS.out⟩
  · go_wp2_with (go_at_call 34; have c := r_move x hx g1 TG.out; rw [HV.out] at c; dsimp only [VR] at c; with_reducible refine c.mono ?_; rintro e' w1 ⟨rfl, rfl⟩)
    go_ret2
    exact ⟨rfl, HS.out⟩
set_option maxHeartbeats 4000000 in
set_option maxRecDepth 4000 in
theorem exp_2_5 (x : Nat) (hx : x < 65536) (w : World) (tb : Tb w) (hl : x % 4 = 2) (hh : x / 8192 = 5) :
    Calls Tryd.prog 8 #[.int .u16 (x : Int)] w fun e w' => e = .returned (VR (ex x)) ∧ Kp w w' := by
  have e : ex x = none := by simp [ex, hl, hh, row]
  rw [e]
  have TB := Lib.hid tb
  have HL := Lib.hid hl
  have HH := Lib.hid hh
  clear e tb hl hh
  go_enter Tryd.func8, Tryd.ntmps8
  go_wp2
  refine wp_region_held_drew (S := fun w' => Kp w w') (by kernel_rfl) (Kp.refl w).drew (fun hS => ?_)
  generalize hgw : w.drew = g0 at hS ⊢
  clear hgw
  try simp only [Act.put, List.setIfInBounds_toArray, List.set_cons_zero, List.set_cons_succ]
  (refine wpAnyH_take (i := 1) (oi := { dst := some 8, op := Op.move (Operand.tmp 4), type := 38, pos := "rvc.go:12", after := #[], guard := none }) (v := ?_) rfl (by kernel_rfl) (by kernel_rfl) (by kernel_rfl) (fun _ _ _ h => h) (Or.inl ⟨by rfl, ?_⟩) hS ?_; rotate_left; focus (intro w' hSw; go_simp <;> try with_reducible rfl))
  try simp only [Act.put, List.setIfInBounds_toArray, List.set_cons_zero, List.set_cons_succ]
  (refine wpAnyH_take (i := 4) (oi := { dst := some 11, op := Op.move (Operand.tmp 4), type := 38, pos := "rvc.go:12", after := #[], guard := none }) (v := ?_) rfl (by kernel_rfl) (by kernel_rfl) (by kernel_rfl) (fun _ _ _ h => h) (Or.inl ⟨by rfl, ?_⟩) hS ?_; rotate_left; focus (intro w' hSw; go_simp <;> try with_reducible rfl))
  try simp only [Act.put, List.setIfInBounds_toArray, List.set_cons_zero, List.set_cons_succ]
  refine wpAnyH_ready (rs := [0]) (by kernel_rfl) (by simp) ?_
  refine AllReadyH.cons (o := { dst := some 7, op := Op.call { callee := Callee.value (Operand.func 14), args := #[], argTypes := #[] }, type := 42, pos := "rvc.go:12", after := #[], guard := none }) rfl (fun K hK => ?_) AllReadyH.nil
  refine take_if (by rfl) ?_
  go_simp
  (with_reducible refine (rows_w g0).mono ?_)
  rintro e' g1 ⟨b0, b1, b2, b3, b4, b5, b6, b7, b8, b9, b10, b11, b12, b13, b14, b15, b16, b17, rfl, qk, rc⟩
  refine hK.out _ _ (hS.trans qk) (fun hS => ?_)
  clear qk
  clear hK K
  try simp only [Act.put, List.setIfInBounds_toArray, List.set_cons_zero, List.set_cons_succ]
  have hI1 : ∀ w, (Instr.index 42 (.agg (rowsA b0 b1 b2 b3 b4 b5 b6 b7 b8 b9 b10 b11 b12 b13 b14 b15 b16 b17)) (.int .u32 2)).run Tryd.prog w = .ok (.agg #[.func (.func 32) #[] #[], .nilFunc, .func (.func 71) #[] #[.pointer (some ⟨b10, 0, none⟩), .pointer (some ⟨b11, 0, none⟩)], .func (.func 71) #[] #[.pointer (some ⟨b12, 0, none⟩), .pointer (some ⟨b13, 0, none⟩)], .func (.func 34) #[] #[], .nilFunc, .func (.func 75) #[] #[.pointer (some ⟨b14, 0, none⟩), .pointer (some ⟨b15, 0, none⟩)], .func (.func 75) #[] #[.pointer (some ⟨b16, 0, none⟩), .pointer (some ⟨b17, 0, none⟩)]]) w := fun _ => by kernel_rfl
  have hI2 : ∀ w, (Instr.index 41 (.agg #[.func (.func 32) #[] #[], .nilFunc, .func (.func 71) #[] #[.pointer (some ⟨b10, 0, none⟩), .pointer (some ⟨b11, 0, none⟩)], .func (.func 71) #[] #[.pointer (some ⟨b12, 0, none⟩), .pointer (some ⟨b13, 0, none⟩)], .func (.func 34) #[] #[], .nilFunc, .func (.func 75) #[] #[.pointer (some ⟨b14, 0, none⟩), .pointer (some ⟨b15, 0, none⟩)], .func (.func 75) #[] #[.pointer (some ⟨b16, 0, none⟩), .pointer (some ⟨b17, 0, none⟩)]]) (.int .u32 5)).run Tryd.prog w = .ok (.nilFunc) w := fun _ => by kernel_rfl
  have hE : ∀ w, (binOp .eql 40 (.nilFunc) .nilFunc).run Tryd.prog w = .ok (.bool true) w := fun _ => by kernel_rfl
  have TG := Lib.hid (TB.out.kp hS)
  clear rc
  refine wpAnyH_ready (rs := [2]) (by kernel_rfl) (by simp) ?_
  refine AllReadyH.cons (o := { dst := some 9, op := Op.call { callee := Callee.value (Operand.func 15), args := #[Operand.tmp 8], argTypes := #[38] }, type := 22, pos := "rvc.go:12", after := #[{ on := 1, ground := Ground.data }, { on := 0, ground := Ground.chain }], guard := none }) rfl (fun K hK => ?_) AllReadyH.nil
  refine take_if (by rfl) ?_
  go_simp
  have c := vlow_w x hx g1
  rw [HL.out] at c
  (try simp only [Int.cast_ofNat_Int, Int.natCast_zero, Int.natCast_one] at c)
  (with_reducible refine c.mono ?_)
  rintro e' w' ⟨rfl, rfl⟩
  refine hK.out _ _ hS (fun hS => ?_)
  clear c
  clear hK K
  try simp only [Act.put, List.setIfInBounds_toArray, List.set_cons_zero, List.set_cons_succ]
  (refine wpAnyH_take (i := 3) (oi := { dst := some 10, op := Op.index 42 (Operand.tmp 7) (Operand.tmp 9), type := 41, pos := "rvc.go:12", after := #[{ on := 0, ground := Ground.data }, { on := 2, ground := Ground.data }], guard := none }) (v := ?_) rfl (by kernel_rfl) (by kernel_rfl) (by kernel_rfl) (fun _ _ _ h => h) (Or.inl ⟨by rfl, ?_⟩) hS ?_; rotate_left; focus (intro w' hSw; go_simp <;> try with_reducible rfl))
  try simp only [Act.put, List.setIfInBounds_toArray, List.set_cons_zero, List.set_cons_succ]
  refine wpAnyH_ready (rs := [5]) (by kernel_rfl) (by simp) ?_
  refine AllReadyH.cons (o := { dst := some 12, op := Op.call { callee := Callee.value (Operand.func 16), args := #[Operand.tmp 11], argTypes := #[38] }, type := 22, pos := "rvc.go:12", after := #[{ on := 4, ground := Ground.data }, { on := 2, ground := Ground.chain }], guard := none }) rfl (fun K hK => ?_) AllReadyH.nil
  refine take_if (by rfl) ?_
  go_simp
  have c := vhigh_w x hx g1
  rw [HH.out] at c
  (try simp only [Int.cast_ofNat_Int, Int.natCast_zero, Int.natCast_one] at c)
  (with_reducible refine c.mono ?_)
  rintro e' w' ⟨rfl, rfl⟩
  refine hK.out _ _ hS (fun hS => ?_)
  clear c
  clear hK K
  try simp only [Act.put, List.setIfInBounds_toArray, List.set_cons_zero, List.set_cons_succ]
  (refine wpAnyH_take (i := 6) (oi := { dst := some 13, op := Op.index 41 (Operand.tmp 10) (Operand.tmp 12), type := 40, pos := "rvc.go:12", after := #[{ on := 3, ground := Ground.data }, { on := 5, ground := Ground.data }], guard := none }) (v := ?_) rfl (by kernel_rfl) (by kernel_rfl) (by kernel_rfl) (fun _ _ _ h => h) (Or.inl ⟨by rfl, ?_⟩) hS ?_; rotate_left; focus (intro w' hSw; go_simp <;> try with_reducible rfl))
  try simp only [Act.put, List.setIfInBounds_toArray, List.set_cons_zero, List.set_cons_succ]
  (refine wpAnyH_take (i := 7) (oi := { dst := some 5, op := Op.assign (Operand.tmp 13), type := 40, pos := "rvc.go:12", after := #[{ on := 6, ground := Ground.data }, { on := 5, ground := Ground.chain }, { on := 0, ground := Ground.phase }, { on := 1, ground := Ground.phase }, { on := 2, ground := Ground.phase }, { on := 3, ground := Ground.phase }, { on := 4, ground := Ground.phase }, { on := 5, ground := Ground.phase }, { on := 6, ground := Ground.phase }], guard := none }) (v := ?_) rfl (by kernel_rfl) (by kernel_rfl) (by kernel_rfl) (fun _ _ _ h => h) (Or.inl ⟨by rfl, ?_⟩) hS ?_; rotate_left; focus (intro w' hSw; go_simp <;> try with_reducible rfl))
  try simp only [Act.put, List.setIfInBounds_toArray, List.set_cons_zero, List.set_cons_succ]
  refine wpAnyH_done (by kernel_rfl) ?_ _
  have HS := Lib.hid hS
  clear hS
  go_wp2
  go_ret2
  exact ⟨rfl, HS.out⟩
set_option maxHeartbeats 4000000 in
set_option maxRecDepth 4000 in
theorem exp_2_6 (x : Nat) (hx : x < 65536) (w : World) (tb : Tb w) (hl : x % 4 = 2) (hh : x / 8192 = 6) :
    Calls Tryd.prog 8 #[.int .u16 (x : Int)] w fun e w' => e = .returned (VR (ex x)) ∧ Kp w w' := by
  have e : ex x = (rStackStore 2 8) x := by simp [ex, hl, hh, row]
  rw [e]
  have TB := Lib.hid tb
  have HL := Lib.hid hl
  have HH := Lib.hid hh
  clear e tb hl hh
  generalize hv : (rStackStore 2 8) x = v
  have HV := Lib.hid hv
  clear hv
  go_enter Tryd.func8, Tryd.ntmps8
  go_wp2
  refine wp_region_held_drew (S := fun w' => Kp w w') (by kernel_rfl) (Kp.refl w).drew (fun hS => ?_)
  generalize hgw : w.drew = g0 at hS ⊢
  clear hgw
  try simp only [Act.put, List.setIfInBounds_toArray, List.set_cons_zero, List.set_cons_succ]
  (refine wpAnyH_take (i := 1) (oi := { dst := some 8, op := Op.move (Operand.tmp 4), type := 38, pos := "rvc.go:12", after := #[], guard := none }) (v := ?_) rfl (by kernel_rfl) (by kernel_rfl) (by kernel_rfl) (fun _ _ _ h => h) (Or.inl ⟨by rfl, ?_⟩) hS ?_; rotate_left; focus (intro w' hSw; go_simp <;> try with_reducible rfl))
  try simp only [Act.put, List.setIfInBounds_toArray, List.set_cons_zero, List.set_cons_succ]
  (refine wpAnyH_take (i := 4) (oi := { dst := some 11, op := Op.move (Operand.tmp 4), type := 38, pos := "rvc.go:12", after := #[], guard := none }) (v := ?_) rfl (by kernel_rfl) (by kernel_rfl) (by kernel_rfl) (fun _ _ _ h => h) (Or.inl ⟨by rfl, ?_⟩) hS ?_; rotate_left; focus (intro w' hSw; go_simp <;> try with_reducible rfl))
  try simp only [Act.put, List.setIfInBounds_toArray, List.set_cons_zero, List.set_cons_succ]
  refine wpAnyH_ready (rs := [0]) (by kernel_rfl) (by simp) ?_
  refine AllReadyH.cons (o := { dst := some 7, op := Op.call { callee := Callee.value (Operand.func 14), args := #[], argTypes := #[] }, type := 42, pos := "rvc.go:12", after := #[], guard := none }) rfl (fun K hK => ?_) AllReadyH.nil
  refine take_if (by rfl) ?_
  go_simp
  (with_reducible refine (rows_w g0).mono ?_)
  rintro e' g1 ⟨b0, b1, b2, b3, b4, b5, b6, b7, b8, b9, b10, b11, b12, b13, b14, b15, b16, b17, rfl, qk, rc⟩
  refine hK.out _ _ (hS.trans qk) (fun hS => ?_)
  clear qk
  clear hK K
  try simp only [Act.put, List.setIfInBounds_toArray, List.set_cons_zero, List.set_cons_succ]
  have hI1 : ∀ w, (Instr.index 42 (.agg (rowsA b0 b1 b2 b3 b4 b5 b6 b7 b8 b9 b10 b11 b12 b13 b14 b15 b16 b17)) (.int .u32 2)).run Tryd.prog w = .ok (.agg #[.func (.func 32) #[] #[], .nilFunc, .func (.func 71) #[] #[.pointer (some ⟨b10, 0, none⟩), .pointer (some ⟨b11, 0, none⟩)], .func (.func 71) #[] #[.pointer (some ⟨b12, 0, none⟩), .pointer (some ⟨b13, 0, none⟩)], .func (.func 34) #[] #[], .nilFunc, .func (.func 75) #[] #[.pointer (some ⟨b14, 0, none⟩), .pointer (some ⟨b15, 0, none⟩)], .func (.func 75) #[] #[.pointer (some ⟨b16, 0, none⟩), .pointer (some ⟨b17, 0, none⟩)]]) w := fun _ => by kernel_rfl
  have hI2 : ∀ w, (Instr.index 41 (.agg #[.func (.func 32) #[] #[], .nilFunc, .func (.func 71) #[] #[.pointer (some ⟨b10, 0, none⟩), .pointer (some ⟨b11, 0, none⟩)], .func (.func 71) #[] #[.pointer (some ⟨b12, 0, none⟩), .pointer (some ⟨b13, 0, none⟩)], .func (.func 34) #[] #[], .nilFunc, .func (.func 75) #[] #[.pointer (some ⟨b14, 0, none⟩), .pointer (some ⟨b15, 0, none⟩)], .func (.func 75) #[] #[.pointer (some ⟨b16, 0, none⟩), .pointer (some ⟨b17, 0, none⟩)]]) (.int .u32 6)).run Tryd.prog w = .ok (.func (.func 75) #[] #[.pointer (some ⟨b14, 0, none⟩), .pointer (some ⟨b15, 0, none⟩)]) w := fun _ => by kernel_rfl
  have hE : ∀ w, (binOp .eql 40 (.func (.func 75) #[] #[.pointer (some ⟨b14, 0, none⟩), .pointer (some ⟨b15, 0, none⟩)]) .nilFunc).run Tryd.prog w = .ok (.bool false) w := fun _ => by kernel_rfl
  have db14 := rc.c14
  have db15 := rc.c15
  have TG := Lib.hid (TB.out.kp hS)
  clear rc
  refine wpAnyH_ready (rs := [2]) (by kernel_rfl) (by simp) ?_
  refine AllReadyH.cons (o := { dst := some 9, op := Op.call { callee := Callee.value (Operand.func 15), args := #[Operand.tmp 8], argTypes := #[38] }, type := 22, pos := "rvc.go:12", after := #[{ on := 1, ground := Ground.data }, { on := 0, ground := Ground.chain }], guard := none }) rfl (fun K hK => ?_) AllReadyH.nil
  refine take_if (by rfl) ?_
  go_simp
  have c := vlow_w x hx g1
  rw [HL.out] at c
  (try simp only [Int.cast_ofNat_Int, Int.natCast_zero, Int.natCast_one] at c)
  (with_reducible refine c.mono ?_)
  rintro e' w' ⟨rfl, rfl⟩
  refine hK.out _ _ hS (fun hS => ?_)
  clear c
  clear hK K
  try simp only [Act.put, List.setIfInBounds_toArray, List.set_cons_zero, List.set_cons_succ]
  (refine wpAnyH_take (i := 3) (oi := { dst := some 10, op := Op.index 42 (Operand.tmp 7) (Operand.tmp 9), type := 41, pos := "rvc.go:12", after := #[{ on := 0, ground := Ground.data }, { on := 2, ground := Ground.data }], guard := none }) (v := ?_) rfl (by kernel_rfl) (by kernel_rfl) (by kernel_rfl) (fun _ _ _ h => h) (Or.inl ⟨by rfl, ?_⟩) hS ?_; rotate_left; focus (intro w' hSw; go_simp <;> try with_reducible rfl))
  try simp only [Act.put, List.setIfInBounds_toArray, List.set_cons_zero, List.set_cons_succ]
  refine wpAnyH_ready (rs := [5]) (by kernel_rfl) (by simp) ?_
  refine AllReadyH.cons (o := { dst := some 12, op := Op.call { callee := Callee.value (Operand.func 16), args := #[Operand.tmp 11], argTypes := #[38] }, type := 22, pos := "rvc.go:12", after := #[{ on := 4, ground := Ground.data }, { on := 2, ground := Ground.chain }], guard := none }) rfl (fun K hK => ?_) AllReadyH.nil
  refine take_if (by rfl) ?_
  go_simp
  have c := vhigh_w x hx g1
  rw [HH.out] at c
  (try simp only [Int.cast_ofNat_Int, Int.natCast_zero, Int.natCast_one] at c)
  (with_reducible refine c.mono ?_)
  rintro e' w' ⟨rfl, rfl⟩
  refine hK.out _ _ hS (fun hS => ?_)
  clear c
  clear hK K
  try simp only [Act.put, List.setIfInBounds_toArray, List.set_cons_zero, List.set_cons_succ]
  (refine wpAnyH_take (i := 6) (oi := { dst := some 13, op := Op.index 41 (Operand.tmp 10) (Operand.tmp 12), type := 40, pos := "rvc.go:12", after := #[{ on := 3, ground := Ground.data }, { on := 5, ground := Ground.data }], guard := none }) (v := ?_) rfl (by kernel_rfl) (by kernel_rfl) (by kernel_rfl) (fun _ _ _ h => h) (Or.inl ⟨by rfl, ?_⟩) hS ?_; rotate_left; focus (intro w' hSw; go_simp <;> try with_reducible rfl))
  try simp only [Act.put, List.setIfInBounds_toArray, List.set_cons_zero, List.set_cons_succ]
  (refine wpAnyH_take (i := 7) (oi := { dst := some 5, op := Op.assign (Operand.tmp 13), type := 40, pos := "rvc.go:12", after := #[{ on := 6, ground := Ground.data }, { on := 5, ground := Ground.chain }, { on := 0, ground := Ground.phase }, { on := 1, ground := Ground.phase }, { on := 2, ground := Ground.phase }, { on := 3, ground := Ground.phase }, { on := 4, ground := Ground.phase }, { on := 5, ground := Ground.phase }, { on := 6, ground := Ground.phase }], guard := none }) (v := ?_) rfl (by kernel_rfl) (by kernel_rfl) (by kernel_rfl) (fun _ _ _ h => h) (Or.inl ⟨by rfl, ?_⟩) hS ?_; rotate_left; focus (intro w' hSw; go_simp <;> try with_reducible rfl))
  try simp only [Act.put, List.setIfInBounds_toArray, List.set_cons_zero, List.set_cons_succ]
  refine wpAnyH_done (by kernel_rfl) ?_ _
  have HS := Lib.hid hS
  clear hS
  cases v
  · go_wp2_with (go_at_call 75; have c := r_stackStore x hx b14 b15 2 8 (by decide) (by decide) g1 TG.out db14 db15; rw [HV.out] at c; dsimp only [VR] at c; with_reducible refine c.mono ?_; rintro e' w1 ⟨rfl, q1⟩)
    go_ret2
    exact ⟨rfl, HS.out.trans q1.kp⟩
  · go_wp2_with (go_at_call 75; have c := r_stackStore x hx b14 b15 2 8 (by decide) (by decide) g1 TG.out db14 db15; rw [HV.out] at c; dsimp only [VR] at c; with_reducible refine c.mono ?_; rintro e' w1 ⟨rfl, q1⟩)
    go_ret2
    exact ⟨rfl, HS.out.trans q1.kp⟩
set_option maxHeartbeats 4000000 in
set_option maxRecDepth 4000 in
theorem exp_2_7 (x : Nat) (hx : x < 65536) (w : World) (tb : Tb w) (hl : x % 4 = 2) (hh : x / 8192 = 7) :
    Calls Tryd.prog 8 #[.int .u16 (x : Int)] w fun e w' => e = .returned (VR (ex x)) ∧ Kp w w' := by
  have e : ex x = (rStackStore 3 9) x := by simp [ex, hl, hh, row]
  rw [e]
  have TB := Lib.hid tb
  have HL := Lib.hid hl
  have HH := Lib.hid hh
  clear e tb hl hh
  generalize hv : (rStackStore 3 9) x = v
  have HV := Lib.hid hv
  clear hv
  go_enter Tryd.func8, Tryd.ntmps8
  go_wp2
  refine wp_region_held_drew (S := fun w' => Kp w w') (by kernel_rfl) (Kp.refl w).drew (fun hS => ?_)
  generalize hgw : w.drew = g0 at hS ⊢
  clear hgw
  try simp only [Act.put, List.setIfInBounds_toArray, List.set_cons_zero, List.set_cons_succ]
  (refine wpAnyH_take (i := 1) (oi := { dst := some 8, op := Op.move (Operand.tmp 4), type := 38, pos := "rvc.go:12", after := #[], guard := none }) (v := ?_) rfl (by kernel_rfl) (by kernel_rfl) (by kernel_rfl) (fun _ _ _ h => h) (Or.inl ⟨by rfl, ?_⟩) hS ?_; rotate_left; focus (intro w' hSw; go_simp <;> try with_reducible rfl))
  try simp only [Act.put, List.setIfInBounds_toArray, List.set_cons_zero, List.set_cons_succ]
  (refine wpAnyH_take (i := 4) (oi := { dst := some 11, op := Op.move (Operand.tmp 4), type := 38, pos := "rvc.go:12", after := #[], guard := none }) (v := ?_) rfl (by kernel_rfl) (by kernel_rfl) (by kernel_rfl) (fun _ _ _ h => h) (Or.inl ⟨by rfl, ?_⟩) hS ?_; rotate_left; focus (intro w' hSw; go_simp <;> try with_reducible rfl))
  try simp only [Act.put, List.setIfInBounds_toArray, List.set_cons_zero, List.set_cons_succ]
  refine wpAnyH_ready (rs := [0]) (by kernel_rfl) (by simp) ?_
  refine AllReadyH.cons (o := { dst := some 7, op := Op.call { callee := Callee.value (Operand.func 14), args := #[], argTypes := #[] }, type := 42, pos := "rvc.go:12", after := #[], guard := none }) rfl (fun K hK => ?_) AllReadyH.nil
  refine take_if (by rfl) ?_
  go_simp
  (with_reducible refine (rows_w g0).mono ?_)
  rintro e' g1 ⟨b0, b1, b2, b3, b4, b5, b6, b7, b8, b9, b10, b11, b12, b13, b14, b15, b16, b17, rfl, qk, rc⟩
  refine hK.out _ _ (hS.trans qk) (fun hS => ?_)
  clear qk
  clear hK K
  try simp only [Act.put, List.setIfInBounds_toArray, List.set_cons_zero, List.set_cons_succ]
  have hI1 : ∀ w, (Instr.index 42 (.agg (rowsA b0 b1 b2 b3 b4 b5 b6 b7 b8 b9 b10 b11 b12 b13 b14 b15 b16 b17)) (.int .u32 2)).run Tryd.prog w = .ok (.agg #[.func (.func 32) #[] #[], .nilFunc, .func (.func 71) #[] #[.pointer (some ⟨b10, 0, none⟩), .pointer (some ⟨b11, 0, none⟩)], .func (.func 71) #[] #[.pointer (some ⟨b12, 0, none⟩), .pointer (some ⟨b13, 0, none⟩)], .func (.func 34) #[] #[], .nilFunc, .func (.func 75) #[] #[.pointer (some ⟨b14, 0, none⟩), .pointer (some ⟨b15, 0, none⟩)], .func (.func 75) #[] #[.pointer (some ⟨b16, 0, none⟩), .pointer (some ⟨b17, 0, none⟩)]]) w := fun _ => by kernel_rfl
  have hI2 : ∀ w, (Instr.index 41 (.agg #[.func (.func 32) #[] #[], .nilFunc, .func (.func 71) #[] #[.pointer (some ⟨b10, 0, none⟩), .pointer (some ⟨b11, 0, none⟩)], .func (.func 71) #[] #[.pointer (some ⟨b12, 0, none⟩), .pointer (some ⟨b13, 0, none⟩)], .func (.func 34) #[] #[], .nilFunc, .func (.func 75) #[] #[.pointer (some ⟨b14, 0, none⟩), .pointer (some ⟨b15, 0, none⟩)], .func (.func 75) #[] #[.pointer (some ⟨b16, 0, none⟩), .pointer (some ⟨b17, 0, none⟩)]]) (.int .u32 7)).run Tryd.prog w = .ok (.func (.func 75) #[] #[.pointer (some ⟨b16, 0, none⟩), .pointer (some ⟨b17, 0, none⟩)]) w := fun _ => by kernel_rfl
  have hE : ∀ w, (binOp .eql 40 (.func (.func 75) #[] #[.pointer (some ⟨b16, 0, none⟩), .pointer (some ⟨b17, 0, none⟩)]) .nilFunc).run Tryd.prog w = .ok (.bool false) w := fun _ => by kernel_rfl
  have db16 := rc.c16
  have db17 := rc.c17
  have TG := Lib.hid (TB.out.kp hS)
  clear rc
  refine wpAnyH_ready (rs := [2]) (by kernel_rfl) (by simp) ?_
  refine AllReadyH.cons (o := { dst := some 9, op := Op.call { callee := Callee.value (Operand.func 15), args := #[Operand.tmp 8], argTypes := #[38] }, type := 22, pos := "rvc.go:12", after := #[{ on := 1, ground := Ground.data }, { on := 0, ground := Ground.chain }], guard := none }) rfl (fun K hK => ?_) AllReadyH.nil
  refine take_if (by rfl) ?_
  go_simp
  have c := vlow_w x hx g1
  rw [HL.out] at c
  (try simp only [Int.cast_ofNat_Int, Int.natCast_zero, Int.natCast_one] at c)
  (with_reducible refine c.mono ?_)
  rintro e' w' ⟨rfl, rfl⟩
  refine hK.out _ _ hS (fun hS => ?_)
  clear c
  clear hK K
  try simp only [Act.put, List.setIfInBounds_toArray, List.set_cons_zero, List.set_cons_succ]
  (refine wpAnyH_take (i := 3) (oi := { dst := some 10, op := Op.index 42 (Operand.tmp 7) (Operand.tmp 9), type := 41, pos := "rvc.go:12", after := #[{ on := 0, ground := Ground.data }, { on := 2, ground := Ground.data }], guard := none }) (v := ?_) rfl (by kernel_rfl) (by kernel_rfl) (by kernel_rfl) (fun _ _ _ h => h) (Or.inl ⟨by rfl, ?_⟩) hS ?_; rotate_left; focus (intro w' hSw; go_simp <;> try with_reducible rfl))
  try simp only [Act.put, List.setIfInBounds_toArray, List.set_cons_zero, List.set_cons_succ]
  refine wpAnyH_ready (rs := [5]) (by kernel_rfl) (by simp) ?_
  refine AllReadyH.cons (o := { dst := some 12, op := Op.call { callee := Callee.value (Operand.func 16), args := #[Operand.tmp 11], argTypes := #[38] }, type := 22, pos := "rvc.go:12", after := #[{ on := 4, ground := Ground.data }, { on := 2, ground := Ground.chain }], guard := none }) rfl (fun K hK => ?_) AllReadyH.nil
  refine take_if (by rfl) ?_
  go_simp
  have c := vhigh_w x hx g1
  rw [HH.out] at c
  (try simp only [Int.cast_ofNat_Int, Int.natCast_zero, Int.natCast_one] at c)
  (with_reducible refine c.mono ?_)
  rintro e' w' ⟨rfl, rfl⟩
  refine hK.out _ _ hS (fun hS => ?_)
  clear c
  clear hK K
  try simp only [Act.put, List.setIfInBounds_toArray, List.set_cons_zero, List.set_cons_succ]
  (refine wpAnyH_take (i := 6) (oi := { dst := some 13, op := Op.index 41 (Operand.tmp 10) (Operand.tmp 12), type := 40, pos := "rvc.go:12", after := #[{ on := 3, ground := Ground.data }, { on := 5, ground := Ground.data }], guard := none }) (v := ?_) rfl (by kernel_rfl) (by kernel_rfl) (by kernel_rfl) (fun _ _ _ h => h) (Or.inl ⟨by rfl, ?_⟩) hS ?_; rotate_left; focus (intro w' hSw; go_simp <;> try with_reducible rfl))
  try simp only [Act.put, List.setIfInBounds_toArray, List.set_cons_zero, List.set_cons_succ]
  (refine wpAnyH_take (i := 7) (oi := { dst := some 5, op := Op.assign (Operand.tmp 13), type := 40, pos := "rvc.go:12", after := #[{ on := 6, ground := Ground.data }, { on := 5, ground := Ground.chain }, { on := 0, ground := Ground.phase }, { on := 1, ground := Ground.phase }, { on := 2, ground := Ground.phase }, { on := 3, ground := Ground.phase }, { on := 4, ground := Ground.phase }, { on := 5, ground := Ground.phase }, { on := 6, ground := Ground.phase }], guard := none }) (v := ?_) rfl (by kernel_rfl) (by kernel_rfl) (by kernel_rfl) (fun _ _ _ h => h) (Or.inl ⟨by rfl, ?_⟩) hS ?_; rotate_left; focus (intro w' hSw; go_simp <;> try with_reducible rfl))
  try simp only [Act.put, List.setIfInBounds_toArray, List.set_cons_zero, List.set_cons_succ]
  refine wpAnyH_done (by kernel_rfl) ?_ _
  have HS := Lib.hid hS
  clear hS
  cases v
  · go_wp2_with (go_at_call 75; have c := r_stackStore x hx b16 b17 3 9 (by decide) (by decide) g1 TG.out db16 db17; rw [HV.out] at c; dsimp only [VR] at c; with_reducible refine c.mono ?_; rintro e' w1 ⟨rfl, q1⟩)
    go_ret2
    exact ⟨rfl, HS.out.trans q1.kp⟩
  · go_wp2_with (go_at_call 75; have c := r_stackStore x hx b16 b17 3 9 (by decide) (by decide) g1 TG.out db16 db17; rw [HV.out] at c; dsimp only [VR] at c; with_reducible refine c.mono ?_; rintro e' w1 ⟨rfl, q1⟩)
    go_ret2
    exact ⟨rfl, HS.out.trans q1.kp⟩
end Go.Proofs.YtlfeandnpflaaaaDoor
