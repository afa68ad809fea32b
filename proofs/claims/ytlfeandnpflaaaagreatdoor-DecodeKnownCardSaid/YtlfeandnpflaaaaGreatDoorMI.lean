/-
  Contracts of capdec's word (its fields, its numbers); what a word of layer 9 is, as the document says it, as a function on numbers. No condition.
  Contracts of capdec's readers: loads and stores by a capability. No condition.
-/
import Derived.Test.YtlfeandnpflaaaaGreatDoorMB
import Derived.WalkMore
namespace Go.Proofs.YtlfeandnpflaaaaGreatDoor
open Go.ChangeShapes Go.WideShapes Go.ChangeAt Go.RowKit
set_option linter.unusedVariables false
set_option linter.unusedSimpArgs false

theorem wrapsu (n : Int) (h0 : 0 ≤ n) (h1 : n < 2 ^ 32) : IntKind.u32.wrap n = n := by rw [IntKind.wrap_u32]; omega
theorem andu (k : Nat) (m n : Int) (hm : (2 : Int) ^ k = m) (hn : n + 1 = m) (hk : k ≤ 32) (x : Int) (h0 : 0 ≤ x) (h1 : x < 4294967296) : bits .and .u32 x n = x % m := by
  have e : n = 2 ^ k - 1 := by omega
  subst hm e; exact bits_mask .u32 32 (by decide) wrapsu k hk x h0 (by omega)
theorem dop_w (x : Int) (x0 : 0 ≤ x) (x1 : x < 4294967296) (w : World) :
    Calls Tryz.prog 85 #[.int .u32 x] w fun e w' => e = .returned (.int .i64 (fl x 1 128)) ∧ w = w' := by
  go_enter Tryz.func85, Tryz.ntmps85
  go_wp2
  go_ret
  exact ⟨ret_int (by unfold fl; first | (rw [andu 7 128 127 (by decide) (by omega) (by omega) _ (by omega) (by omega)]; unfold wrap64; omega) | rw [andu 7 128 127 (by decide) (by omega) (by omega) _ (by omega) (by omega), Int.ediv_one]; unfold wrap64; omega), rfl⟩
theorem drd_w (x : Int) (x0 : 0 ≤ x) (x1 : x < 4294967296) (w : World) :
    Calls Tryz.prog 86 #[.int .u32 x] w fun e w' => e = .returned (.int .i64 (fl x 128 32)) ∧ w = w' := by
  go_enter Tryz.func86, Tryz.ntmps86
  go_wp2
  go_ret
  exact ⟨ret_int (by unfold fl; first | (rw [andu 5 32 31 (by decide) (by omega) (by omega) _ (by omega) (by omega)]; unfold wrap64; omega) | rw [andu 5 32 31 (by decide) (by omega) (by omega) _ (by omega) (by omega), Int.ediv_one]; unfold wrap64; omega), rfl⟩
theorem df3_w (x : Int) (x0 : 0 ≤ x) (x1 : x < 4294967296) (w : World) :
    Calls Tryz.prog 89 #[.int .u32 x] w fun e w' => e = .returned (.int .i64 (fl x 4096 8)) ∧ w = w' := by
  go_enter Tryz.func89, Tryz.ntmps89
  go_wp2
  go_ret
  exact ⟨ret_int (by unfold fl; first | (rw [andu 3 8 7 (by decide) (by omega) (by omega) _ (by omega) (by omega)]; unfold wrap64; omega) | rw [andu 3 8 7 (by decide) (by omega) (by omega) _ (by omega) (by omega), Int.ediv_one]; unfold wrap64; omega), rfl⟩
theorem drs1_w (x : Int) (x0 : 0 ≤ x) (x1 : x < 4294967296) (w : World) :
    Calls Tryz.prog 87 #[.int .u32 x] w fun e w' => e = .returned (.int .i64 (fl x 32768 32)) ∧ w = w' := by
  go_enter Tryz.func87, Tryz.ntmps87
  go_wp2
  go_ret
  exact ⟨ret_int (by unfold fl; first | (rw [andu 5 32 31 (by decide) (by omega) (by omega) _ (by omega) (by omega)]; unfold wrap64; omega) | rw [andu 5 32 31 (by decide) (by omega) (by omega) _ (by omega) (by omega), Int.ediv_one]; unfold wrap64; omega), rfl⟩
theorem drs2_w (x : Int) (x0 : 0 ≤ x) (x1 : x < 4294967296) (w : World) :
    Calls Tryz.prog 90 #[.int .u32 x] w fun e w' => e = .returned (.int .i64 (fl x 1048576 32)) ∧ w = w' := by
  go_enter Tryz.func90, Tryz.ntmps90
  go_wp2
  go_ret
  exact ⟨ret_int (by unfold fl; first | (rw [andu 5 32 31 (by decide) (by omega) (by omega) _ (by omega) (by omega)]; unfold wrap64; omega) | rw [andu 5 32 31 (by decide) (by omega) (by omega) _ (by omega) (by omega), Int.ediv_one]; unfold wrap64; omega), rfl⟩
theorem df7_w (x : Int) (x0 : 0 ≤ x) (x1 : x < 4294967296) (w : World) :
    Calls Tryz.prog 138 #[.int .u32 x] w fun e w' => e = .returned (.int .i64 (fl x 33554432 128)) ∧ w = w' := by
  go_enter Tryz.func138, Tryz.ntmps138
  go_wp2
  go_ret
  exact ⟨ret_int (by unfold fl; first | (rw [andu 7 128 127 (by decide) (by omega) (by omega) _ (by omega) (by omega)]; unfold wrap64; omega) | rw [andu 7 128 127 (by decide) (by omega) (by omega) _ (by omega) (by omega), Int.ediv_one]; unfold wrap64; omega), rfl⟩
theorem dfield_31_20 (x : Int) (x0 : 0 ≤ x) (x1 : x < 4294967296) (w : World) :
    Calls Tryz.prog 133 #[.int .u32 x, .int .u64 31, .int .u64 20] w fun e w' => e = .returned (.int .i64 (fl x 1048576 4096)) ∧ w = w' := by
  go_enter Tryz.func133, Tryz.ntmps133
  go_wp2
  go_ret
  exact ⟨ret_int (by unfold fl; rw [andu 12 4096 4095 (by decide) (by omega) (by omega) _ (by omega) (by omega)]; unfold wrap64; omega), rfl⟩
theorem dimmI_w (x : Int) (x0 : 0 ≤ x) (x1 : x < 4294967296) (w : World) :
    Calls Tryz.prog 88 #[.int .u32 x] w fun e w' => e = .returned (.int .i64 (iI x)) ∧ w = w' := by
  go_enter Tryz.func88, Tryz.ntmps88
  go_wp2
  go_ret
  exact ⟨ret_int (iI_eq x x0 x1), rfl⟩
theorem diS_eq (x : Int) (x0 : 0 ≤ x) (x1 : x < 4294967296) : bits .or .i64 (wrap64 (wrap64 (wrap32 x / 33554432) * 32)) (fl x 128 32) = iS x := by
  rw [← iS_eq x x0 x1, show x * 1048576 % 4294967296 / 134217728 = fl x 128 32 by unfold fl; omega]
theorem dimmS_w (x : Int) (x0 : 0 ≤ x) (x1 : x < 4294967296) (w : World) :
    Calls Tryz.prog 91 #[.int .u32 x] w fun e w' => e = .returned (.int .i64 (iS x)) ∧ w = w' := by
  go_enter Tryz.func91, Tryz.ntmps91
  go_wp2
  go_ret
  exact ⟨ret_int (by rw [andu 5 32 31 (by decide) (by omega) (by omega) _ (by omega) (by omega), show wrap64 (x / 128 % 32) = fl x 128 32 by unfold wrap64 fl; omega]; exact diS_eq x x0 x1), rfl⟩
/-- What may be asked of one; what may be done with two; how may be stored. -/
def getB (n : Int) : Bool := decide (n ≤ 11) || n == 15 || n == 17 || n == 24
def twoB (n : Int) : Bool := n == 8 || n == 9 || n == 11 || n == 12 || n == 13 || n == 14 || n == 15 || n == 16 || n == 17 || n == 18 || n == 19 || n == 20 || n == 29 || n == 30 || n == 32
def stoB (n : Int) : Bool := decide (n ≤ 3) || n == 7 || n == 8 || n == 9 || n == 10 || n == 11 || n == 15
def dsOne (x : Int) : Option Ins := if (fl x 1048576 32) = 12 then some ⟨26, 0, (fl x 128 32), (fl x 32768 32), 0, 0, 0, false, false⟩
  else if getB (fl x 1048576 32) then some ⟨23, (fl x 1048576 32), (fl x 128 32), (fl x 32768 32), 0, 0, 0, false, false⟩ else none
def dsLoad (x : Int) : Option Ins := if (fl x 1048576 32) < 16 then some ⟨28, 0, (fl x 128 32), (fl x 32768 32), 0, 0, (fl x 1048576 32) % 8, false, decide (8 ≤ (fl x 1048576 32))⟩ else none
def dsStore (x : Int) : Option Ins := if stoB (fl x 128 32) then some ⟨29, 0, 0, (fl x 32768 32), (fl x 1048576 32), 0, (fl x 128 32) % 8, false, decide (8 ≤ (fl x 128 32))⟩ else none
def dsReg (x : Int) : Option Ins :=
  if (fl x 33554432 128) = 1 then some ⟨27, 0, (fl x 128 32), (fl x 32768 32), 0, (fl x 1048576 32), 0, false, false⟩
  else if twoB (fl x 33554432 128) then some ⟨24, (fl x 33554432 128), (fl x 128 32), (fl x 32768 32), (fl x 1048576 32), 0, 0, false, false⟩
  else if (fl x 33554432 128) = 124 then dsStore x else if (fl x 33554432 128) = 125 then dsLoad x else if (fl x 33554432 128) = 127 then dsOne x else none
def dsCap (x : Int) : Option Ins :=
  if (fl x 4096 8) = 0 then dsReg x
  else if (fl x 4096 8) = 1 then some ⟨25, 1, (fl x 128 32), (fl x 32768 32), 0, iI x, 0, false, false⟩
  else if (fl x 4096 8) = 2 then some ⟨25, 2, (fl x 128 32), (fl x 32768 32), 0, fl x 1048576 4096, 0, false, false⟩ else none
def dspec (x : Int) : Option Ins :=
  if (fl x 1 128) = 15 then (if (fl x 4096 8) = 2 then some ⟨6, 0, (fl x 128 32), (fl x 32768 32), 0, iI x, 7, false, false⟩ else none)
  else if (fl x 1 128) = 35 then (if (fl x 4096 8) = 4 then some ⟨7, 0, 0, (fl x 32768 32), (fl x 1048576 32), iS x, 7, false, false⟩ else none)
  else if (fl x 1 128) = 91 then dsCap x else none
end Go.Proofs.YtlfeandnpflaaaaGreatDoor
namespace Go.Proofs.YtlfeandnpflaaaaGreatDoor
open Go.ChangeShapes Go.WideShapes Go.ChangeAt Go.RowKit
set_option linter.unusedVariables false
set_option linter.unusedSimpArgs false

set_option maxHeartbeats 4000000 in
theorem dload_w (x : Int) (x0 : 0 ≤ x) (x1 : x < 4294967296) (w : World) :
    Calls Tryz.prog 140 #[.int .u32 x] w fun e w' => RdP e (dsLoad x) ∧ Kp w w' := by
  have brd := fl_bd x 128 32 (by omega)
  have bf3 := fl_bd x 4096 8 (by omega)
  have br1 := fl_bd x 32768 32 (by omega)
  have br2 := fl_bd x 1048576 32 (by omega)
  have bf7 := fl_bd x 33554432 128 (by omega)
  have e8 : ((fl x 1048576 32).tmod 8) = fl x 1048576 32 % 8 := Int.tmod_eq_emod_of_nonneg br2.1
  have hs : dsLoad x = (if decide (fl x 1048576 32 < 16) then some ⟨28, 0, (fl x 128 32), (fl x 32768 32), 0, 0, fl x 1048576 32 % 8, false, decide (8 ≤ fl x 1048576 32)⟩ else none) := by
    unfold dsLoad; by_cases g : fl x 1048576 32 < 16
    · simp [g]
    · simp [g]
  go_enter Tryz.func140, Tryz.ntmps140
  go_wp2_with (first | (go_at_call 90; with_reducible refine (drs2_w x x0 x1 _).mono ?_; rintro e' w1 ⟨rfl, rfl⟩) | (go_at_call 86; with_reducible refine (drd_w x x0 x1 _).mono ?_; rintro e' w1 ⟨rfl, rfl⟩) | (go_at_call 87; with_reducible refine (drs1_w x x0 x1 _).mono ?_; rintro e' w1 ⟨rfl, rfl⟩))
  refine bodyPost_ret (v := .tuple #[Ins.v ⟨28, 0, (fl x 128 32), (fl x 32768 32), 0, 0, fl x 1048576 32 % 8, false, decide (8 ≤ fl x 1048576 32)⟩ 0 0, .bool (decide (fl x 1048576 32 < 16))]) (by simp [results, Tryz.results140, go_sem, Ins.v, *]) rfl ⟨RdP.mk ⟨28, 0, (fl x 128 32), (fl x 32768 32), 0, 0, fl x 1048576 32 % 8, false, decide (8 ≤ fl x 1048576 32)⟩ (decide (fl x 1048576 32 < 16)) rfl (hs), by (repeat' (first | with_reducible refine Kp.setCell ?_ ?_ _ | with_reducible refine Kp.allocs ?_ _ _ | with_reducible refine Kp.drew ?_ | with_reducible refine Kp.drewN ?_ _)); all_goals first | exact Kp.refl w | (dsimp only; omega)⟩
theorem sto_eq (r : Int) (h0 : 0 ≤ r) (h1 : r < 32) : stoB r = (decide (r < 16) && (decide (r % 8 < 4) || r % 8 == 7)) := by
  obtain ⟨n, rfl⟩ := Int.eq_ofNat_of_zero_le h0
  have h2 : n < 32 := by omega
  have key : ∀ n : Fin 32, stoB (n.1 : Int) = (decide ((n.1 : Int) < 16) && (decide ((n.1 : Int) % 8 < 4) || (n.1 : Int) % 8 == 7)) := by decide
  exact key ⟨n, h2⟩
set_option maxHeartbeats 4000000 in
theorem dstore_0 (x : Int) (x0 : 0 ≤ x) (x1 : x < 4294967296) (h : fl x 128 32 % 8 = 0) (w : World) :
    Calls Tryz.prog 139 #[.int .u32 x] w fun e w' => RdP e (dsStore x) ∧ Kp w w' := by
  have brd := fl_bd x 128 32 (by omega)
  have bf3 := fl_bd x 4096 8 (by omega)
  have br1 := fl_bd x 32768 32 (by omega)
  have br2 := fl_bd x 1048576 32 (by omega)
  have bf7 := fl_bd x 33554432 128 (by omega)
  have e8 : ((fl x 128 32).tmod 8) = 0 := (Int.tmod_eq_emod_of_nonneg brd.1).trans h
  have hs : dsStore x = (if decide (fl x 128 32 < 16) then some ⟨29, 0, 0, (fl x 32768 32), (fl x 1048576 32), 0, 0, false, decide (8 ≤ fl x 128 32)⟩ else none) := by
    unfold dsStore; rw [sto_eq _ brd.1 brd.2, h]; by_cases g : fl x 128 32 < 16 <;> simp [g]
  go_enter Tryz.func139, Tryz.ntmps139
  go_wp2_with (first | (go_at_call 90; with_reducible refine (drs2_w x x0 x1 _).mono ?_; rintro e' w1 ⟨rfl, rfl⟩) | (go_at_call 86; with_reducible refine (drd_w x x0 x1 _).mono ?_; rintro e' w1 ⟨rfl, rfl⟩) | (go_at_call 87; with_reducible refine (drs1_w x x0 x1 _).mono ?_; rintro e' w1 ⟨rfl, rfl⟩))
  refine bodyPost_ret (v := .tuple #[Ins.v ⟨29, 0, 0, (fl x 32768 32), (fl x 1048576 32), 0, 0, false, decide (8 ≤ fl x 128 32)⟩ 0 0, .bool (decide (fl x 128 32 < 16))]) (by simp [results, Tryz.results139, go_sem, Ins.v, *]) rfl ⟨RdP.mk ⟨29, 0, 0, (fl x 32768 32), (fl x 1048576 32), 0, 0, false, decide (8 ≤ fl x 128 32)⟩ (decide (fl x 128 32 < 16)) rfl (hs), by (repeat' (first | with_reducible refine Kp.setCell ?_ ?_ _ | with_reducible refine Kp.allocs ?_ _ _ | with_reducible refine Kp.drew ?_ | with_reducible refine Kp.drewN ?_ _)); all_goals first | exact Kp.refl w | (dsimp only; omega)⟩
set_option maxHeartbeats 4000000 in
theorem dstore_1 (x : Int) (x0 : 0 ≤ x) (x1 : x < 4294967296) (h : fl x 128 32 % 8 = 1) (w : World) :
    Calls Tryz.prog 139 #[.int .u32 x] w fun e w' => RdP e (dsStore x) ∧ Kp w w' := by
  have brd := fl_bd x 128 32 (by omega)
  have bf3 := fl_bd x 4096 8 (by omega)
  have br1 := fl_bd x 32768 32 (by omega)
  have br2 := fl_bd x 1048576 32 (by omega)
  have bf7 := fl_bd x 33554432 128 (by omega)
  have e8 : ((fl x 128 32).tmod 8) = 1 := (Int.tmod_eq_emod_of_nonneg brd.1).trans h
  have hs : dsStore x = (if decide (fl x 128 32 < 16) then some ⟨29, 0, 0, (fl x 32768 32), (fl x 1048576 32), 0, 1, false, decide (8 ≤ fl x 128 32)⟩ else none) := by
    unfold dsStore; rw [sto_eq _ brd.1 brd.2, h]; by_cases g : fl x 128 32 < 16 <;> simp [g]
  go_enter Tryz.func139, Tryz.ntmps139
  go_wp2_with (first | (go_at_call 90; with_reducible refine (drs2_w x x0 x1 _).mono ?_; rintro e' w1 ⟨rfl, rfl⟩) | (go_at_call 86; with_reducible refine (drd_w x x0 x1 _).mono ?_; rintro e' w1 ⟨rfl, rfl⟩) | (go_at_call 87; with_reducible refine (drs1_w x x0 x1 _).mono ?_; rintro e' w1 ⟨rfl, rfl⟩))
  refine bodyPost_ret (v := .tuple #[Ins.v ⟨29, 0, 0, (fl x 32768 32), (fl x 1048576 32), 0, 1, false, decide (8 ≤ fl x 128 32)⟩ 0 0, .bool (decide (fl x 128 32 < 16))]) (by simp [results, Tryz.results139, go_sem, Ins.v, *]) rfl ⟨RdP.mk ⟨29, 0, 0, (fl x 32768 32), (fl x 1048576 32), 0, 1, false, decide (8 ≤ fl x 128 32)⟩ (decide (fl x 128 32 < 16)) rfl (hs), by (repeat' (first | with_reducible refine Kp.setCell ?_ ?_ _ | with_reducible refine Kp.allocs ?_ _ _ | with_reducible refine Kp.drew ?_ | with_reducible refine Kp.drewN ?_ _)); all_goals first | exact Kp.refl w | (dsimp only; omega)⟩
set_option maxHeartbeats 4000000 in
theorem dstore_2 (x : Int) (x0 : 0 ≤ x) (x1 : x < 4294967296) (h : fl x 128 32 % 8 = 2) (w : World) :
    Calls Tryz.prog 139 #[.int .u32 x] w fun e w' => RdP e (dsStore x) ∧ Kp w w' := by
  have brd := fl_bd x 128 32 (by omega)
  have bf3 := fl_bd x 4096 8 (by omega)
  have br1 := fl_bd x 32768 32 (by omega)
  have br2 := fl_bd x 1048576 32 (by omega)
  have bf7 := fl_bd x 33554432 128 (by omega)
  have e8 : ((fl x 128 32).tmod 8) = 2 := (Int.tmod_eq_emod_of_nonneg brd.1).trans h
  have hs : dsStore x = (if decide (fl x 128 32 < 16) then some ⟨29, 0, 0, (fl x 32768 32), (fl x 1048576 32), 0, 2, false, decide (8 ≤ fl x 128 32)⟩ else none) := by
    unfold dsStore; rw [sto_eq _ brd.1 brd.2, h]; by_cases g : fl x 128 32 < 16 <;> simp [g]
  go_enter Tryz.func139, Tryz.ntmps139
  go_wp2_with (first | (go_at_call 90; with_reducible refine (drs2_w x x0 x1 _).mono ?_; rintro e' w1 ⟨rfl, rfl⟩) | (go_at_call 86; with_reducible refine (drd_w x x0 x1 _).mono ?_; rintro e' w1 ⟨rfl, rfl⟩) | (go_at_call 87; with_reducible refine (drs1_w x x0 x1 _).mono ?_; rintro e' w1 ⟨rfl, rfl⟩))
  refine bodyPost_ret (v := .tuple #[Ins.v ⟨29, 0, 0, (fl x 32768 32), (fl x 1048576 32), 0, 2, false, decide (8 ≤ fl x 128 32)⟩ 0 0, .bool (decide (fl x 128 32 < 16))]) (by simp [results, Tryz.results139, go_sem, Ins.v, *]) rfl ⟨RdP.mk ⟨29, 0, 0, (fl x 32768 32), (fl x 1048576 32), 0, 2, false, decide (8 ≤ fl x 128 32)⟩ (decide (fl x 128 32 < 16)) rfl (hs), by (repeat' (first | with_reducible refine Kp.setCell ?_ ?_ _ | with_reducible refine Kp.allocs ?_ _ _ | with_reducible refine Kp.drew ?_ | with_reducible refine Kp.drewN ?_ _)); all_goals first | exact Kp.refl w | (dsimp only; omega)⟩
set_option maxHeartbeats 4000000 in
theorem dstore_3 (x : Int) (x0 : 0 ≤ x) (x1 : x < 4294967296) (h : fl x 128 32 % 8 = 3) (w : World) :
    Calls Tryz.prog 139 #[.int .u32 x] w fun e w' => RdP e (dsStore x) ∧ Kp w w' := by
  have brd := fl_bd x 128 32 (by omega)
  have bf3 := fl_bd x 4096 8 (by omega)
  have br1 := fl_bd x 32768 32 (by omega)
  have br2 := fl_bd x 1048576 32 (by omega)
  have bf7 := fl_bd x 33554432 128 (by omega)
  have e8 : ((fl x 128 32).tmod 8) = 3 := (Int.tmod_eq_emod_of_nonneg brd.1).trans h
  have hs : dsStore x = (if decide (fl x 128 32 < 16) then some ⟨29, 0, 0, (fl x 32768 32), (fl x 1048576 32), 0, 3, false, decide (8 ≤ fl x 128 32)⟩ else none) := by
    unfold dsStore; rw [sto_eq _ brd.1 brd.2, h]; by_cases g : fl x 128 32 < 16 <;> simp [g]
  go_enter Tryz.func139, Tryz.ntmps139
  go_wp2_with (first | (go_at_call 90; with_reducible refine (drs2_w x x0 x1 _).mono ?_; rintro e' w1 ⟨rfl, rfl⟩) | (go_at_call 86; with_reducible refine (drd_w x x0 x1 _).mono ?_; rintro e' w1 ⟨rfl, rfl⟩) | (go_at_call 87; with_reducible refine (drs1_w x x0 x1 _).mono ?_; rintro e' w1 ⟨rfl, rfl⟩))
  refine bodyPost_ret (v := .tuple #[Ins.v ⟨29, 0, 0, (fl x 32768 32), (fl x 1048576 32), 0, 3, false, decide (8 ≤ fl x 128 32)⟩ 0 0, .bool (decide (fl x 128 32 < 16))]) (by simp [results, Tryz.results139, go_sem, Ins.v, *]) rfl ⟨RdP.mk ⟨29, 0, 0, (fl x 32768 32), (fl x 1048576 32), 0, 3, false, decide (8 ≤ fl x 128 32)⟩ (decide (fl x 128 32 < 16)) rfl (hs), by (repeat' (first | with_reducible refine Kp.setCell ?_ ?_ _ | with_reducible refine Kp.allocs ?_ _ _ | with_reducible refine Kp.drew ?_ | with_reducible refine Kp.drewN ?_ _)); all_goals first | exact Kp.refl w | (dsimp only; omega)⟩
set_option maxHeartbeats 4000000 in
theorem dstore_7 (x : Int) (x0 : 0 ≤ x) (x1 : x < 4294967296) (h : fl x 128 32 % 8 = 7) (w : World) :
    Calls Tryz.prog 139 #[.int .u32 x] w fun e w' => RdP e (dsStore x) ∧ Kp w w' := by
  have brd := fl_bd x 128 32 (by omega)
  have bf3 := fl_bd x 4096 8 (by omega)
  have br1 := fl_bd x 32768 32 (by omega)
  have br2 := fl_bd x 1048576 32 (by omega)
  have bf7 := fl_bd x 33554432 128 (by omega)
  have e8 : ((fl x 128 32).tmod 8) = 7 := (Int.tmod_eq_emod_of_nonneg brd.1).trans h
  have hs : dsStore x = (if decide (fl x 128 32 < 16) then some ⟨29, 0, 0, (fl x 32768 32), (fl x 1048576 32), 0, 7, false, decide (8 ≤ fl x 128 32)⟩ else none) := by
    unfold dsStore; rw [sto_eq _ brd.1 brd.2, h]; by_cases g : fl x 128 32 < 16 <;> simp [g]
  go_enter Tryz.func139, Tryz.ntmps139
  go_wp2_with (first | (go_at_call 90; with_reducible refine (drs2_w x x0 x1 _).mono ?_; rintro e' w1 ⟨rfl, rfl⟩) | (go_at_call 86; with_reducible refine (drd_w x x0 x1 _).mono ?_; rintro e' w1 ⟨rfl, rfl⟩) | (go_at_call 87; with_reducible refine (drs1_w x x0 x1 _).mono ?_; rintro e' w1 ⟨rfl, rfl⟩))
  refine bodyPost_ret (v := .tuple #[Ins.v ⟨29, 0, 0, (fl x 32768 32), (fl x 1048576 32), 0, 7, false, decide (8 ≤ fl x 128 32)⟩ 0 0, .bool (decide (fl x 128 32 < 16))]) (by simp [results, Tryz.results139, go_sem, Ins.v, *]) rfl ⟨RdP.mk ⟨29, 0, 0, (fl x 32768 32), (fl x 1048576 32), 0, 7, false, decide (8 ≤ fl x 128 32)⟩ (decide (fl x 128 32 < 16)) rfl (hs), by (repeat' (first | with_reducible refine Kp.setCell ?_ ?_ _ | with_reducible refine Kp.allocs ?_ _ _ | with_reducible refine Kp.drew ?_ | with_reducible refine Kp.drewN ?_ _)); all_goals first | exact Kp.refl w | (dsimp only; omega)⟩
set_option maxHeartbeats 4000000 in
theorem dstore_n (x : Int) (x0 : 0 ≤ x) (x1 : x < 4294967296) (h : 3 < fl x 128 32 % 8) (h2 : ¬ fl x 128 32 % 8 = 7) (w : World) :
    Calls Tryz.prog 139 #[.int .u32 x] w fun e w' => RdP e (dsStore x) ∧ Kp w w' := by
  have brd := fl_bd x 128 32 (by omega)
  have bf3 := fl_bd x 4096 8 (by omega)
  have br1 := fl_bd x 32768 32 (by omega)
  have br2 := fl_bd x 1048576 32 (by omega)
  have bf7 := fl_bd x 33554432 128 (by omega)
  have e8 : ((fl x 128 32).tmod 8) = fl x 128 32 % 8 := Int.tmod_eq_emod_of_nonneg brd.1
  have hs : dsStore x = none := by
    unfold dsStore; rw [sto_eq _ brd.1 brd.2]; simp [show ¬ fl x 128 32 % 8 < 4 by omega, h2]
  have t0 : (fl x 128 32 % 8 == 0) = false := by simp; omega
  have t1 : (fl x 128 32 % 8 == 1) = false := by simp; omega
  have t2 : (fl x 128 32 % 8 == 2) = false := by simp; omega
  have t3 : (fl x 128 32 % 8 == 3) = false := by simp; omega
  have t7 : (fl x 128 32 % 8 == 7) = false := by simp; omega
  have H1 := Lib.hid h
  have H2 := Lib.hid h2
  clear h h2
  go_enter Tryz.func139, Tryz.ntmps139
  go_wp2_with (first | (go_at_call 90; with_reducible refine (drs2_w x x0 x1 _).mono ?_; rintro e' w1 ⟨rfl, rfl⟩) | (go_at_call 86; with_reducible refine (drd_w x x0 x1 _).mono ?_; rintro e' w1 ⟨rfl, rfl⟩) | (go_at_call 87; with_reducible refine (drs1_w x x0 x1 _).mono ?_; rintro e' w1 ⟨rfl, rfl⟩))
  refine bodyPost_ret (v := .tuple #[Ins.v zIns 0 0, .bool (false)]) (by simp [results, Tryz.results139, go_sem, Ins.v, zIns, *]) rfl ⟨RdP.mk zIns (false) rfl (hs), by (repeat' (first | with_reducible refine Kp.setCell ?_ ?_ _ | with_reducible refine Kp.allocs ?_ _ _ | with_reducible refine Kp.drew ?_ | with_reducible refine Kp.drewN ?_ _)); all_goals first | exact Kp.refl w | (dsimp only; omega)⟩
theorem dstore_w (x : Int) (x0 : 0 ≤ x) (x1 : x < 4294967296) (w : World) :
    Calls Tryz.prog 139 #[.int .u32 x] w fun e w' => RdP e (dsStore x) ∧ Kp w w' := by
  rcases (show fl x 128 32 % 8 = 0 ∨ fl x 128 32 % 8 = 1 ∨ fl x 128 32 % 8 = 2 ∨ fl x 128 32 % 8 = 3 ∨ fl x 128 32 % 8 = 7 ∨ (3 < fl x 128 32 % 8 ∧ ¬ fl x 128 32 % 8 = 7) by omega) with h | h | h | h | h | ⟨h, h2⟩
  · exact dstore_0 x x0 x1 h w
  · exact dstore_1 x x0 x1 h w
  · exact dstore_2 x x0 x1 h w
  · exact dstore_3 x x0 x1 h w
  · exact dstore_7 x x0 x1 h w
  · exact dstore_n x x0 x1 h h2 w
end Go.Proofs.YtlfeandnpflaaaaGreatDoor
