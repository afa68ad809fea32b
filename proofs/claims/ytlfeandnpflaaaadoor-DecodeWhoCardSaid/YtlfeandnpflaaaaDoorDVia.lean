/-
  Contracts of capdec's readers: loads and stores by a capability. No condition.
-/
import Derived.Test.YtlfeandnpflaaaaDoorDFld
import Derived.WalkMore
namespace Go.Proofs.YtlfeandnpflaaaaDoor
open Go.ChangeShapes Go.WideShapes Go.ChangeAt Go.RowKit
set_option linter.unusedVariables false
set_option linter.unusedSimpArgs false

set_option maxHeartbeats 4000000 in
theorem dload_w (x : Int) (x0 : 0 ≤ x) (x1 : x < 4294967296) (w : World) :
    Calls Tryd.prog 99 #[.int .u32 x] w fun e w' => RdP e (dsLoad x) ∧ Kp w w' := by
  have brd := fl_bd x 128 32 (by omega)
  have bf3 := fl_bd x 4096 8 (by omega)
  have br1 := fl_bd x 32768 32 (by omega)
  have br2 := fl_bd x 1048576 32 (by omega)
  have bf7 := fl_bd x 33554432 128 (by omega)
  have e8 : ((fl x 1048576 32).tmod 8) = fl x 1048576 32 % 8 := Int.tmod_eq_emod_of_nonneg br2.1
  have hs : dsLoad x = (if decide (fl x 1048576 32 < 16) then some ⟨28, 0, (fl x 128 32), (fl x 32768 32), 0, 0, fl x 1048576 32 % 8, false, decide (8 ≤ fl x 1048576 32)⟩ else none) := by
    unfold dsLoad; by_cases g : fl x 1048576 32 < 16
    · simp [g]
    · simp [g]
  go_enter Tryd.func99, Tryd.ntmps99
  go_wp2_with (first | (go_at_call 55; with_reducible refine (drs2_w x x0 x1 _).mono ?_; rintro e' w1 ⟨rfl, rfl⟩) | (go_at_call 51; with_reducible refine (drd_w x x0 x1 _).mono ?_; rintro e' w1 ⟨rfl, rfl⟩) | (go_at_call 52; with_reducible refine (drs1_w x x0 x1 _).mono ?_; rintro e' w1 ⟨rfl, rfl⟩))
  refine bodyPost_ret (v := .tuple #[Ins.v ⟨28, 0, (fl x 128 32), (fl x 32768 32), 0, 0, fl x 1048576 32 % 8, false, decide (8 ≤ fl x 1048576 32)⟩ 0 0, .bool (decide (fl x 1048576 32 < 16))]) (by simp [results, Tryd.results99, go_sem, Ins.v, *]) rfl ⟨RdP.mk ⟨28, 0, (fl x 128 32), (fl x 32768 32), 0, 0, fl x 1048576 32 % 8, false, decide (8 ≤ fl x 1048576 32)⟩ (decide (fl x 1048576 32 < 16)) rfl (hs), by (repeat' (first | with_reducible refine Kp.setCell ?_ ?_ _ | with_reducible refine Kp.allocs ?_ _ _ | with_reducible refine Kp.drew ?_ | with_reducible refine Kp.drewN ?_ _)); all_goals first | exact Kp.refl w | (dsimp only; omega)⟩
theorem sto_eq (r : Int) (h0 : 0 ≤ r) (h1 : r < 32) : stoB r = (decide (r < 16) && (decide (r % 8 < 4) || r % 8 == 7)) := by
  obtain ⟨n, rfl⟩ := Int.eq_ofNat_of_zero_le h0
  have h2 : n < 32 := by omega
  have key : ∀ n : Fin 32, stoB (n.1 : Int) = (decide ((n.1 : Int) < 16) && (decide ((n.1 : Int) % 8 < 4) || (n.1 : Int) % 8 == 7)) := by decide
  exact key ⟨n, h2⟩
set_option maxHeartbeats 4000000 in
theorem dstore_0 (x : Int) (x0 : 0 ≤ x) (x1 : x < 4294967296) (h : fl x 128 32 % 8 = 0) (w : World) :
    Calls Tryd.prog 98 #[.int .u32 x] w fun e w' => RdP e (dsStore x) ∧ Kp w w' := by
  have brd := fl_bd x 128 32 (by omega)
  have bf3 := fl_bd x 4096 8 (by omega)
  have br1 := fl_bd x 32768 32 (by omega)
  have br2 := fl_bd x 1048576 32 (by omega)
  have bf7 := fl_bd x 33554432 128 (by omega)
  have e8 : ((fl x 128 32).tmod 8) = 0 := (Int.tmod_eq_emod_of_nonneg brd.1).trans h
  have hs : dsStore x = (if decide (fl x 128 32 < 16) then some ⟨29, 0, 0, (fl x 32768 32), (fl x 1048576 32), 0, 0, false, decide (8 ≤ fl x 128 32)⟩ else none) := by
    unfold dsStore; rw [sto_eq _ brd.1 brd.2, h]; by_cases g : fl x 128 32 < 16 <;> simp [g]
  go_enter Tryd.func98, Tryd.ntmps98
  go_wp2_with (first | (go_at_call 55; with_reducible refine (drs2_w x x0 x1 _).mono ?_; rintro e' w1 ⟨rfl, rfl⟩) | (go_at_call 51; with_reducible refine (drd_w x x0 x1 _).mono ?_; rintro e' w1 ⟨rfl, rfl⟩) | (go_at_call 52; with_reducible refine (drs1_w x x0 x1 _).mono ?_; rintro e' w1 ⟨rfl, rfl⟩))
  refine bodyPost_ret (v := .tuple #[Ins.v ⟨29, 0, 0, (fl x 32768 32), (fl x 1048576 32), 0, 0, false, decide (8 ≤ fl x 128 32)⟩ 0 0, .bool (decide (fl x 128 32 < 16))]) (by simp [results, Tryd.results98, go_sem, Ins.v, *]) rfl ⟨RdP.mk ⟨29, 0, 0, (fl x 32768 32), (fl x 1048576 32), 0, 0, false, decide (8 ≤ fl x 128 32)⟩ (decide (fl x 128 32 < 16)) rfl (hs), by (repeat' (first | with_reducible refine Kp.setCell ?_ ?_ _ | with_reducible refine Kp.allocs ?_ _ _ | with_reducible refine Kp.drew ?_ | with_reducible refine Kp.drewN ?_ _)); all_goals first | exact Kp.refl w | (dsimp only; omega)⟩
set_option maxHeartbeats 4000000 in
theorem dstore_1 (x : Int) (x0 : 0 ≤ x) (x1 : x < 4294967296) (h : fl x 128 32 % 8 = 1) (w : World) :
    Calls Tryd.prog 98 #[.int .u32 x] w fun e w' => RdP e (dsStore x) ∧ Kp w w' := by
  have brd := fl_bd x 128 32 (by omega)
  have bf3 := fl_bd x 4096 8 (by omega)
  have br1 := fl_bd x 32768 32 (by omega)
  have br2 := fl_bd x 1048576 32 (by omega)
  have bf7 := fl_bd x 33554432 128 (by omega)
  have e8 : ((fl x 128 32).tmod 8) = 1 := (Int.tmod_eq_emod_of_nonneg brd.1).trans h
  have hs : dsStore x = (if decide (fl x 128 32 < 16) then some ⟨29, 0, 0, (fl x 32768 32), (fl x 1048576 32), 0, 1, false, decide (8 ≤ fl x 128 32)⟩ else none) := by
    unfold dsStore; rw [sto_eq _ brd.1 brd.2, h]; by_cases g : fl x 128 32 < 16 <;> simp [g]
  go_enter Tryd.func98, Tryd.ntmps98
  go_wp2_with (first | (go_at_call 55; with_reducible refine (drs2_w x x0 x1 _).mono ?_; rintro e' w1 ⟨rfl, rfl⟩) | (go_at_call 51; with_reducible refine (drd_w x x0 x1 _).mono ?_; rintro e' w1 ⟨rfl, rfl⟩) | (go_at_call 52; with_reducible refine (drs1_w x x0 x1 _).mono ?_; rintro e' w1 ⟨rfl, rfl⟩))
  refine bodyPost_ret (v := .tuple #[Ins.v ⟨29, 0, 0, (fl x 32768 32), (fl x 1048576 32), 0, 1, false, decide (8 ≤ fl x 128 32)⟩ 0 0, .bool (decide (fl x 128 32 < 16))]) (by simp [results, Tryd.results98, go_sem, Ins.v, *]) rfl ⟨RdP.mk ⟨29, 0, 0, (fl x 32768 32), (fl x 1048576 32), 0, 1, false, decide (8 ≤ fl x 128 32)⟩ (decide (fl x 128 32 < 16)) rfl (hs), by (repeat' (first | with_reducible refine Kp.setCell ?_ ?_ _ | with_reducible refine Kp.allocs ?_ _ _ | with_reducible refine Kp.drew ?_ | with_reducible refine Kp.drewN ?_ _)); all_goals first | exact Kp.refl w | (dsimp only; omega)⟩
set_option maxHeartbeats 4000000 in
theorem dstore_2 (x : Int) (x0 : 0 ≤ x) (x1 : x < 4294967296) (h : fl x 128 32 % 8 = 2) (w : World) :
    Calls Tryd.prog 98 #[.int .u32 x] w fun e w' => RdP e (dsStore x) ∧ Kp w w' := by
  have brd := fl_bd x 128 32 (by omega)
  have bf3 := fl_bd x 4096 8 (by omega)
  have br1 := fl_bd x 32768 32 (by omega)
  have br2 := fl_bd x 1048576 32 (by omega)
  have bf7 := fl_bd x 33554432 128 (by omega)
  have e8 : ((fl x 128 32).tmod 8) = 2 := (Int.tmod_eq_emod_of_nonneg brd.1).trans h
  have hs : dsStore x = (if decide (fl x 128 32 < 16) then some ⟨29, 0, 0, (fl x 32768 32), (fl x 1048576 32), 0, 2, false, decide (8 ≤ fl x 128 32)⟩ else none) := by
    unfold dsStore; rw [sto_eq _ brd.1 brd.2, h]; by_cases g : fl x 128 32 < 16 <;> simp [g]
  go_enter Tryd.func98, Tryd.ntmps98
  go_wp2_with (first | (go_at_call 55; with_reducible refine (drs2_w x x0 x1 _).mono ?_; rintro e' w1 ⟨rfl, rfl⟩) | (go_at_call 51; with_reducible refine (drd_w x x0 x1 _).mono ?_; rintro e' w1 ⟨rfl, rfl⟩) | (go_at_call 52; with_reducible refine (drs1_w x x0 x1 _).mono ?_; rintro e' w1 ⟨rfl, rfl⟩))
  refine bodyPost_ret (v := .tuple #[Ins.v ⟨29, 0, 0, (fl x 32768 32), (fl x 1048576 32), 0, 2, false, decide (8 ≤ fl x 128 32)⟩ 0 0, .bool (decide (fl x 128 32 < 16))]) (by simp [results, Tryd.results98, go_sem, Ins.v, *]) rfl ⟨RdP.mk ⟨29, 0, 0, (fl x 32768 32), (fl x 1048576 32), 0, 2, false, decide (8 ≤ fl x 128 32)⟩ (decide (fl x 128 32 < 16)) rfl (hs), by (repeat' (first | with_reducible refine Kp.setCell ?_ ?_ _ | with_reducible refine Kp.allocs ?_ _ _ | with_reducible refine Kp.drew ?_ | with_reducible refine Kp.drewN ?_ _)); all_goals first | exact Kp.refl w | (dsimp only; omega)⟩
set_option maxHeartbeats 4000000 in
theorem dstore_3 (x : Int) (x0 : 0 ≤ x) (x1 : x < 4294967296) (h : fl x 128 32 % 8 = 3) (w : World) :
    Calls Tryd.prog 98 #[.int .u32 x] w fun e w' => RdP e (dsStore x) ∧ Kp w w' := by
  have brd := fl_bd x 128 32 (by omega)
  have bf3 := fl_bd x 4096 8 (by omega)
  have br1 := fl_bd x 32768 32 (by omega)
  have br2 := fl_bd x 1048576 32 (by omega)
  have bf7 := fl_bd x 33554432 128 (by omega)
  have e8 : ((fl x 128 32).tmod 8) = 3 := (Int.tmod_eq_emod_of_nonneg brd.1).trans h
  have hs : dsStore x = (if decide (fl x 128 32 < 16) then some ⟨29, 0, 0, (fl x 32768 32), (fl x 1048576 32), 0, 3, false, decide (8 ≤ fl x 128 32)⟩ else none) := by
    unfold dsStore; rw [sto_eq _ brd.1 brd.2, h]; by_cases g : fl x 128 32 < 16 <;> simp [g]
  go_enter Tryd.func98, Tryd.ntmps98
  go_wp2_with (first | (go_at_call 55; with_reducible refine (drs2_w x x0 x1 _).mono ?_; rintro e' w1 ⟨rfl, rfl⟩) | (go_at_call 51; with_reducible refine (drd_w x x0 x1 _).mono ?_; rintro e' w1 ⟨rfl, rfl⟩) | (go_at_call 52; with_reducible refine (drs1_w x x0 x1 _).mono ?_; rintro e' w1 ⟨rfl, rfl⟩))
  refine bodyPost_ret (v := .tuple #[Ins.v ⟨29, 0, 0, (fl x 32768 32), (fl x 1048576 32), 0, 3, false, decide (8 ≤ fl x 128 32)⟩ 0 0, .bool (decide (fl x 128 32 < 16))]) (by simp [results, Tryd.results98, go_sem, Ins.v, *]) rfl ⟨RdP.mk ⟨29, 0, 0, (fl x 32768 32), (fl x 1048576 32), 0, 3, false, decide (8 ≤ fl x 128 32)⟩ (decide (fl x 128 32 < 16)) rfl (hs), by (repeat' (first | with_reducible refine Kp.setCell ?_ ?_ _ | with_reducible refine Kp.allocs ?_ _ _ | with_reducible refine Kp.drew ?_ | with_reducible refine Kp.drewN ?_ _)); all_goals first | exact Kp.refl w | (dsimp only; omega)⟩
set_option maxHeartbeats 4000000 in
theorem dstore_7 (x : Int) (x0 : 0 ≤ x) (x1 : x < 4294967296) (h : fl x 128 32 % 8 = 7) (w : World) :
    Calls Tryd.prog 98 #[.int .u32 x] w fun e w' => RdP e (dsStore x) ∧ Kp w w' := by
  have brd := fl_bd x 128 32 (by omega)
  have bf3 := fl_bd x 4096 8 (by omega)
  have br1 := fl_bd x 32768 32 (by omega)
  have br2 := fl_bd x 1048576 32 (by omega)
  have bf7 := fl_bd x 33554432 128 (by omega)
  have e8 : ((fl x 128 32).tmod 8) = 7 := (Int.tmod_eq_emod_of_nonneg brd.1).trans h
  have hs : dsStore x = (if decide (fl x 128 32 < 16) then some ⟨29, 0, 0, (fl x 32768 32), (fl x 1048576 32), 0, 7, false, decide (8 ≤ fl x 128 32)⟩ else none) := by
    unfold dsStore; rw [sto_eq _ brd.1 brd.2, h]; by_cases g : fl x 128 32 < 16 <;> simp [g]
  go_enter Tryd.func98, Tryd.ntmps98
  go_wp2_with (first | (go_at_call 55; with_reducible refine (drs2_w x x0 x1 _).mono ?_; rintro e' w1 ⟨rfl, rfl⟩) | (go_at_call 51; with_reducible refine (drd_w x x0 x1 _).mono ?_; rintro e' w1 ⟨rfl, rfl⟩) | (go_at_call 52; with_reducible refine (drs1_w x x0 x1 _).mono ?_; rintro e' w1 ⟨rfl, rfl⟩))
  refine bodyPost_ret (v := .tuple #[Ins.v ⟨29, 0, 0, (fl x 32768 32), (fl x 1048576 32), 0, 7, false, decide (8 ≤ fl x 128 32)⟩ 0 0, .bool (decide (fl x 128 32 < 16))]) (by simp [results, Tryd.results98, go_sem, Ins.v, *]) rfl ⟨RdP.mk ⟨29, 0, 0, (fl x 32768 32), (fl x 1048576 32), 0, 7, false, decide (8 ≤ fl x 128 32)⟩ (decide (fl x 128 32 < 16)) rfl (hs), by (repeat' (first | with_reducible refine Kp.setCell ?_ ?_ _ | with_reducible refine Kp.allocs ?_ _ _ | with_reducible refine Kp.drew ?_ | with_reducible refine Kp.drewN ?_ _)); all_goals first | exact Kp.refl w | (dsimp only; omega)⟩
set_option maxHeartbeats 4000000 in
theorem dstore_n (x : Int) (x0 : 0 ≤ x) (x1 : x < 4294967296) (h : 3 < fl x 128 32 % 8) (h2 : ¬ fl x 128 32 % 8 = 7) (w : World) :
    Calls Tryd.prog 98 #[.int .u32 x] w fun e w' => RdP e (dsStore x) ∧ Kp w w' := by
  have brd := fl_bd x 128 32 (by omega)
  have bf3 := fl_bd x 4096 8 (by omega)
  have br1 := fl_bd x 32768 32 (by omega)
  have br2 := fl_bd x 1048576 32 (by omega)
  have bf7 := fl_bd x 33554432 128 (by omega)
  have e8 : ((fl x 128 32).tmod 8) = fl x 128 32 % 8 := Int.tmod_eq_emod_of_nonneg brd.1
  have hs : dsStore x = none := by
    unfold dsStore; rw [sto_eq _ brd.1 brd.2]; simp [show ¬ fl x 128 32 % 8 < 4 by omega, h2]
  have t0 : (fl x 128 32 % 8 == 0) = false := by simp; omega
  have t1 : (fl x 128 32 % 8 == 1) = false := by simp; omega
  have t2 : (fl x 128 32 % 8 == 2) = false := by simp; omega
  have t3 : (fl x 128 32 % 8 == 3) = false := by simp; omega
  have t7 : (fl x 128 32 % 8 == 7) = false := by simp; omega
  have H1 := Lib.hid h
  have H2 := Lib.hid h2
  clear h h2
  go_enter Tryd.func98, Tryd.ntmps98
  go_wp2_with (first | (go_at_call 55; with_reducible refine (drs2_w x x0 x1 _).mono ?_; rintro e' w1 ⟨rfl, rfl⟩) | (go_at_call 51; with_reducible refine (drd_w x x0 x1 _).mono ?_; rintro e' w1 ⟨rfl, rfl⟩) | (go_at_call 52; with_reducible refine (drs1_w x x0 x1 _).mono ?_; rintro e' w1 ⟨rfl, rfl⟩))
  refine bodyPost_ret (v := .tuple #[Ins.v zIns 0 0, .bool (false)]) (by simp [results, Tryd.results98, go_sem, Ins.v, zIns, *]) rfl ⟨RdP.mk zIns (false) rfl (hs), by (repeat' (first | with_reducible refine Kp.setCell ?_ ?_ _ | with_reducible refine Kp.allocs ?_ _ _ | with_reducible refine Kp.drew ?_ | with_reducible refine Kp.drewN ?_ _)); all_goals first | exact Kp.refl w | (dsimp only; omega)⟩
theorem dstore_w (x : Int) (x0 : 0 ≤ x) (x1 : x < 4294967296) (w : World) :
    Calls Tryd.prog 98 #[.int .u32 x] w fun e w' => RdP e (dsStore x) ∧ Kp w w' := by
  rcases (show fl x 128 32 % 8 = 0 ∨ fl x 128 32 % 8 = 1 ∨ fl x 128 32 % 8 = 2 ∨ fl x 128 32 % 8 = 3 ∨ fl x 128 32 % 8 = 7 ∨ (3 < fl x 128 32 % 8 ∧ ¬ fl x 128 32 % 8 = 7) by omega) with h | h | h | h | h | ⟨h, h2⟩
  · exact dstore_0 x x0 x1 h w
  · exact dstore_1 x x0 x1 h w
  · exact dstore_2 x x0 x1 h w
  · exact dstore_3 x x0 x1 h w
  · exact dstore_7 x x0 x1 h w
  · exact dstore_n x x0 x1 h h2 w
end Go.Proofs.YtlfeandnpflaaaaDoor
