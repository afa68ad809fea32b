/-
  The chapter's examples of layer 1, and what there is not: WordKnown returns true. The condition: the table of the widths' sizes reads as the program's text lays it (the card ties it).
-/
import Derived.Test.YtglhfdamgblhdaaDoorSize
import Derived.Test.YtglhfdamgblhdaaDoorWLaw
namespace Go.Proofs.YtglhfdamgblhdaaDoor.wordKnown
open Go.ChangeShapes Go.WideShapes Go.ChangeAt Go.RowKit
set_option linter.unusedVariables false
set_option linter.unusedSimpArgs false
theorem own : ownKnob Tryd.prog.godebug = none := by kernel_rfl
theorem sz_alloc {w : World} (h : SzAt w) (o : Obj) : SzAt (w.alloc o) := fun i hi => by
  have c := h i hi
  have l := World.block_lt_of_cell? _ _ c
  exact (World.cell?_alloc_past o _ i l).trans c
theorem none_m : aluOk (-1) false = false ∧ aluV (-1) false 3 4 = 0 ∧ brOk (-1) = false ∧ sizeV (-1) = 0 ∧ extV 9223372036854775808 (-1) = 9223372036854775808 := by
  refine ⟨?_, ?_, ?_, ?_, ?_⟩ <;> decide
theorem none_t : aluOk 10 false = false ∧ aluV 10 false 3 4 = 0 ∧ brOk 10 = false ∧ sizeV 10 = 0 ∧ extV 9223372036854775808 10 = 9223372036854775808 := by
  refine ⟨?_, ?_, ?_, ?_, ?_⟩ <;> decide
theorem none_g : aluOk 1099511627776 false = false ∧ aluV 1099511627776 false 3 4 = 0 ∧ brOk 1099511627776 = false ∧ sizeV 1099511627776 = 0 ∧ extV 9223372036854775808 1099511627776 = 9223372036854775808 := by
  refine ⟨?_, ?_, ?_, ?_, ?_⟩ <;> decide
theorem narrow_no : aluOk 2 true = false ∧ aluOk 3 true = false ∧ aluOk 4 true = false ∧ aluOk 6 true = false ∧ aluOk 7 true = false := by
  refine ⟨?_, ?_, ?_, ?_, ?_⟩ <;> decide
theorem ends : brOk 2 = false ∧ aluV 5 true 4294967304 35 = 1 ∧ aluV 2 false 18446744073709551615 0 = 1 ∧ aluV 3 false 18446744073709551615 0 = 0 ∧ sizeV 7 = 16 := by
  refine ⟨?_, ?_, ?_, ?_, ?_⟩ <;> decide
set_option maxRecDepth 100000 in
set_option maxHeartbeats 2000000 in
theorem walk (w : World) (hz : SzAt w) :
    Calls Tryd.prog 5 #[] w fun e w' => e = .returned (.bool true) ∧ Grown w w' := by
  have H := Lib.hid hz
  clear hz
  go_enter Tryd.func5, Tryd.ntmps5
  go_wp2
  go_loop [2] (fun i => i = .int .i64 0 ∨ i = .int .i64 1 ∨ i = .int .i64 2 ∨ i = .int .i64 3) (fun i => 3 - (intOf i).toNat)
  case atStart => exact .inl rfl
  case round =>
    rcases hrel with rfl | rfl | rfl | rfl
    · obtain ⟨x1, x2, x3, x4, x5⟩ := none_m
      go_wp2_with (first | (go_at_call 13; refine (alu_w _ _ _ _ (by omega) (by omega) (by omega) (by omega) _).mono ?_; rintro e w' ⟨rfl, rfl⟩) | (go_at_call 6; refine (br_w _ _ _ (by omega) (by omega) (by omega) (by omega) _).mono ?_; rintro e w' ⟨rfl, rfl⟩) | (go_at_call 8; refine (size_w _ _ (sz_alloc H.out _)).mono ?_; rintro e w' ⟨rfl, rfl⟩) | (go_at_call 10; refine (ext_w _ _ (by omega) (by omega) _).mono ?_; rintro e w' ⟨rfl, rfl⟩) | (go_at_call 14; refine (lalu_w _ _ _ _ (by omega) (by omega) (by omega) (by omega) _).mono ?_; rintro e w' ⟨rfl, rfl⟩) | (go_at_call 12; refine (known_w _).mono ?_; rintro e w' ⟨rfl, rfl⟩))
      go_round
      case rel => exact .inr (.inl rfl)
      case measure => simp [intOf]
    · obtain ⟨x1, x2, x3, x4, x5⟩ := none_t
      go_wp2_with (first | (go_at_call 13; refine (alu_w _ _ _ _ (by omega) (by omega) (by omega) (by omega) _).mono ?_; rintro e w' ⟨rfl, rfl⟩) | (go_at_call 6; refine (br_w _ _ _ (by omega) (by omega) (by omega) (by omega) _).mono ?_; rintro e w' ⟨rfl, rfl⟩) | (go_at_call 8; refine (size_w _ _ (sz_alloc H.out _)).mono ?_; rintro e w' ⟨rfl, rfl⟩) | (go_at_call 10; refine (ext_w _ _ (by omega) (by omega) _).mono ?_; rintro e w' ⟨rfl, rfl⟩) | (go_at_call 14; refine (lalu_w _ _ _ _ (by omega) (by omega) (by omega) (by omega) _).mono ?_; rintro e w' ⟨rfl, rfl⟩) | (go_at_call 12; refine (known_w _).mono ?_; rintro e w' ⟨rfl, rfl⟩))
      go_round
      case rel => exact .inr (.inr (.inl rfl))
      case measure => simp [intOf]
    · obtain ⟨x1, x2, x3, x4, x5⟩ := none_g
      go_wp2_with (first | (go_at_call 13; refine (alu_w _ _ _ _ (by omega) (by omega) (by omega) (by omega) _).mono ?_; rintro e w' ⟨rfl, rfl⟩) | (go_at_call 6; refine (br_w _ _ _ (by omega) (by omega) (by omega) (by omega) _).mono ?_; rintro e w' ⟨rfl, rfl⟩) | (go_at_call 8; refine (size_w _ _ (sz_alloc H.out _)).mono ?_; rintro e w' ⟨rfl, rfl⟩) | (go_at_call 10; refine (ext_w _ _ (by omega) (by omega) _).mono ?_; rintro e w' ⟨rfl, rfl⟩) | (go_at_call 14; refine (lalu_w _ _ _ _ (by omega) (by omega) (by omega) (by omega) _).mono ?_; rintro e w' ⟨rfl, rfl⟩) | (go_at_call 12; refine (known_w _).mono ?_; rintro e w' ⟨rfl, rfl⟩))
      go_round
      case rel => exact .inr (.inr (.inr rfl))
      case measure => simp [intOf]
    · go_wp2
      go_loop [8] (fun i => i = .int .i64 0 ∨ i = .int .i64 1 ∨ i = .int .i64 2 ∨ i = .int .i64 3 ∨ i = .int .i64 4 ∨ i = .int .i64 5) (fun i => 5 - (intOf i).toNat)
      case atStart => exact .inl rfl
      case round =>
        obtain ⟨y1, y2, y3, y4, y5⟩ := narrow_no
        rcases hrel with rfl | rfl | rfl | rfl | rfl | rfl
        · go_wp2_with (first | (go_at_call 13; refine (alu_w _ _ _ _ (by omega) (by omega) (by omega) (by omega) _).mono ?_; rintro e w' ⟨rfl, rfl⟩) | (go_at_call 6; refine (br_w _ _ _ (by omega) (by omega) (by omega) (by omega) _).mono ?_; rintro e w' ⟨rfl, rfl⟩) | (go_at_call 8; refine (size_w _ _ (sz_alloc (sz_alloc H.out _) _)).mono ?_; rintro e w' ⟨rfl, rfl⟩) | (go_at_call 10; refine (ext_w _ _ (by omega) (by omega) _).mono ?_; rintro e w' ⟨rfl, rfl⟩) | (go_at_call 14; refine (lalu_w _ _ _ _ (by omega) (by omega) (by omega) (by omega) _).mono ?_; rintro e w' ⟨rfl, rfl⟩) | (go_at_call 12; refine (known_w _).mono ?_; rintro e w' ⟨rfl, rfl⟩))
          go_round
          case rel => exact .inr (.inl rfl)
          case measure => simp [intOf]
        · go_wp2_with (first | (go_at_call 13; refine (alu_w _ _ _ _ (by omega) (by omega) (by omega) (by omega) _).mono ?_; rintro e w' ⟨rfl, rfl⟩) | (go_at_call 6; refine (br_w _ _ _ (by omega) (by omega) (by omega) (by omega) _).mono ?_; rintro e w' ⟨rfl, rfl⟩) | (go_at_call 8; refine (size_w _ _ (sz_alloc (sz_alloc H.out _) _)).mono ?_; rintro e w' ⟨rfl, rfl⟩) | (go_at_call 10; refine (ext_w _ _ (by omega) (by omega) _).mono ?_; rintro e w' ⟨rfl, rfl⟩) | (go_at_call 14; refine (lalu_w _ _ _ _ (by omega) (by omega) (by omega) (by omega) _).mono ?_; rintro e w' ⟨rfl, rfl⟩) | (go_at_call 12; refine (known_w _).mono ?_; rintro e w' ⟨rfl, rfl⟩))
          go_round
          case rel => exact .inr (.inr (.inl rfl))
          case measure => simp [intOf]
        · go_wp2_with (first | (go_at_call 13; refine (alu_w _ _ _ _ (by omega) (by omega) (by omega) (by omega) _).mono ?_; rintro e w' ⟨rfl, rfl⟩) | (go_at_call 6; refine (br_w _ _ _ (by omega) (by omega) (by omega) (by omega) _).mono ?_; rintro e w' ⟨rfl, rfl⟩) | (go_at_call 8; refine (size_w _ _ (sz_alloc (sz_alloc H.out _) _)).mono ?_; rintro e w' ⟨rfl, rfl⟩) | (go_at_call 10; refine (ext_w _ _ (by omega) (by omega) _).mono ?_; rintro e w' ⟨rfl, rfl⟩) | (go_at_call 14; refine (lalu_w _ _ _ _ (by omega) (by omega) (by omega) (by omega) _).mono ?_; rintro e w' ⟨rfl, rfl⟩) | (go_at_call 12; refine (known_w _).mono ?_; rintro e w' ⟨rfl, rfl⟩))
          go_round
          case rel => exact .inr (.inr (.inr (.inl rfl)))
          case measure => simp [intOf]
        · go_wp2_with (first | (go_at_call 13; refine (alu_w _ _ _ _ (by omega) (by omega) (by omega) (by omega) _).mono ?_; rintro e w' ⟨rfl, rfl⟩) | (go_at_call 6; refine (br_w _ _ _ (by omega) (by omega) (by omega) (by omega) _).mono ?_; rintro e w' ⟨rfl, rfl⟩) | (go_at_call 8; refine (size_w _ _ (sz_alloc (sz_alloc H.out _) _)).mono ?_; rintro e w' ⟨rfl, rfl⟩) | (go_at_call 10; refine (ext_w _ _ (by omega) (by omega) _).mono ?_; rintro e w' ⟨rfl, rfl⟩) | (go_at_call 14; refine (lalu_w _ _ _ _ (by omega) (by omega) (by omega) (by omega) _).mono ?_; rintro e w' ⟨rfl, rfl⟩) | (go_at_call 12; refine (known_w _).mono ?_; rintro e w' ⟨rfl, rfl⟩))
          go_round
          case rel => exact .inr (.inr (.inr (.inr (.inl rfl))))
          case measure => simp [intOf]
        · go_wp2_with (first | (go_at_call 13; refine (alu_w _ _ _ _ (by omega) (by omega) (by omega) (by omega) _).mono ?_; rintro e w' ⟨rfl, rfl⟩) | (go_at_call 6; refine (br_w _ _ _ (by omega) (by omega) (by omega) (by omega) _).mono ?_; rintro e w' ⟨rfl, rfl⟩) | (go_at_call 8; refine (size_w _ _ (sz_alloc (sz_alloc H.out _) _)).mono ?_; rintro e w' ⟨rfl, rfl⟩) | (go_at_call 10; refine (ext_w _ _ (by omega) (by omega) _).mono ?_; rintro e w' ⟨rfl, rfl⟩) | (go_at_call 14; refine (lalu_w _ _ _ _ (by omega) (by omega) (by omega) (by omega) _).mono ?_; rintro e w' ⟨rfl, rfl⟩) | (go_at_call 12; refine (known_w _).mono ?_; rintro e w' ⟨rfl, rfl⟩))
          go_round
          case rel => exact .inr (.inr (.inr (.inr (.inr (rfl)))))
          case measure => simp [intOf]
        · obtain ⟨x1, x2, x3, x4, x5⟩ := ends
          go_wp2_with (first | (go_at_call 13; refine (alu_w _ _ _ _ (by omega) (by omega) (by omega) (by omega) _).mono ?_; rintro e w' ⟨rfl, rfl⟩) | (go_at_call 6; refine (br_w _ _ _ (by omega) (by omega) (by omega) (by omega) _).mono ?_; rintro e w' ⟨rfl, rfl⟩) | (go_at_call 8; refine (size_w _ _ (sz_alloc (sz_alloc H.out _) _)).mono ?_; rintro e w' ⟨rfl, rfl⟩) | (go_at_call 10; refine (ext_w _ _ (by omega) (by omega) _).mono ?_; rintro e w' ⟨rfl, rfl⟩) | (go_at_call 14; refine (lalu_w _ _ _ _ (by omega) (by omega) (by omega) (by omega) _).mono ?_; rintro e w' ⟨rfl, rfl⟩) | (go_at_call 12; refine (known_w _).mono ?_; rintro e w' ⟨rfl, rfl⟩))
          go_ret
          exact ⟨rfl, ((Grown.refl _).alloc _ _).alloc _ _⟩
end Go.Proofs.YtglhfdamgblhdaaDoor.wordKnown
