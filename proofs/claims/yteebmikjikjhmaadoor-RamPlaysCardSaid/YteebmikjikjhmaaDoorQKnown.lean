/-
  The chapter's memory, as the statements' known asks. No condition.
-/
import Derived.Test.YteebmikjikjhmaaDoorQAt
namespace Go.Proofs.YteebmikjikjhmaaDoor
open Go.ChangeShapes Go.WideShapes Go.ChangeAt Go.RowKit
set_option linter.unusedVariables false
set_option linter.unusedSimpArgs false
def kB0 : List Int := List.replicate 4096 0
def kT0 : List Bool := List.replicate 256 false
def kB1 : List Int := sB kB0 14 4 16909060
def kT1 : List Bool := sT 4096 kT0 14 4
def kB2 : List Int := cB kB1 32 5 6
def kT2 : List Bool := cT 4096 kT1 32 true
theorem kl0 : kB0.length = 4096 := List.length_replicate
theorem kl1 : kB1.length = 4096 := by rw [kB1, sB_len, kl0]
theorem kl2 : kB2.length = 4096 := by rw [kB2, cB_len, kl1]
theorem kb_1 : sB kB0 14 4 16909060 = kB1 := rfl
theorem kt_1 : sT kB0.length kT0 14 4 = kT1 := by rw [kl0]; rfl
theorem kb_2 : cB kB1 32 5 6 = kB2 := rfl
theorem kt_2 : cT kB1.length kT1 32 true = kT2 := by rw [kl1]; rfl
theorem kn_1 : ldO 4096 14 4 = true := by decide +kernel
theorem kn_2 : cpO 4096 32 = true := by decide +kernel
theorem kn_3 : ldO 4096 16 2 = true := by decide +kernel
theorem kp_1 : ldO kB0.length 14 4 = true := by rw [kl0]; exact kn_1
theorem kp_2 : cpO kB1.length 32 = true := by rw [kl1]; exact kn_2
theorem kp_3 : ldO kB2.length 16 2 = true := by rw [kl2]; exact kn_3
theorem kn_4 : ldN kB2 16 2 = 258 := by decide +kernel
theorem kn_5 : cpT kT2 4096 32 = true := by decide +kernel
theorem kp_4 : cpO kB2.length 32 = true := by rw [kl2]; exact kn_2
theorem kp_5 : cpT kT2 kB2.length 32 = true := by rw [kl2]; exact kn_5
theorem kn_6 : cpA kB2 32 = 5 := by decide +kernel
theorem kn_7 : cpM kB2 32 = 6 := by decide +kernel
theorem kn_8 : tgs 0 kT2 = [32] := by decide +kernel
set_option maxHeartbeats 4000000 in
theorem known11_w (w : World) (tb : Tb w) :
    Calls Tryd.prog 10 #[] w fun e w' => e = .returned (.bool true) ∧ Below w.heap.size w w' := by
  have HTB := Lib.hid tb
  clear tb
  have HN : Hid (∀ w, Calls Tryd.prog 8 #[.int .i64 4096] w fun e w' => ∃ g, e = .returned (.tuple #[.pointer (some ⟨g, 0, none⟩), .int .i64 0]) ∧ Ob w' w.heap.size w'.heap.size g kB0 kT0 ∧ Below w.heap.size w w') := Lib.hid (fun w => cnew_yes 4096 (by decide) w)
  go_enter Tryd.func10, Tryd.ntmps10
  go_wp2_with (first | (go_at_call 8; (with_reducible refine (HN.out _).mono ?_); rintro e' w1 ⟨g, rfl, o1, b1⟩; have sz1 := b1.size; have HO1 := Lib.hid o1; have HB1 := Lib.hid b1; clear o1 b1) | (go_at_call 21; (with_reducible refine (cstore_at HO1.out 14 4 16909060 true kB1 kT1 kb_1 kt_1 kp_1 (by decide) (by decide) (by decide) (by decide) (by decide) (by decide)).mono ?_); rintro e' w2 ⟨rfl, o2, f2⟩; have sz2 := f2.size; have HO2 := Lib.hid o2; have HB2 := Lib.hid (HB1.out.trans (f2.low sz1 (Nat.le_refl _))); clear o2 f2) | (go_at_call 20; (with_reducible refine (cstorecap_at HO2.out 32 true 5 6 true kB2 kT2 kb_2 kt_2 kp_2 (by decide) (by decide) (by decide) (by decide) (by decide) (by decide)).mono ?_); rintro e' w3 ⟨rfl, o3, f3⟩; have sz3 := f3.size; have HO3 := Lib.hid o3; have HB3 := Lib.hid (HB2.out.trans (f3.low (by omega) (Nat.le_refl _))); clear o3 f3) | (go_at_call 17; (with_reducible refine (cload_at HO3.out 16 2 258 true kn_4 kp_3 (by decide) (by decide) (by decide) (by decide)).mono ?_); rintro e' w4 ⟨rfl, b4⟩; have sz4 := b4.size; have HO4 := Lib.hid (HO3.out.below b4); have HB4 := Lib.hid (HB3.out.trans (b4.mono (by omega))); clear b4) | (go_at_call 22; (with_reducible refine (cloadcap_at HO4.out 32 5 6 true true kp_5 kn_6 kn_7 kp_4 (by decide) (by decide)).mono ?_); rintro e' w5 ⟨rfl, b5⟩; have sz5 := b5.size; have HO5 := Lib.hid (HO4.out.below b5); have HB5 := Lib.hid (HB4.out.trans (b5.mono (by omega))); clear b5) | (go_at_call 15; (with_reducible refine (ctagged_at HO5.out [32] kn_8 (Tb.h1 HTB HB5)).mono ?_); rintro e' w6 ⟨v, rfl, rd, b6⟩; have sz6 := b6.size; have HR6 := Lib.hid rd; have HB6 := Lib.hid (HB5.out.trans (b6.mono (by omega))); clear rd b6) | (go_at_call 14; (with_reducible refine (sameI_w [32] [32] _ _ _ (HR6.out.below ((Below.refl _ w6).alloc (Nat.le_refl _) _)) (RdI.one w6 3 32) (by decide) (by decide) true (by decide)).mono ?_); rintro e' w7 ⟨rfl, k7⟩; have HB7 := Lib.hid ((HB6.out.alloc (by omega) _).trans (k7.1.mono (by simp; omega))); clear k7))
  go_ret
  exact ⟨rfl, HB7.out⟩
end Go.Proofs.YteebmikjikjhmaaDoor
