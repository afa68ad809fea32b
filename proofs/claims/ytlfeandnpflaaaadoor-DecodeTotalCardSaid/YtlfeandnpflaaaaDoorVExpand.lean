/-
  Contract of rvc.Expand: of any half the word for which it stands, if for any. No condition but what the tables hold.
-/
import Derived.Test.YtlfeandnpflaaaaDoorVExpA
import Derived.Test.YtlfeandnpflaaaaDoorVExpB
import Derived.Test.YtlfeandnpflaaaaDoorVExpC
import Derived.Test.YtlfeandnpflaaaaDoorVExpD
namespace Go.Proofs.YtlfeandnpflaaaaDoor
theorem expand_w (x : Nat) (hx : x < 65536) (w : World) (tb : Tb w) :
    Calls Tryd.prog 8 #[.int .u16 (x : Int)] w fun e w' => e = .returned (VR (ex x)) ∧ Kp w w' := by
  rcases (show x % 4 = 0 ∨ x % 4 = 1 ∨ x % 4 = 2 ∨ x % 4 = 3 by omega) with l | l | l | l
  · rcases (show x / 8192 = 0 ∨ x / 8192 = 1 ∨ x / 8192 = 2 ∨ x / 8192 = 3 ∨ x / 8192 = 4 ∨ x / 8192 = 5 ∨ x / 8192 = 6 ∨ x / 8192 = 7 by omega) with u | u | u | u | u | u | u | u
    · exact exp_0_0 x hx w tb l u
    · exact exp_0_1 x hx w tb l u
    · exact exp_0_2 x hx w tb l u
    · exact exp_0_3 x hx w tb l u
    · exact exp_0_4 x hx w tb l u
    · exact exp_0_5 x hx w tb l u
    · exact exp_0_6 x hx w tb l u
    · exact exp_0_7 x hx w tb l u
  · rcases (show x / 8192 = 0 ∨ x / 8192 = 1 ∨ x / 8192 = 2 ∨ x / 8192 = 3 ∨ x / 8192 = 4 ∨ x / 8192 = 5 ∨ x / 8192 = 6 ∨ x / 8192 = 7 by omega) with u | u | u | u | u | u | u | u
    · exact exp_1_0 x hx w tb l u
    · exact exp_1_1 x hx w tb l u
    · exact exp_1_2 x hx w tb l u
    · exact exp_1_3 x hx w tb l u
    · exact exp_1_4 x hx w tb l u
    · exact exp_1_5 x hx w tb l u
    · exact exp_1_6 x hx w tb l u
    · exact exp_1_7 x hx w tb l u
  · rcases (show x / 8192 = 0 ∨ x / 8192 = 1 ∨ x / 8192 = 2 ∨ x / 8192 = 3 ∨ x / 8192 = 4 ∨ x / 8192 = 5 ∨ x / 8192 = 6 ∨ x / 8192 = 7 by omega) with u | u | u | u | u | u | u | u
    · exact exp_2_0 x hx w tb l u
    · exact exp_2_1 x hx w tb l u
    · exact exp_2_2 x hx w tb l u
    · exact exp_2_3 x hx w tb l u
    · exact exp_2_4 x hx w tb l u
    · exact exp_2_5 x hx w tb l u
    · exact exp_2_6 x hx w tb l u
    · exact exp_2_7 x hx w tb l u
  · rcases (show x / 8192 = 0 ∨ x / 8192 = 1 ∨ x / 8192 = 2 ∨ x / 8192 = 3 ∨ x / 8192 = 4 ∨ x / 8192 = 5 ∨ x / 8192 = 6 ∨ x / 8192 = 7 by omega) with u | u | u | u | u | u | u | u
    · exact exp_3_0 x hx w tb l u
    · exact exp_3_1 x hx w tb l u
    · exact exp_3_2 x hx w tb l u
    · exact exp_3_3 x hx w tb l u
    · exact exp_3_4 x hx w tb l u
    · exact exp_3_5 x hx w tb l u
    · exact exp_3_6 x hx w tb l u
    · exact exp_3_7 x hx w tb l u
end Go.Proofs.YtlfeandnpflaaaaDoor
