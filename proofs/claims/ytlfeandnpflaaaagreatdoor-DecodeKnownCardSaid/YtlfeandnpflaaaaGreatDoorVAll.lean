/-
  What is held of all halves. No condition.
-/
import Derived.Test.YtlfeandnpflaaaaGreatDoorVChkA
import Derived.Test.YtlfeandnpflaaaaGreatDoorVChkB
import Derived.Test.YtlfeandnpflaaaaGreatDoorVChkC
import Derived.Test.YtlfeandnpflaaaaGreatDoorVChkD
namespace Go.Proofs.YtlfeandnpflaaaaGreatDoor
theorem chk_all (x : Nat) (h : x < 65536) : chk x = true := by
  rcases (show x % 4 = 0 ∨ x % 4 = 1 ∨ x % 4 = 2 ∨ x % 4 = 3 by omega) with l | l | l | l
  · rcases (show x / 8192 = 0 ∨ x / 8192 = 1 ∨ x / 8192 = 2 ∨ x / 8192 = 3 ∨ x / 8192 = 4 ∨ x / 8192 = 5 ∨ x / 8192 = 6 ∨ x / 8192 = 7 by omega) with u | u | u | u | u | u | u | u
    · exact allR_at t0_0 x l u
    · exact allR_at t0_1 x l u
    · exact allR_at t0_2 x l u
    · exact allR_at t0_3 x l u
    · exact allR_at t0_4 x l u
    · exact allR_at t0_5 x l u
    · exact allR_at t0_6 x l u
    · exact allR_at t0_7 x l u
  · rcases (show x / 8192 = 0 ∨ x / 8192 = 1 ∨ x / 8192 = 2 ∨ x / 8192 = 3 ∨ x / 8192 = 4 ∨ x / 8192 = 5 ∨ x / 8192 = 6 ∨ x / 8192 = 7 by omega) with u | u | u | u | u | u | u | u
    · exact allR_at t1_0 x l u
    · exact allR_at t1_1 x l u
    · exact allR_at t1_2 x l u
    · exact allR_at t1_3 x l u
    · exact allR_at t1_4 x l u
    · exact allR_at t1_5 x l u
    · exact allR_at t1_6 x l u
    · exact allR_at t1_7 x l u
  · rcases (show x / 8192 = 0 ∨ x / 8192 = 1 ∨ x / 8192 = 2 ∨ x / 8192 = 3 ∨ x / 8192 = 4 ∨ x / 8192 = 5 ∨ x / 8192 = 6 ∨ x / 8192 = 7 by omega) with u | u | u | u | u | u | u | u
    · exact allR_at t2_0 x l u
    · exact allR_at t2_1 x l u
    · exact allR_at t2_2 x l u
    · exact allR_at t2_3 x l u
    · exact allR_at t2_4 x l u
    · exact allR_at t2_5 x l u
    · exact allR_at t2_6 x l u
    · exact allR_at t2_7 x l u
  · rcases (show x / 8192 = 0 ∨ x / 8192 = 1 ∨ x / 8192 = 2 ∨ x / 8192 = 3 ∨ x / 8192 = 4 ∨ x / 8192 = 5 ∨ x / 8192 = 6 ∨ x / 8192 = 7 by omega) with u | u | u | u | u | u | u | u
    · exact allR_at t3_0 x l u
    · exact allR_at t3_1 x l u
    · exact allR_at t3_2 x l u
    · exact allR_at t3_3 x l u
    · exact allR_at t3_4 x l u
    · exact allR_at t3_5 x l u
    · exact allR_at t3_6 x l u
    · exact allR_at t3_7 x l u
end Go.Proofs.YtlfeandnpflaaaaGreatDoor
