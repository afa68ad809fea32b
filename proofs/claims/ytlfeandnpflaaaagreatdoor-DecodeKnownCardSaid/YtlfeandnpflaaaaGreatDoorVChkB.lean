/-
  Halves held against what is asked, row by row (2 of 4). No condition.
-/
import Derived.Test.YtlfeandnpflaaaaGreatDoorVChk
namespace Go.Proofs.YtlfeandnpflaaaaGreatDoor
set_option maxRecDepth 100000 in
theorem t1_0 : allR 1 0 chk = true := by decide +kernel
set_option maxRecDepth 100000 in
theorem t1_1 : allR 1 1 chk = true := by decide +kernel
set_option maxRecDepth 100000 in
theorem t1_2 : allR 1 2 chk = true := by decide +kernel
set_option maxRecDepth 100000 in
theorem t1_3 : allR 1 3 chk = true := by decide +kernel
end Go.Proofs.YtlfeandnpflaaaaGreatDoor
