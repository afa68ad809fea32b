/-
  Halves held against what is asked, row by row (1 of 4). No condition.
-/
import Derived.Test.YtlfeandnpflaaaaGreatDoorVChk
namespace Go.Proofs.YtlfeandnpflaaaaGreatDoor
set_option maxRecDepth 100000 in
theorem t0_0 : allR 0 0 chk = true := by decide +kernel
set_option maxRecDepth 100000 in
theorem t0_2 : allR 0 2 chk = true := by decide +kernel
set_option maxRecDepth 100000 in
theorem t0_3 : allR 0 3 chk = true := by decide +kernel
set_option maxRecDepth 100000 in
theorem t0_6 : allR 0 6 chk = true := by decide +kernel
set_option maxRecDepth 100000 in
theorem t0_7 : allR 0 7 chk = true := by decide +kernel
end Go.Proofs.YtlfeandnpflaaaaGreatDoor
