/-
  Halves held against what is asked, row by row (3 of 4). No condition.
-/
import Derived.Test.YtlfeandnpflaaaaGreatDoorVChk
namespace Go.Proofs.YtlfeandnpflaaaaGreatDoor
set_option maxRecDepth 100000 in
theorem t1_4 : allR 1 4 chk = true := by decide +kernel
set_option maxRecDepth 100000 in
theorem t1_5 : allR 1 5 chk = true := by decide +kernel
set_option maxRecDepth 100000 in
theorem t1_6 : allR 1 6 chk = true := by decide +kernel
set_option maxRecDepth 100000 in
theorem t1_7 : allR 1 7 chk = true := by decide +kernel
set_option maxRecDepth 100000 in
theorem t2_0 : allR 2 0 chk = true := by decide +kernel
end Go.Proofs.YtlfeandnpflaaaaGreatDoor
