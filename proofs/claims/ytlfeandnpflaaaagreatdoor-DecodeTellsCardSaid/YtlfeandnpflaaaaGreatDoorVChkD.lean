/-
  Halves held against what is asked, row by row (4 of 4). No condition.
-/
import Derived.Test.YtlfeandnpflaaaaGreatDoorVChk
namespace Go.Proofs.YtlfeandnpflaaaaGreatDoor
set_option maxRecDepth 100000 in
theorem t2_2 : allR 2 2 chk = true := by decide +kernel
set_option maxRecDepth 100000 in
theorem t2_3 : allR 2 3 chk = true := by decide +kernel
set_option maxRecDepth 100000 in
theorem t2_4 : allR 2 4 chk = true := by decide +kernel
set_option maxRecDepth 100000 in
theorem t2_6 : allR 2 6 chk = true := by decide +kernel
set_option maxRecDepth 100000 in
theorem t2_7 : allR 2 7 chk = true := by decide +kernel
set_option maxRecDepth 100000 in
theorem t0_1 : allR 0 1 chk = true := by decide +kernel
set_option maxRecDepth 100000 in
theorem t0_4 : allR 0 4 chk = true := by decide +kernel
set_option maxRecDepth 100000 in
theorem t0_5 : allR 0 5 chk = true := by decide +kernel
set_option maxRecDepth 100000 in
theorem t2_1 : allR 2 1 chk = true := by decide +kernel
set_option maxRecDepth 100000 in
theorem t2_5 : allR 2 5 chk = true := by decide +kernel
set_option maxRecDepth 100000 in
theorem t3_0 : allR 3 0 chk = true := by decide +kernel
set_option maxRecDepth 100000 in
theorem t3_1 : allR 3 1 chk = true := by decide +kernel
set_option maxRecDepth 100000 in
theorem t3_2 : allR 3 2 chk = true := by decide +kernel
set_option maxRecDepth 100000 in
theorem t3_3 : allR 3 3 chk = true := by decide +kernel
set_option maxRecDepth 100000 in
theorem t3_4 : allR 3 4 chk = true := by decide +kernel
set_option maxRecDepth 100000 in
theorem t3_5 : allR 3 5 chk = true := by decide +kernel
set_option maxRecDepth 100000 in
theorem t3_6 : allR 3 6 chk = true := by decide +kernel
set_option maxRecDepth 100000 in
theorem t3_7 : allR 3 7 chk = true := by decide +kernel
end Go.Proofs.YtlfeandnpflaaaaGreatDoor
