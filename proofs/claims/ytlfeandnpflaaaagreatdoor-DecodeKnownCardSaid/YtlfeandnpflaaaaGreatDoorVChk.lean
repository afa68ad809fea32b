/-
  What is held of each half, as a truth that can be reckoned: the document's answer is the same; the word is an instruction, of these kinds, and reaches no further; but for some additions the half can be told back from it. No condition.
-/
import Derived.Test.YtlfeandnpflaaaaGreatDoorMD
import Derived.Test.YtlfeandnpflaaaaGreatDoorMB
namespace Go.Proofs.YtlfeandnpflaaaaGreatDoor
open Go.ChangeShapes Go.WideShapes Go.ChangeAt Go.RowKit
set_option linter.unusedVariables false
set_option linter.unusedSimpArgs false
def kindB (i : Ins) : Bool := i.op == 8 || i.op == 9 || i.op == 1 || i.op == 6 || i.op == 7 || i.op == 5 || i.op == 3 || i.op == 4 || i.op == 14
def near (i : Ins) : Bool := decide (8 ≤ i.r1) && decide (i.r1 ≤ 15)
def reachB (i : Ins) : Bool :=
  if i.op = 6 ∨ i.op = 7 then (i.wid == 2 || i.wid == 3) && ((near i && decide (i.imm ≤ 248)) || (i.r1 == 2 && decide (i.imm ≤ 504))) && decide (0 ≤ i.imm) && i.imm % (if i.wid = 3 then 8 else 4) == 0
  else if i.op = 5 then decide (-256 ≤ i.imm) && decide (i.imm ≤ 254) && i.imm % 2 == 0 && i.r2 == 0 && near i
  else if i.op = 3 then decide (-2048 ≤ i.imm) && decide (i.imm ≤ 2046) && i.imm % 2 == 0 && i.rd == 0
  else if i.op = 4 then i.imm == 0 && !(i.r1 == 0) && decide (i.rd ≤ 1) else true
/-- An instruction for which two halves may stand. -/
def twB (i : Ins) : Bool :=
  if i.op = 9 then i.fn == 0 && !i.wo && i.rd == 0 && i.r1 == 0
  else i.op == 8 && i.fn == 0 && !i.wo && i.rd == i.r1 && (i.rd == 0 || (i.rd == 2 && (i.imm == -32 || i.imm == -16 || i.imm == 16)))
def s6 (n : Nat) : Nat := n / 32 % 2 * 4096 + n % 32 * 4
/-- The half that stands for the word v. -/
def bk (v : Nat) : Nat :=
  let rd := v / 128 % 32
  let f := v / 4096 % 8
  let a := v / 32768 % 32
  let b := v / 1048576 % 32
  let n := v / 1048576
  let s := v / 33554432 * 32 + rd
  match v % 128 with
  | 19 => match f with
    | 0 => if a = 0 then 16385 + rd * 128 + s6 n else if a = 2 ∧ 8 ≤ rd then n / 16 % 4 * 2048 + n / 64 % 16 * 128 + n / 4 % 2 * 64 + n / 8 % 2 * 32 + (rd - 8) * 4
        else if a = 2 ∧ n % 16 = 0 ∧ n ≠ 0 then 24833 + n / 512 % 2 * 4096 + n / 16 % 2 * 64 + n / 64 % 2 * 32 + n / 128 % 4 * 8 + n / 32 % 2 * 4 else 1 + rd * 128 + s6 n
    | 1 => 2 + rd * 128 + s6 n
    | 5 => 32769 + n / 1024 % 2 * 1024 + (rd - 8) * 128 + s6 n
    | _ => 34817 + (rd - 8) * 128 + s6 n
  | 27 => 8193 + rd * 128 + s6 n
  | 3 => if a = 2 then (if f = 2 then 16386 + n / 32 % 2 * 4096 + rd * 128 + n / 4 % 8 * 16 + n / 64 % 4 * 4 else 24578 + n / 32 % 2 * 4096 + rd * 128 + n / 8 % 4 * 32 + n / 64 % 8 * 4)
      else if f = 2 then 16384 + n / 8 % 8 * 1024 + n / 4 % 2 * 64 + n / 64 % 2 * 32 + (a - 8) * 128 + (rd - 8) * 4 else 24576 + n / 8 % 8 * 1024 + n / 64 % 4 * 32 + (a - 8) * 128 + (rd - 8) * 4
  | 35 => if a = 2 then (if f = 2 then 49154 + s / 4 % 16 * 512 + s / 64 % 4 * 128 + b * 4 else 57346 + s / 8 % 8 * 1024 + s / 64 % 8 * 128 + b * 4)
      else if f = 2 then 49152 + s / 8 % 8 * 1024 + s / 4 % 2 * 64 + s / 64 % 2 * 32 + (a - 8) * 128 + (b - 8) * 4 else 57344 + s / 8 % 8 * 1024 + s / 64 % 4 * 32 + (a - 8) * 128 + (b - 8) * 4
  | 51 => if v / 33554432 = 32 then 35841 + (rd - 8) * 128 + (b - 8) * 4 else match f with
    | 0 => if a = 0 then 32770 + rd * 128 + b * 4 else 36866 + rd * 128 + b * 4
    | 4 => 35873 + (rd - 8) * 128 + (b - 8) * 4
    | 6 => 35905 + (rd - 8) * 128 + (b - 8) * 4
    | _ => 35937 + (rd - 8) * 128 + (b - 8) * 4
  | 59 => if v / 33554432 = 32 then 39937 + (rd - 8) * 128 + (b - 8) * 4 else 39969 + (rd - 8) * 128 + (b - 8) * 4
  | 55 => 24577 + rd * 128 + s6 (v / 4096 % 64)
  | 99 => 49153 + f * 8192 + v / 268435456 % 2 * 4096 + v / 1024 % 4 * 1024 + (a - 8) * 128 + v / 67108864 % 4 * 32 + v / 256 % 4 * 8 + v / 33554432 % 2 * 4
  | 111 => 40961 + v / 1048576 % 2 * 4096 + v / 16777216 % 2 * 2048 + v / 268435456 % 4 * 512 + v / 1073741824 % 2 * 256 + v / 67108864 % 2 * 128 + v / 134217728 % 2 * 64 + v / 2097152 % 8 * 8 + v / 33554432 % 2 * 4
  | 103 => 32770 + rd * 4096 + a * 128
  | _ => 36866
def chk (x : Nat) : Bool := match ex x with
  | none => dx x == 0
  | some v => dx x == (v : Int) && v != 0 && decide (v < 4294967296) && v % 4 == 3 && x % 4 != 3 && match spec v with
    | none => false
    | some i => kindB i && reachB i && (twB i || bk v == x)
end Go.Proofs.YtlfeandnpflaaaaGreatDoor
