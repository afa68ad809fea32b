/-
  What a word of layer 7 is: the instruction as the document says it, as a function on numbers; and contracts of base's readers. No condition.
-/
import Derived.Test.YtlfeandnpflaaaaDoorIFld
namespace Go.Proofs.YtlfeandnpflaaaaDoor
open Go.ChangeShapes Go.WideShapes Go.ChangeAt Go.RowKit
set_option linter.unusedVariables false
set_option linter.unusedSimpArgs false

structure Ins where
  op : Int
  fn : Int
  rd : Int
  r1 : Int
  r2 : Int
  imm : Int
  wid : Int
  wo : Bool
  us : Bool
deriving DecidableEq
def Ins.v (i : Ins) (len raw : Int) : Value := .agg #[.int .i64 i.op, .int .i64 i.fn, .int .i64 i.rd, .int .i64 i.r1, .int .i64 i.r2, .int .i64 i.imm, .int .i64 i.wid, .bool i.wo, .bool i.us, .int .i64 len, .int .u32 raw]
def shiftB (fn : Int) : Bool := fn == 1 || fn == 5 || fn == 9
def spUpper (op x : Int) : Option Ins := some ⟨op, 0, (fl x 128 32), 0, 0, iU x, 0, false, false⟩
def spJal (x : Int) : Option Ins := some ⟨3, 0, (fl x 128 32), 0, 0, iJ x, 0, false, false⟩
def spJalr (x : Int) : Option Ins := if (fl x 4096 8) = 0 then some ⟨4, 0, (fl x 128 32), (fl x 32768 32), 0, iI x, 0, false, false⟩ else none
def spBranch (x : Int) : Option Ins := if (fl x 4096 8) = 2 ∨ (fl x 4096 8) = 3 then none else some ⟨5, (fl x 4096 8), 0, (fl x 32768 32), (fl x 1048576 32), iB x, 0, false, false⟩
def spLoad (x : Int) : Option Ins := if (fl x 4096 8) < 7 then some ⟨6, 0, (fl x 128 32), (fl x 32768 32), 0, iI x, (fl x 4096 8), false, false⟩ else none
def spStore (x : Int) : Option Ins := if (fl x 4096 8) < 4 then some ⟨7, 0, 0, (fl x 32768 32), (fl x 1048576 32), iS x, (fl x 4096 8), false, false⟩ else none
def spFence (x : Int) : Option Ins := if (fl x 4096 8) = 0 then some ⟨11, 0, 0, 0, 0, 0, 0, false, false⟩ else if (fl x 4096 8) = 1 then some ⟨12, 0, 0, 0, 0, 0, 0, false, false⟩ else none
/-- An operation with a number: n: what bits 31 to 26 are; s: those from 25. -/
def spImm (x : Int) : Option Ins :=
  if (fl x 4096 8) = 1 ∨ (fl x 4096 8) = 5 then
    if fl x 67108864 64 = 0 then some ⟨8, (fl x 4096 8), (fl x 128 32), (fl x 32768 32), 0, fl x 1048576 64, 0, false, false⟩
    else if fl x 67108864 64 = 16 ∧ (fl x 4096 8) = 5 then some ⟨8, 9, (fl x 128 32), (fl x 32768 32), 0, fl x 1048576 64, 0, false, false⟩ else none
  else some ⟨8, (fl x 4096 8), (fl x 128 32), (fl x 32768 32), 0, iI x, 0, false, false⟩
def spAlu (x : Int) : Option Ins :=
  if (fl x 33554432 128) = 0 then some ⟨9, (fl x 4096 8), (fl x 128 32), (fl x 32768 32), (fl x 1048576 32), 0, 0, false, false⟩
  else if (fl x 33554432 128) = 1 then some ⟨10, (fl x 4096 8), (fl x 128 32), (fl x 32768 32), (fl x 1048576 32), 0, 0, false, false⟩
  else if (fl x 33554432 128) = 32 ∧ (fl x 4096 8) = 0 then some ⟨9, 8, (fl x 128 32), (fl x 32768 32), (fl x 1048576 32), 0, 0, false, false⟩
  else if (fl x 33554432 128) = 32 ∧ (fl x 4096 8) = 5 then some ⟨9, 9, (fl x 128 32), (fl x 32768 32), (fl x 1048576 32), 0, 0, false, false⟩ else none
def amoB (n : Int) : Bool := n == 0 || n == 1 || n == 4 || n == 8 || n == 12 || n == 16 || n == 20 || n == 24 || n == 28
def spAmo (x : Int) : Option Ins :=
  if (fl x 4096 8) = 2 ∨ (fl x 4096 8) = 3 then
    if fl x 134217728 32 = 2 then (if (fl x 1048576 32) = 0 then some ⟨20, 0, (fl x 128 32), (fl x 32768 32), 0, 0, (fl x 4096 8), false, false⟩ else none)
    else if fl x 134217728 32 = 3 then some ⟨21, 0, (fl x 128 32), (fl x 32768 32), (fl x 1048576 32), 0, (fl x 4096 8), false, false⟩
    else if amoB (fl x 134217728 32) then some ⟨22, fl x 134217728 32, (fl x 128 32), (fl x 32768 32), (fl x 1048576 32), 0, (fl x 4096 8), false, false⟩ else none
  else none
def spSys (x : Int) : Option Ins :=
  if x = 115 then some ⟨13, 0, 0, 0, 0, 0, 0, false, false⟩
  else if x = 1048691 then some ⟨14, 0, 0, 0, 0, 0, 0, false, false⟩
  else if x = 807403635 then some ⟨15, 0, 0, 0, 0, 0, 0, false, false⟩
  else if x = 270532723 then some ⟨16, 0, 0, 0, 0, 0, 0, false, false⟩
  else if x = 273678451 then some ⟨17, 0, 0, 0, 0, 0, 0, false, false⟩
  else if (fl x 4096 8) = 0 then (if (fl x 33554432 128) = 9 ∧ (fl x 128 32) = 0 then some ⟨18, 0, 0, (fl x 32768 32), (fl x 1048576 32), 0, 0, false, false⟩ else none)
  else if (fl x 4096 8) = 4 then none
  else some ⟨19, (fl x 4096 8) % 4, (fl x 128 32), (fl x 32768 32), 0, fl x 1048576 4096, 0, false, decide (4 < (fl x 4096 8))⟩
/-- Is an operation one of 32 bits too? -/
def narB (i : Ins) : Bool :=
  if i.op = 10 then i.fn == 0 || decide (4 ≤ i.fn)
  else if i.op = 8 then i.fn == 0 || (shiftB i.fn && decide (i.imm < 32))
  else i.fn == 0 || i.fn == 8 || shiftB i.fn
def nar (o : Option Ins) : Option Ins := match o with
  | none => none
  | some i => if narB { i with wo := true } then some { i with wo := true } else none
def spec (x : Int) : Option Ins :=
  let o := fl x 1 128
  if o = 3 then spLoad x else if o = 15 then spFence x else if o = 19 then spImm x else if o = 23 then spUpper 2 x
  else if o = 27 then nar (spImm x) else if o = 35 then spStore x else if o = 47 then spAmo x else if o = 51 then spAlu x
  else if o = 55 then spUpper 1 x else if o = 59 then nar (spAlu x) else if o = 99 then spBranch x else if o = 103 then spJalr x
  else if o = 111 then spJal x else if o = 115 then spSys x else none
/-- What a reader returns, where the document says s. -/
def RdP (e : Ending) (s : Option Ins) : Prop := ∃ i ok, e = .returned (.tuple #[i.v 0 0, .bool ok]) ∧ s = (if ok then some i else none)
theorem RdP.mk (i : Ins) (ok : Bool) {v : Value} {s : Option Ins} (hv : v = .tuple #[i.v 0 0, .bool ok]) (hs : s = (if ok then some i else none)) : RdP (.returned v) s := ⟨i, ok, by rw [hv], hs⟩
def zIns : Ins := ⟨0, 0, 0, 0, 0, 0, 0, false, false⟩
set_option maxHeartbeats 2000000 in
theorem load_w (x : Int) (x0 : 0 ≤ x) (x1 : x < 4294967296) (w : World) :
    Calls Tryd.prog 37 #[.int .u32 x] w fun e w' => RdP e (spLoad x) ∧ Kp w w' := by
  have brd := fl_bd x 128 32 (by omega)
  have bf3 := fl_bd x 4096 8 (by omega)
  have br1 := fl_bd x 32768 32 (by omega)
  have br2 := fl_bd x 1048576 32 (by omega)
  have bf7 := fl_bd x 33554432 128 (by omega)
  go_enter Tryd.func37, Tryd.ntmps37
  go_wp2_with (first | (go_at_call 76; with_reducible refine (f3_w x x0 x1 _).mono ?_; rintro e' w1 ⟨rfl, rfl⟩) | (go_at_call 77; with_reducible refine (rd_w x x0 x1 _).mono ?_; rintro e' w1 ⟨rfl, rfl⟩) | (go_at_call 78; with_reducible refine (rs1_w x x0 x1 _).mono ?_; rintro e' w1 ⟨rfl, rfl⟩) | (go_at_call 79; with_reducible refine (immI_w x x0 x1 _).mono ?_; rintro e' w1 ⟨rfl, rfl⟩))
  refine bodyPost_ret (v := .tuple #[Ins.v ⟨6, 0, (fl x 128 32), (fl x 32768 32), 0, iI x, (fl x 4096 8), false, false⟩ 0 0, .bool (decide ((fl x 4096 8) ≤ 6))]) (by simp [results, Tryd.results37, go_sem, Ins.v]) rfl ⟨RdP.mk ⟨6, 0, (fl x 128 32), (fl x 32768 32), 0, iI x, (fl x 4096 8), false, false⟩ (decide ((fl x 4096 8) ≤ 6)) rfl (by unfold spLoad; split <;> simp <;> omega), by (repeat' (first | with_reducible refine Kp.setCell ?_ ?_ _ | with_reducible refine Kp.allocs ?_ _ _ | with_reducible refine Kp.drew ?_ | with_reducible refine Kp.drewN ?_ _)); all_goals first | exact Kp.refl w | (dsimp only; omega)⟩
set_option maxHeartbeats 2000000 in
theorem store_w (x : Int) (x0 : 0 ≤ x) (x1 : x < 4294967296) (w : World) :
    Calls Tryd.prog 42 #[.int .u32 x] w fun e w' => RdP e (spStore x) ∧ Kp w w' := by
  have brd := fl_bd x 128 32 (by omega)
  have bf3 := fl_bd x 4096 8 (by omega)
  have br1 := fl_bd x 32768 32 (by omega)
  have br2 := fl_bd x 1048576 32 (by omega)
  have bf7 := fl_bd x 33554432 128 (by omega)
  go_enter Tryd.func42, Tryd.ntmps42
  go_wp2_with (first | (go_at_call 76; with_reducible refine (f3_w x x0 x1 _).mono ?_; rintro e' w1 ⟨rfl, rfl⟩) | (go_at_call 78; with_reducible refine (rs1_w x x0 x1 _).mono ?_; rintro e' w1 ⟨rfl, rfl⟩) | (go_at_call 86; with_reducible refine (rs2_w x x0 x1 _).mono ?_; rintro e' w1 ⟨rfl, rfl⟩) | (go_at_call 87; with_reducible refine (immS_w x x0 x1 _).mono ?_; rintro e' w1 ⟨rfl, rfl⟩))
  refine bodyPost_ret (v := .tuple #[Ins.v ⟨7, 0, 0, (fl x 32768 32), (fl x 1048576 32), iS x, (fl x 4096 8), false, false⟩ 0 0, .bool (decide ((fl x 4096 8) ≤ 3))]) (by simp [results, Tryd.results42, go_sem, Ins.v]) rfl ⟨RdP.mk ⟨7, 0, 0, (fl x 32768 32), (fl x 1048576 32), iS x, (fl x 4096 8), false, false⟩ (decide ((fl x 4096 8) ≤ 3)) rfl (by unfold spStore; split <;> simp <;> omega), by (repeat' (first | with_reducible refine Kp.setCell ?_ ?_ _ | with_reducible refine Kp.allocs ?_ _ _ | with_reducible refine Kp.drew ?_ | with_reducible refine Kp.drewN ?_ _)); all_goals first | exact Kp.refl w | (dsimp only; omega)⟩
set_option maxHeartbeats 2000000 in
theorem jal_w (x : Int) (x0 : 0 ≤ x) (x1 : x < 4294967296) (w : World) :
    Calls Tryd.prog 47 #[.int .u32 x] w fun e w' => RdP e (spJal x) ∧ Kp w w' := by
  have brd := fl_bd x 128 32 (by omega)
  have bf3 := fl_bd x 4096 8 (by omega)
  have br1 := fl_bd x 32768 32 (by omega)
  have br2 := fl_bd x 1048576 32 (by omega)
  have bf7 := fl_bd x 33554432 128 (by omega)
  go_enter Tryd.func47, Tryd.ntmps47
  go_wp2_with (first | (go_at_call 77; with_reducible refine (rd_w x x0 x1 _).mono ?_; rintro e' w1 ⟨rfl, rfl⟩) | (go_at_call 90; with_reducible refine (immJ_w x x0 x1 _).mono ?_; rintro e' w1 ⟨rfl, rfl⟩))
  refine bodyPost_ret (v := .tuple #[Ins.v ⟨3, 0, (fl x 128 32), 0, 0, iJ x, 0, false, false⟩ 0 0, .bool (true)]) (by simp [results, Tryd.results47, go_sem, Ins.v]) rfl ⟨RdP.mk ⟨3, 0, (fl x 128 32), 0, 0, iJ x, 0, false, false⟩ (true) rfl (rfl), by (repeat' (first | with_reducible refine Kp.setCell ?_ ?_ _ | with_reducible refine Kp.allocs ?_ _ _ | with_reducible refine Kp.drew ?_ | with_reducible refine Kp.drewN ?_ _)); all_goals first | exact Kp.refl w | (dsimp only; omega)⟩
set_option maxHeartbeats 2000000 in
theorem jalr_w (x : Int) (x0 : 0 ≤ x) (x1 : x < 4294967296) (w : World) :
    Calls Tryd.prog 46 #[.int .u32 x] w fun e w' => RdP e (spJalr x) ∧ Kp w w' := by
  have brd := fl_bd x 128 32 (by omega)
  have bf3 := fl_bd x 4096 8 (by omega)
  have br1 := fl_bd x 32768 32 (by omega)
  have br2 := fl_bd x 1048576 32 (by omega)
  have bf7 := fl_bd x 33554432 128 (by omega)
  go_enter Tryd.func46, Tryd.ntmps46
  go_wp2_with (first | (go_at_call 76; with_reducible refine (f3_w x x0 x1 _).mono ?_; rintro e' w1 ⟨rfl, rfl⟩) | (go_at_call 77; with_reducible refine (rd_w x x0 x1 _).mono ?_; rintro e' w1 ⟨rfl, rfl⟩) | (go_at_call 78; with_reducible refine (rs1_w x x0 x1 _).mono ?_; rintro e' w1 ⟨rfl, rfl⟩) | (go_at_call 79; with_reducible refine (immI_w x x0 x1 _).mono ?_; rintro e' w1 ⟨rfl, rfl⟩))
  refine bodyPost_ret (v := .tuple #[Ins.v ⟨4, 0, (fl x 128 32), (fl x 32768 32), 0, iI x, 0, false, false⟩ 0 0, .bool ((fl x 4096 8) == 0)]) (by simp [results, Tryd.results46, go_sem, Ins.v]) rfl ⟨RdP.mk ⟨4, 0, (fl x 128 32), (fl x 32768 32), 0, iI x, 0, false, false⟩ ((fl x 4096 8) == 0) rfl (by unfold spJalr; split <;> simp [*]), by (repeat' (first | with_reducible refine Kp.setCell ?_ ?_ _ | with_reducible refine Kp.allocs ?_ _ _ | with_reducible refine Kp.drew ?_ | with_reducible refine Kp.drewN ?_ _)); all_goals first | exact Kp.refl w | (dsimp only; omega)⟩
end Go.Proofs.YtlfeandnpflaaaaDoor
