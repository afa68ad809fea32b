/-
  What the laws of layer 7 share: Decode at a word whose instruction is known, two instructions held against each other, the chapter's words. No condition.
  What may stand in an instruction of layer 7: registers, widths, numbers. No condition.
  What an instruction of layer 9 is like; no word is one here and one of layer 7. No condition.
-/
import Derived.Test.YtlfeandnpflaaaaGreatDoorIDec
import Derived.Test.YtlfeandnpflaaaaGreatDoorMI
namespace Go.Proofs.YtlfeandnpflaaaaGreatDoor
open Go.ChangeShapes Go.WideShapes Go.ChangeAt Go.RowKit
set_option linter.unusedVariables false
set_option linter.unusedSimpArgs false

theorem decode_at (x : Int) (x0 : 0 ≤ x) (x1 : x < 4294967296) (o : Option Ins) (ho : spec x = o) (w : World) :
    Calls Tryz.prog 18 #[.int .u32 x] w fun e w' => e = .returned (decV o x) ∧ Kp w w' := by subst ho; exact decode_w x x0 x1 w
theorem ins_eql (op fn rd r1 r2 imm wid : Int) (wo us : Bool) (len raw : Int) (w : World) :
    (binOp .eql 24 (.agg #[.int .i64 op, .int .i64 fn, .int .i64 rd, .int .i64 r1, .int .i64 r2, .int .i64 imm, .int .i64 wid, .bool wo, .bool us, .int .i64 len, .int .u32 raw]) (.agg #[.int .i64 op, .int .i64 fn, .int .i64 rd, .int .i64 r1, .int .i64 r2, .int .i64 imm, .int .i64 wid, .bool wo, .bool us, .int .i64 len, .int .u32 raw])).run Tryz.prog w = .ok (.bool true) w := by
  simp [go_sem]
theorem ins_neq (op fn rd r1 r2 imm wid : Int) (wo us : Bool) (len raw : Int) (w : World) :
    (binOp .neq 24 (.agg #[.int .i64 op, .int .i64 fn, .int .i64 rd, .int .i64 r1, .int .i64 r2, .int .i64 imm, .int .i64 wid, .bool wo, .bool us, .int .i64 len, .int .u32 raw]) (.agg #[.int .i64 op, .int .i64 fn, .int .i64 rd, .int .i64 r1, .int .i64 r2, .int .i64 imm, .int .i64 wid, .bool wo, .bool us, .int .i64 len, .int .u32 raw])).run Tryz.prog w = .ok (.bool false) w := by
  simp [go_sem]
theorem sp_a : spec 10487059 = some ⟨8, 0, 10, 0, 0, 10, 0, false, false⟩ := by decide
theorem sp_b : spec 4261416675 = some ⟨5, 0, 0, 0, 0, -4, 0, false, false⟩ := by decide
theorem sp_0 : spec 0 = none := by decide
end Go.Proofs.YtlfeandnpflaaaaGreatDoor
namespace Go.Proofs.YtlfeandnpflaaaaGreatDoor
open Go.ChangeShapes Go.WideShapes Go.ChangeAt Go.RowKit
set_option linter.unusedVariables false
set_option linter.unusedSimpArgs false

/-- What an instruction's class may have for a number. -/
def NumP (i : Ins) : Prop :=
  ((i.op = 1 ∨ i.op = 2) ∧ i.imm % 4096 = 0 ∧ -2147483648 ≤ i.imm ∧ i.imm ≤ 2147479552)
  ∨ (i.op = 3 ∧ i.imm % 2 = 0 ∧ -1048576 ≤ i.imm ∧ i.imm ≤ 1048574)
  ∨ (i.op = 5 ∧ i.imm % 2 = 0 ∧ -4096 ≤ i.imm ∧ i.imm ≤ 4094)
  ∨ ((i.op = 4 ∨ i.op = 6 ∨ i.op = 7) ∧ -2048 ≤ i.imm ∧ i.imm ≤ 2047)
  ∨ (i.op = 8 ∧ (¬ i.fn = 1 ∧ ¬ i.fn = 5 ∧ ¬ i.fn = 9) ∧ -2048 ≤ i.imm ∧ i.imm ≤ 2047)
  ∨ (i.op = 8 ∧ (i.fn = 1 ∨ i.fn = 5 ∨ i.fn = 9) ∧ 0 ≤ i.imm ∧ i.imm ≤ 63 ∧ (i.wo = true → i.imm < 32))
  ∨ (i.op = 19 ∧ 0 ≤ i.imm ∧ i.imm ≤ 4095 ∧ 1 ≤ i.fn ∧ i.fn ≤ 3)
  ∨ ((9 ≤ i.op ∧ i.op ≤ 22 ∧ ¬ i.op = 19) ∧ i.imm = 0)
def RegP (i : Ins) : Prop := (0 ≤ i.rd ∧ i.rd ≤ 31) ∧ (0 ≤ i.r1 ∧ i.r1 ≤ 31) ∧ (0 ≤ i.r2 ∧ i.r2 ≤ 31) ∧ (0 ≤ i.wid ∧ i.wid ≤ 6)
def FineP (i : Ins) : Prop := RegP i ∧ NumP i
theorem fine_upper1 (x : Int) (i : Ins) (h : spUpper 1 x = some i) : FineP i := by
  have b1 := fl_bd x 128 32 (by omega)
  have b2 := fl_bd x 4096 8 (by omega)
  have b3 := fl_bd x 32768 32 (by omega)
  have b4 := fl_bd x 1048576 32 (by omega)
  have b5 := fl_bd x 1048576 64 (by omega)
  have b6 := fl_bd x 1048576 4096 (by omega)
  have b7 := iI_bd x
  have b8 := iS_bd x
  have b9 := iB_bd x
  have b10 := iJ_bd x
  have b11 := iU_bd x
  have b12 := iB_ev x
  have b13 := iJ_ev x
  unfold spUpper at h
  repeat' split at h
  all_goals first | (cases h; done) | (cases h; refine ⟨by simp only [RegP]; omega, ?_⟩; simp only [NumP]; first | omega | (simp; omega) | simp)
theorem fine_upper2 (x : Int) (i : Ins) (h : spUpper 2 x = some i) : FineP i := by
  have b1 := fl_bd x 128 32 (by omega)
  have b2 := fl_bd x 4096 8 (by omega)
  have b3 := fl_bd x 32768 32 (by omega)
  have b4 := fl_bd x 1048576 32 (by omega)
  have b5 := fl_bd x 1048576 64 (by omega)
  have b6 := fl_bd x 1048576 4096 (by omega)
  have b7 := iI_bd x
  have b8 := iS_bd x
  have b9 := iB_bd x
  have b10 := iJ_bd x
  have b11 := iU_bd x
  have b12 := iB_ev x
  have b13 := iJ_ev x
  unfold spUpper at h
  repeat' split at h
  all_goals first | (cases h; done) | (cases h; refine ⟨by simp only [RegP]; omega, ?_⟩; simp only [NumP]; first | omega | (simp; omega) | simp)
theorem fine_jal (x : Int) (i : Ins) (h : spJal x = some i) : FineP i := by
  have b1 := fl_bd x 128 32 (by omega)
  have b2 := fl_bd x 4096 8 (by omega)
  have b3 := fl_bd x 32768 32 (by omega)
  have b4 := fl_bd x 1048576 32 (by omega)
  have b5 := fl_bd x 1048576 64 (by omega)
  have b6 := fl_bd x 1048576 4096 (by omega)
  have b7 := iI_bd x
  have b8 := iS_bd x
  have b9 := iB_bd x
  have b10 := iJ_bd x
  have b11 := iU_bd x
  have b12 := iB_ev x
  have b13 := iJ_ev x
  unfold spJal at h
  repeat' split at h
  all_goals first | (cases h; done) | (cases h; refine ⟨by simp only [RegP]; omega, ?_⟩; simp only [NumP]; first | omega | (simp; omega) | simp)
theorem fine_jalr (x : Int) (i : Ins) (h : spJalr x = some i) : FineP i := by
  have b1 := fl_bd x 128 32 (by omega)
  have b2 := fl_bd x 4096 8 (by omega)
  have b3 := fl_bd x 32768 32 (by omega)
  have b4 := fl_bd x 1048576 32 (by omega)
  have b5 := fl_bd x 1048576 64 (by omega)
  have b6 := fl_bd x 1048576 4096 (by omega)
  have b7 := iI_bd x
  have b8 := iS_bd x
  have b9 := iB_bd x
  have b10 := iJ_bd x
  have b11 := iU_bd x
  have b12 := iB_ev x
  have b13 := iJ_ev x
  unfold spJalr at h
  repeat' split at h
  all_goals first | (cases h; done) | (cases h; refine ⟨by simp only [RegP]; omega, ?_⟩; simp only [NumP]; first | omega | (simp; omega) | simp)
theorem fine_branch (x : Int) (i : Ins) (h : spBranch x = some i) : FineP i := by
  have b1 := fl_bd x 128 32 (by omega)
  have b2 := fl_bd x 4096 8 (by omega)
  have b3 := fl_bd x 32768 32 (by omega)
  have b4 := fl_bd x 1048576 32 (by omega)
  have b5 := fl_bd x 1048576 64 (by omega)
  have b6 := fl_bd x 1048576 4096 (by omega)
  have b7 := iI_bd x
  have b8 := iS_bd x
  have b9 := iB_bd x
  have b10 := iJ_bd x
  have b11 := iU_bd x
  have b12 := iB_ev x
  have b13 := iJ_ev x
  unfold spBranch at h
  repeat' split at h
  all_goals first | (cases h; done) | (cases h; refine ⟨by simp only [RegP]; omega, ?_⟩; simp only [NumP]; first | omega | (simp; omega) | simp)
theorem fine_load (x : Int) (i : Ins) (h : spLoad x = some i) : FineP i := by
  have b1 := fl_bd x 128 32 (by omega)
  have b2 := fl_bd x 4096 8 (by omega)
  have b3 := fl_bd x 32768 32 (by omega)
  have b4 := fl_bd x 1048576 32 (by omega)
  have b5 := fl_bd x 1048576 64 (by omega)
  have b6 := fl_bd x 1048576 4096 (by omega)
  have b7 := iI_bd x
  have b8 := iS_bd x
  have b9 := iB_bd x
  have b10 := iJ_bd x
  have b11 := iU_bd x
  have b12 := iB_ev x
  have b13 := iJ_ev x
  unfold spLoad at h
  repeat' split at h
  all_goals first | (cases h; done) | (cases h; refine ⟨by simp only [RegP]; omega, ?_⟩; simp only [NumP]; first | omega | (simp; omega) | simp)
theorem fine_store (x : Int) (i : Ins) (h : spStore x = some i) : FineP i := by
  have b1 := fl_bd x 128 32 (by omega)
  have b2 := fl_bd x 4096 8 (by omega)
  have b3 := fl_bd x 32768 32 (by omega)
  have b4 := fl_bd x 1048576 32 (by omega)
  have b5 := fl_bd x 1048576 64 (by omega)
  have b6 := fl_bd x 1048576 4096 (by omega)
  have b7 := iI_bd x
  have b8 := iS_bd x
  have b9 := iB_bd x
  have b10 := iJ_bd x
  have b11 := iU_bd x
  have b12 := iB_ev x
  have b13 := iJ_ev x
  unfold spStore at h
  repeat' split at h
  all_goals first | (cases h; done) | (cases h; refine ⟨by simp only [RegP]; omega, ?_⟩; simp only [NumP]; first | omega | (simp; omega) | simp)
theorem fine_fence (x : Int) (i : Ins) (h : spFence x = some i) : FineP i := by
  have b1 := fl_bd x 128 32 (by omega)
  have b2 := fl_bd x 4096 8 (by omega)
  have b3 := fl_bd x 32768 32 (by omega)
  have b4 := fl_bd x 1048576 32 (by omega)
  have b5 := fl_bd x 1048576 64 (by omega)
  have b6 := fl_bd x 1048576 4096 (by omega)
  have b7 := iI_bd x
  have b8 := iS_bd x
  have b9 := iB_bd x
  have b10 := iJ_bd x
  have b11 := iU_bd x
  have b12 := iB_ev x
  have b13 := iJ_ev x
  unfold spFence at h
  repeat' split at h
  all_goals first | (cases h; done) | (cases h; refine ⟨by simp only [RegP]; omega, ?_⟩; simp only [NumP]; first | omega | (simp; omega) | simp)
theorem fine_imm (x : Int) (i : Ins) (h : spImm x = some i) : FineP i := by
  have b1 := fl_bd x 128 32 (by omega)
  have b2 := fl_bd x 4096 8 (by omega)
  have b3 := fl_bd x 32768 32 (by omega)
  have b4 := fl_bd x 1048576 32 (by omega)
  have b5 := fl_bd x 1048576 64 (by omega)
  have b6 := fl_bd x 1048576 4096 (by omega)
  have b7 := iI_bd x
  have b8 := iS_bd x
  have b9 := iB_bd x
  have b10 := iJ_bd x
  have b11 := iU_bd x
  have b12 := iB_ev x
  have b13 := iJ_ev x
  unfold spImm at h
  repeat' split at h
  all_goals first | (cases h; done) | (cases h; refine ⟨by simp only [RegP]; omega, ?_⟩; simp only [NumP]; first | omega | (simp; omega) | simp)
theorem fine_alu (x : Int) (i : Ins) (h : spAlu x = some i) : FineP i := by
  have b1 := fl_bd x 128 32 (by omega)
  have b2 := fl_bd x 4096 8 (by omega)
  have b3 := fl_bd x 32768 32 (by omega)
  have b4 := fl_bd x 1048576 32 (by omega)
  have b5 := fl_bd x 1048576 64 (by omega)
  have b6 := fl_bd x 1048576 4096 (by omega)
  have b7 := iI_bd x
  have b8 := iS_bd x
  have b9 := iB_bd x
  have b10 := iJ_bd x
  have b11 := iU_bd x
  have b12 := iB_ev x
  have b13 := iJ_ev x
  unfold spAlu at h
  repeat' split at h
  all_goals first | (cases h; done) | (cases h; refine ⟨by simp only [RegP]; omega, ?_⟩; simp only [NumP]; first | omega | (simp; omega) | simp)
theorem fine_amo (x : Int) (i : Ins) (h : spAmo x = some i) : FineP i := by
  have b1 := fl_bd x 128 32 (by omega)
  have b2 := fl_bd x 4096 8 (by omega)
  have b3 := fl_bd x 32768 32 (by omega)
  have b4 := fl_bd x 1048576 32 (by omega)
  have b5 := fl_bd x 1048576 64 (by omega)
  have b6 := fl_bd x 1048576 4096 (by omega)
  have b7 := iI_bd x
  have b8 := iS_bd x
  have b9 := iB_bd x
  have b10 := iJ_bd x
  have b11 := iU_bd x
  have b12 := iB_ev x
  have b13 := iJ_ev x
  unfold spAmo at h
  repeat' split at h
  all_goals first | (cases h; done) | (cases h; refine ⟨by simp only [RegP]; omega, ?_⟩; simp only [NumP]; first | omega | (simp; omega) | simp)
theorem fine_sys (x : Int) (i : Ins) (h : spSys x = some i) : FineP i := by
  have b1 := fl_bd x 128 32 (by omega)
  have b2 := fl_bd x 4096 8 (by omega)
  have b3 := fl_bd x 32768 32 (by omega)
  have b4 := fl_bd x 1048576 32 (by omega)
  have b5 := fl_bd x 1048576 64 (by omega)
  have b6 := fl_bd x 1048576 4096 (by omega)
  have b7 := iI_bd x
  have b8 := iS_bd x
  have b9 := iB_bd x
  have b10 := iJ_bd x
  have b11 := iU_bd x
  have b12 := iB_ev x
  have b13 := iJ_ev x
  unfold spSys at h
  repeat' split at h
  all_goals first | (cases h; done) | (cases h; refine ⟨by simp only [RegP]; omega, ?_⟩; simp only [NumP]; first | omega | (simp; omega) | simp)
theorem nar_some {o : Option Ins} {i : Ins} (h : nar o = some i) : ∃ j, o = some j ∧ narB { j with wo := true } = true ∧ i = { j with wo := true } := by
  cases o with
  | none => cases h
  | some j =>
    simp only [nar] at h
    split at h
    · rename_i hb; cases h; exact ⟨j, rfl, hb, rfl⟩
    · cases h
theorem fine_nar (o : Option Ins) (i : Ins) (h : nar o = some i) (ho : ∀ j, o = some j → FineP j) : FineP i := by
  obtain ⟨j, hj, hb, rfl⟩ := nar_some h
  obtain ⟨hr, hn⟩ := ho j hj
  refine ⟨hr, ?_⟩
  obtain ⟨op, fn, rd, r1, r2, imm, wid, wo, us⟩ := j
  simp only [narB, shiftB] at hb
  simp only [NumP] at hn ⊢
  rcases hn with h | h | h | h | h | h | h | h
  · exact Or.inl h
  · exact Or.inr (Or.inl h)
  · exact Or.inr (Or.inr (Or.inl h))
  · exact Or.inr (Or.inr (Or.inr (Or.inl h)))
  · exact Or.inr (Or.inr (Or.inr (Or.inr (Or.inl h))))
  · obtain ⟨h8, hf, h0, h1, h2⟩ := h
    refine Or.inr (Or.inr (Or.inr (Or.inr (Or.inr (Or.inl ⟨h8, hf, h0, h1, fun _ => ?_⟩)))))
    subst h8
    simp at hb
    omega
  · exact Or.inr (Or.inr (Or.inr (Or.inr (Or.inr (Or.inr (Or.inl h))))))
  · exact Or.inr (Or.inr (Or.inr (Or.inr (Or.inr (Or.inr (Or.inr h))))))
theorem fine (x : Int) (i : Ins) (h : spec x = some i) : FineP i := by
  rcases (show fl x 1 128 = 3 ∨ fl x 1 128 = 15 ∨ fl x 1 128 = 19 ∨ fl x 1 128 = 23 ∨ fl x 1 128 = 27 ∨ fl x 1 128 = 35 ∨ fl x 1 128 = 47 ∨ fl x 1 128 = 51 ∨ fl x 1 128 = 55 ∨ fl x 1 128 = 59 ∨ fl x 1 128 = 99 ∨ fl x 1 128 = 103 ∨ fl x 1 128 = 111 ∨ fl x 1 128 = 115 ∨ (¬ fl x 1 128 = 3 ∧ ¬ fl x 1 128 = 15 ∧ ¬ fl x 1 128 = 19 ∧ ¬ fl x 1 128 = 23 ∧ ¬ fl x 1 128 = 27 ∧ ¬ fl x 1 128 = 35 ∧ ¬ fl x 1 128 = 47 ∧ ¬ fl x 1 128 = 51 ∧ ¬ fl x 1 128 = 55 ∧ ¬ fl x 1 128 = 59 ∧ ¬ fl x 1 128 = 99 ∧ ¬ fl x 1 128 = 103 ∧ ¬ fl x 1 128 = 111 ∧ ¬ fl x 1 128 = 115) by omega) with g | g | g | g | g | g | g | g | g | g | g | g | g | g | g
  · have e : spec x = spLoad x := by simp [spec, g]
    rw [e] at h; exact fine_load x i h
  · have e : spec x = spFence x := by simp [spec, g]
    rw [e] at h; exact fine_fence x i h
  · have e : spec x = spImm x := by simp [spec, g]
    rw [e] at h; exact fine_imm x i h
  · have e : spec x = spUpper 2 x := by simp [spec, g]
    rw [e] at h; exact fine_upper2 x i h
  · have e : spec x = nar (spImm x) := by simp [spec, g]
    rw [e] at h; exact fine_nar _ i h (fine_imm x)
  · have e : spec x = spStore x := by simp [spec, g]
    rw [e] at h; exact fine_store x i h
  · have e : spec x = spAmo x := by simp [spec, g]
    rw [e] at h; exact fine_amo x i h
  · have e : spec x = spAlu x := by simp [spec, g]
    rw [e] at h; exact fine_alu x i h
  · have e : spec x = spUpper 1 x := by simp [spec, g]
    rw [e] at h; exact fine_upper1 x i h
  · have e : spec x = nar (spAlu x) := by simp [spec, g]
    rw [e] at h; exact fine_nar _ i h (fine_alu x)
  · have e : spec x = spBranch x := by simp [spec, g]
    rw [e] at h; exact fine_branch x i h
  · have e : spec x = spJalr x := by simp [spec, g]
    rw [e] at h; exact fine_jalr x i h
  · have e : spec x = spJal x := by simp [spec, g]
    rw [e] at h; exact fine_jal x i h
  · have e : spec x = spSys x := by simp [spec, g]
    rw [e] at h; exact fine_sys x i h
  · have e : spec x = none := by
      obtain ⟨h3, h15, h19, h23, h27, h35, h47, h51, h55, h59, h99, h103, h111, h115⟩ := g
      simp [spec, h3, h15, h19, h23, h27, h35, h47, h51, h55, h59, h99, h103, h111, h115]
    rw [e] at h; cases h
end Go.Proofs.YtlfeandnpflaaaaGreatDoor
namespace Go.Proofs.YtlfeandnpflaaaaGreatDoor
open Go.ChangeShapes Go.WideShapes Go.ChangeAt Go.RowKit
set_option linter.unusedVariables false
set_option linter.unusedSimpArgs false

def FineD (i : Ins) : Prop := ((0 ≤ i.rd ∧ i.rd ≤ 31) ∧ (0 ≤ i.r1 ∧ i.r1 ≤ 31) ∧ (0 ≤ i.r2 ∧ i.r2 ≤ 31)) ∧ ((23 ≤ i.op ∧ i.op ≤ 29) ∨ ((i.op = 6 ∨ i.op = 7) ∧ i.wid = 7))
theorem fined_one (x : Int) (i : Ins) (h : dsOne x = some i) : FineD i := by
  have brd := fl_bd x 128 32 (by omega)
  have bf3 := fl_bd x 4096 8 (by omega)
  have br1 := fl_bd x 32768 32 (by omega)
  have br2 := fl_bd x 1048576 32 (by omega)
  have bf7 := fl_bd x 33554432 128 (by omega)
  unfold dsOne at h
  repeat' split at h
  all_goals first
    | (simp at h; done)
    | (simp only [Option.some.injEq] at h; subst h; unfold FineD; dsimp only; omega)
theorem fined_load (x : Int) (i : Ins) (h : dsLoad x = some i) : FineD i := by
  have brd := fl_bd x 128 32 (by omega)
  have bf3 := fl_bd x 4096 8 (by omega)
  have br1 := fl_bd x 32768 32 (by omega)
  have br2 := fl_bd x 1048576 32 (by omega)
  have bf7 := fl_bd x 33554432 128 (by omega)
  unfold dsLoad at h
  repeat' split at h
  all_goals first
    | (simp at h; done)
    | (simp only [Option.some.injEq] at h; subst h; unfold FineD; dsimp only; omega)
theorem fined_store (x : Int) (i : Ins) (h : dsStore x = some i) : FineD i := by
  have brd := fl_bd x 128 32 (by omega)
  have bf3 := fl_bd x 4096 8 (by omega)
  have br1 := fl_bd x 32768 32 (by omega)
  have br2 := fl_bd x 1048576 32 (by omega)
  have bf7 := fl_bd x 33554432 128 (by omega)
  unfold dsStore at h
  repeat' split at h
  all_goals first
    | (simp at h; done)
    | (simp only [Option.some.injEq] at h; subst h; unfold FineD; dsimp only; omega)
theorem fined_reg (x : Int) (i : Ins) (h : dsReg x = some i) : FineD i := by
  have brd := fl_bd x 128 32 (by omega)
  have bf3 := fl_bd x 4096 8 (by omega)
  have br1 := fl_bd x 32768 32 (by omega)
  have br2 := fl_bd x 1048576 32 (by omega)
  have bf7 := fl_bd x 33554432 128 (by omega)
  unfold dsReg at h
  repeat' split at h
  all_goals first
    | exact fined_one x i h
    | exact fined_load x i h
    | exact fined_store x i h
    | (simp at h; done)
    | (simp only [Option.some.injEq] at h; subst h; unfold FineD; dsimp only; omega)
theorem fined_cap (x : Int) (i : Ins) (h : dsCap x = some i) : FineD i := by
  have brd := fl_bd x 128 32 (by omega)
  have bf3 := fl_bd x 4096 8 (by omega)
  have br1 := fl_bd x 32768 32 (by omega)
  have br2 := fl_bd x 1048576 32 (by omega)
  have bf7 := fl_bd x 33554432 128 (by omega)
  unfold dsCap at h
  repeat' split at h
  all_goals first
    | exact fined_reg x i h
    | (simp at h; done)
    | (simp only [Option.some.injEq] at h; subst h; unfold FineD; dsimp only; omega)
theorem fined_all (x : Int) (i : Ins) (h : dspec x = some i) : FineD i := by
  have brd := fl_bd x 128 32 (by omega)
  have bf3 := fl_bd x 4096 8 (by omega)
  have br1 := fl_bd x 32768 32 (by omega)
  have br2 := fl_bd x 1048576 32 (by omega)
  have bf7 := fl_bd x 33554432 128 (by omega)
  unfold dspec at h
  repeat' split at h
  all_goals first
    | exact fined_cap x i h
    | (simp at h; done)
    | (simp only [Option.some.injEq] at h; subst h; unfold FineD; dsimp only; omega)
theorem fined (x : Int) (i : Ins) (h : dspec x = some i) : FineD i := fined_all x i h
theorem dapart (x : Int) (i : Ins) (h : dspec x = some i) : spec x = none := by
  unfold dspec at h
  split at h
  · rename_i ho
    split at h
    · rename_i hf
      simp [spec, ho, spFence, hf]
    · simp at h
  · split at h
    · rename_i ho
      split at h
      · rename_i hf
        simp [spec, ho, spStore, hf]
      · simp at h
    · split at h
      · rename_i ho
        simp [spec, ho]
      · simp at h
end Go.Proofs.YtlfeandnpflaaaaGreatDoor
