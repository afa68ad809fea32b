/-
  The UART and the switch: their states, what calls answer and leave. No condition.
-/
import Derived.Test.YtikibfpfieoabaaKp
import Derived.Laws.BitsAllLaws
namespace Go.Proofs.Ytikibfpfieoabaa
set_option linter.unusedVariables false
set_option linter.unusedSimpArgs false
/-- The bytes that wait; whether it is enabled; the byte that was told. -/
structure US where
  l : List Int
  en : Bool
  told : Int
structure US.Ok (S : US) : Prop where
  len : S.l.length ≤ 16
  by0 : ∀ x ∈ S.l, 0 ≤ x
  by1 : ∀ x ∈ S.l, x < 256
  t0 : -1 ≤ S.told
  t1 : S.told < 256
def US.new : US := ⟨[], false, -1⟩
theorem US.new_ok : US.new.Ok := ⟨by decide, by simp [US.new], by simp [US.new], by decide, by decide⟩
def US.inO (S : US) : Bool := decide (S.l.length < 16)
def US.inp (S : US) (b : Int) : US := if S.l.length < 16 then { S with l := S.l ++ [b] } else S
def US.out (S : US) : US := { S with told := -1 }
/-- Is there such a register? -/
def rgU (off size : Int) : Bool := size == 1 && (decide (0 ≤ off) && decide (off < 8))
def US.val (S : US) (off : Int) : Int := if off = 0 then S.l.headD 0 else if off = 1 then (if S.en = true then 1 else 0) else if off = 5 then (if S.l = [] then 96 else 97) else 0
def US.ldV (S : US) (off size : Int) : Int := if rgU off size = true then S.val off else 0
def US.ldS (S : US) (off size : Int) : US := if rgU off size = true ∧ off = 0 then { S with l := S.l.tail } else S
def US.stS (S : US) (off size v : Int) : US := if rgU off size = true then (if off = 0 then { S with told := v % 256 } else if off = 1 then { S with en := v % 2 == 1 } else S) else S
theorem US.Ok.inp {S : US} (h : S.Ok) (b : Int) (b0 : 0 ≤ b) (b1 : b < 256) : (S.inp b).Ok := by
  unfold US.inp
  split
  · refine ⟨by simp; omega, fun x hx => ?_, fun x hx => ?_, h.t0, h.t1⟩
    · rcases List.mem_append.1 hx with hx | hx
      · exact h.by0 x hx
      · simp at hx; omega
    · rcases List.mem_append.1 hx with hx | hx
      · exact h.by1 x hx
      · simp at hx; omega
  · exact h
theorem US.Ok.out {S : US} (h : S.Ok) : S.out.Ok := ⟨h.len, h.by0, h.by1, show (-1 : Int) ≤ -1 by decide, show (-1 : Int) < 256 by decide⟩
theorem US.Ok.ldS {S : US} (h : S.Ok) (off size : Int) : (S.ldS off size).Ok := by
  unfold US.ldS
  split
  · exact ⟨by simp; have := h.len; omega, fun x hx => h.by0 x (List.mem_of_mem_tail hx), fun x hx => h.by1 x (List.mem_of_mem_tail hx), h.t0, h.t1⟩
  · exact h
theorem US.Ok.stS {S : US} (h : S.Ok) (off size v : Int) : (S.stS off size v).Ok := by
  unfold US.stS
  split
  · split
    · exact ⟨h.len, h.by0, h.by1, by show -1 ≤ v % 256; omega, by show v % 256 < 256; omega⟩
    · split
      · exact ⟨h.len, h.by0, h.by1, h.t0, h.t1⟩
      · exact h
  · exact h
theorem US.Ok.head_bd {S : US} (h : S.Ok) : 0 ≤ S.l.headD 0 ∧ S.l.headD 0 < 256 := by
  cases e : S.l with
  | nil => decide
  | cons x r => exact ⟨h.by0 x (by rw [e]; simp), h.by1 x (by rw [e]; simp)⟩
theorem US.Ok.ldV_bd {S : US} (h : S.Ok) (off size : Int) : 0 ≤ S.ldV off size ∧ S.ldV off size < 256 := by
  have := h.head_bd
  unfold US.ldV US.val
  repeat' split
  all_goals omega
theorem rgU_yes {off size : Int} (h : rgU off size = true) : size = 1 ∧ (off = 0 ∨ off = 1 ∨ off = 2 ∨ off = 3 ∨ off = 4 ∨ off = 5 ∨ off = 6 ∨ off = 7) := by
  simp only [rgU, Bool.and_eq_true, beq_iff_eq, decide_eq_true_eq] at h
  omega
theorem rgU_no {off size : Int} (h : rgU off size = false) : (size == 1) = false ∨ (size = 1 ∧ decide (off < 0) = true) ∨ (size = 1 ∧ decide (off < 0) = false ∧ decide (7 < off) = true) := by
  simp only [rgU, Bool.and_eq_false_iff, beq_eq_false_iff_ne, decide_eq_false_iff_not] at h
  simp only [beq_eq_false_iff_ne, decide_eq_true_eq, decide_eq_false_iff_not]
  omega
/-- The switch's register. -/
def pwO (off size : Int) : Bool := size == 4 && off == 0
def pwS (p : Bool) (off size v : Int) : Bool := if pwO off size = true then (p || v % 4294967296 == 21845) else p
theorem pwO_no {off size : Int} (h : pwO off size = false) : (size == 4) = false ∨ (size = 4 ∧ (off == 0) = false) := by
  simp only [pwO, Bool.and_eq_false_iff, beq_eq_false_iff_ne] at h
  simp only [beq_eq_false_iff_ne]
  omega
end Go.Proofs.Ytikibfpfieoabaa
