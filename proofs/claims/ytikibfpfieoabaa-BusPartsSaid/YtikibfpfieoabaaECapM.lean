/-
  The plain mathematics of capabilities as numbers: fields and bits, there and back. No condition; nothing of a program.
-/
import Derived.Test.YtikibfpfieoabaaERight
namespace Go.Proofs.Ytikibfpfieoabaa
open Go.ChangeShapes Go.WideShapes Go.ChangeAt Go.RowKit
set_option linter.unusedVariables false
set_option linter.unusedSimpArgs false

def fG (x : Int) : Bool := decide (x / 67108864 % 2 = 1)
def fE (x : Int) : Int := if fG x then min (x % 8 + x / 16384 % 8 * 8) 52 else 0
def fB (x : Int) : Int := if fG x then x % 16384 - x % 8 else x % 16384
def fT (x : Int) : Int := if fG x then x / 16384 % 4096 - x / 16384 % 8 else x / 16384 % 4096
def fY (x : Int) : Int := x / 134217728 % 262144
def fM (x : Int) : Int := x / 35184372088832 % 2
def fP (x : Int) : Int := x / 70368744177664 % 65536

/-- A right capability's fields, as bounds. -/
structure RightP (pe ty mo e b t : Int) (g : Bool) : Prop where
  p0 : 0 ≤ pe
  p1 : pe < 65536
  y0 : 0 ≤ ty
  y1 : ty < 262144
  o0 : 0 ≤ mo
  o1 : mo < 2
  b0 : 0 ≤ b
  b1 : b < 16384
  t0 : 0 ≤ t
  t1 : t < 4096
  e0 : 0 ≤ e
  e1 : e ≤ 52
  no : g = false → e = 0
  b8 : g = true → b % 8 = 0
  t8 : g = true → t % 8 = 0
theorem rightP_of {pe ty mo e b t : Int} {g : Bool} (h : rightB pe ty mo e b t g = true) : RightP pe ty mo e b t g := by
  cases g
  · simp [rightB, rbB, fitB] at h
    obtain ⟨⟨⟨⟨a, b⟩, ⟨c, d⟩⟩, ⟨e, f⟩⟩, ⟨⟨g, h⟩, ⟨i, j⟩⟩, k⟩ := h
    exact ⟨a, b, c, d, e, f, g, h, i, j, by omega, by omega, fun _ => k, fun h => (nomatch h), fun h => (nomatch h)⟩
  · simp [rightB, rbB, fitB] at h
    obtain ⟨⟨⟨⟨a, b⟩, ⟨c, d⟩⟩, ⟨e, f⟩⟩, ⟨⟨g, h⟩, ⟨i, j⟩⟩, ⟨⟨k, l⟩, m⟩, n⟩ := h
    exact ⟨a, b, c, d, e, f, g, h, i, j, k, l, fun h => (nomatch h), fun _ => by omega, fun _ => by omega⟩
theorem rightB_of {pe ty mo e b t : Int} {g : Bool} (h : RightP pe ty mo e b t g) : rightB pe ty mo e b t g = true := by
  obtain ⟨a, b, c, d, e, f, g0, h, i, j, k, l, m, n, o⟩ := h
  cases g
  · have := m rfl
    simp [rightB, rbB, fitB]; omega
  · have := n rfl; have := o rfl
    simp [rightB, rbB, fitB]; omega
theorem bits_big {pe ty mo e b t : Int} : bitsV pe ty mo e b t true = b + e % 8 + 16384 * (t + e / 8) + 67108864 + 134217728 * ty + 35184372088832 * mo + 70368744177664 * pe := by simp [bitsV, b01]
theorem bits_no {pe ty mo e b t : Int} : bitsV pe ty mo e b t false = b + 16384 * t + 134217728 * ty + 35184372088832 * mo + 70368744177664 * pe := by simp [bitsV, b01]
theorem bits_bd {pe ty mo e b t : Int} {g : Bool} (h : RightP pe ty mo e b t g) : 0 ≤ bitsV pe ty mo e b t g ∧ bitsV pe ty mo e b t g < 4611686018427387904 := by
  obtain ⟨p0, p1, y0, y1, o0, o1, b0, b1, t0, t1, e0, e1, no, b8, t8⟩ := h
  cases g
  · rw [bits_no]; omega
  · have := b8 rfl; have := t8 rfl
    rw [bits_big]; omega
/-- Fields that are laid beside one another are read one by one. -/
theorem lay_read (x b t g ty mo pe : Int) (b0 : 0 ≤ b) (b1 : b < 16384) (t0 : 0 ≤ t) (t1 : t < 4096) (g0 : 0 ≤ g) (g1 : g < 2) (y0 : 0 ≤ ty) (y1 : ty < 262144) (o0 : 0 ≤ mo) (o1 : mo < 2)
    (hx : x = b + 16384 * t + 67108864 * g + 134217728 * ty + 35184372088832 * mo + 70368744177664 * pe) :
    x % 16384 = b ∧ x / 16384 % 4096 = t ∧ x / 67108864 % 2 = g ∧ x / 134217728 % 262144 = ty ∧ x / 35184372088832 % 2 = mo ∧ x / 70368744177664 = pe := by
  have h1 : x / 16384 = t + 4096 * g + 8192 * ty + 2147483648 * mo + 4294967296 * pe := by omega
  have h2 : x / 67108864 = g + 2 * ty + 524288 * mo + 1048576 * pe := by omega
  have h3 : x / 134217728 = ty + 262144 * mo + 524288 * pe := by omega
  have h4 : x / 35184372088832 = mo + 2 * pe := by omega
  have h5 : x / 70368744177664 = pe := by omega
  have h0 : x % 16384 = b := by omega
  clear hx
  refine ⟨h0, ?_, ?_, ?_, ?_, h5⟩
  · rw [h1]; clear h0 h1 h2 h3 h4 h5; omega
  · rw [h2]; clear h0 h1 h2 h3 h4 h5; omega
  · rw [h3]; clear h0 h1 h2 h3 h4 h5; omega
  · rw [h4]; clear h0 h1 h2 h3 h4 h5; omega
/-- What is packed is unpacked. -/
theorem f_bits {pe ty mo e b t : Int} {g : Bool} (h : RightP pe ty mo e b t g) :
    fP (bitsV pe ty mo e b t g) = pe ∧ fY (bitsV pe ty mo e b t g) = ty ∧ fM (bitsV pe ty mo e b t g) = mo ∧ fE (bitsV pe ty mo e b t g) = e ∧ fB (bitsV pe ty mo e b t g) = b ∧ fT (bitsV pe ty mo e b t g) = t ∧ fG (bitsV pe ty mo e b t g) = g := by
  obtain ⟨p0, p1, y0, y1, o0, o1, b0, b1, t0, t1, e0, e1, no, b8, t8⟩ := h
  cases g
  · have e2 := no rfl
    rw [bits_no]
    obtain ⟨x, hx⟩ : ∃ x, x = b + 16384 * t + 134217728 * ty + 35184372088832 * mo + 70368744177664 * pe := ⟨_, rfl⟩
    rw [← hx]
    obtain ⟨c1, c2, c3, c4, c5, c6⟩ := lay_read x b t 0 ty mo pe b0 b1 t0 t1 (by omega) (by omega) y0 y1 o0 o1 (by omega)
    clear hx
    have hg : fG x = false := by simp only [fG, decide_eq_false_iff_not]; omega
    simp only [fP, fY, fM, fE, fB, fT, hg, Bool.false_eq_true, if_false]
    exact ⟨by omega, by omega, by omega, by omega, by omega, by omega, trivial⟩
  · have h1 := b8 rfl; have h2 := t8 rfl
    rw [bits_big]
    obtain ⟨x, hx⟩ : ∃ x, x = b + e % 8 + 16384 * (t + e / 8) + 67108864 + 134217728 * ty + 35184372088832 * mo + 70368744177664 * pe := ⟨_, rfl⟩
    rw [← hx]
    obtain ⟨c1, c2, c3, c4, c5, c6⟩ := lay_read x (b + e % 8) (t + e / 8) 1 ty mo pe (by omega) (by omega) (by omega) (by omega) (by omega) (by omega) y0 y1 o0 o1 (by omega)
    clear hx
    have hg : fG x = true := by simp only [fG, decide_eq_true_eq]; omega
    simp only [fP, fY, fM, fE, fB, fT, hg, if_true]
    have d1 : x % 8 = e % 8 := by omega
    have d2 : x / 16384 % 8 = e / 8 := by omega
    rw [d1, d2, c1, c2, c4, c5, c6]
    exact ⟨by omega, rfl, rfl, by omega, by omega, by omega, trivial⟩
/-- What is unpacked is right. -/
theorem f_right (x : Int) (x0 : 0 ≤ x) : RightP (fP x) (fY x) (fM x) (fE x) (fB x) (fT x) (fG x) := by
  cases hg : fG x
  · constructor <;> simp only [fP, fY, fM, fE, fB, fT, hg, Bool.false_eq_true, if_false] <;> first | omega | (intro h; cases h; done) | (intro _; rfl) | (intro _; trivial)
  · constructor <;> simp only [fP, fY, fM, fE, fB, fT, hg, if_true] <;> first | omega | (intro h; cases h; done) | (intro _; omega)
theorem min_parts (x : Int) : ∃ m, min x 52 = m ∧ (x ≤ 52 ∧ m = x ∨ 52 < x ∧ m = 52) := ⟨_, rfl, by omega⟩
/-- Any number is its fields beside one another. -/
theorem read_lay (x : Int) : x = x % 16384 + 16384 * (x / 16384 % 4096) + 67108864 * (x / 67108864 % 2) + 134217728 * (x / 134217728 % 262144) + 35184372088832 * (x / 35184372088832 % 2) + 70368744177664 * (x / 70368744177664) := by
  have h1 : x / 67108864 = x / 16384 / 4096 := by omega
  have h2 : x / 134217728 = x / 67108864 / 2 := by omega
  have h3 : x / 35184372088832 = x / 134217728 / 262144 := by omega
  have h4 : x / 70368744177664 = x / 35184372088832 / 2 := by omega
  omega
/-- And is packed to the same, where nothing was let go. -/
theorem bits_f (x : Int) (x0 : 0 ≤ x) (x1 : x < 18446744073709551616) :
    bitsV (fP x) (fY x) (fM x) (fE x) (fB x) (fT x) (fG x) / 134217728 = x / 134217728 % 34359738368 ∧ (fE x < 52 → x < 4611686018427387904 → bitsV (fP x) (fY x) (fM x) (fE x) (fB x) (fT x) (fG x) = x) := by
  have r := read_lay x
  obtain ⟨q, hq⟩ : ∃ q, q = x / 70368744177664 := ⟨_, rfl⟩
  have q2 : x / 134217728 % 34359738368 = x / 134217728 % 262144 + 262144 * (x / 35184372088832 % 2) + 524288 * (q % 65536) := by
    have h3 : x / 35184372088832 = x / 134217728 / 262144 := by omega
    have h4 : q = x / 35184372088832 / 2 := by omega
    clear r hq
    omega
  have q3 : x < 4611686018427387904 → q % 65536 = q := by omega
  rw [q2]
  obtain ⟨y, hy⟩ : ∃ y, y = x / 134217728 % 262144 := ⟨_, rfl⟩
  obtain ⟨o, ho⟩ : ∃ o, o = x / 35184372088832 % 2 := ⟨_, rfl⟩
  obtain ⟨u, hu⟩ : ∃ u, u = x / 16384 % 4096 := ⟨_, rfl⟩
  obtain ⟨v, hv⟩ : ∃ v, v = x % 16384 := ⟨_, rfl⟩
  have yb : 0 ≤ y ∧ y < 262144 := by omega
  have ob : 0 ≤ o ∧ o < 2 := by omega
  have ub : 0 ≤ u ∧ u < 4096 := by omega
  have vb : 0 ≤ v ∧ v < 16384 := by omega
  have d1 : x % 8 = v % 8 := by omega
  have d2 : x / 16384 % 8 = u % 8 := by omega
  cases hg : fG x
  · have h := hg
    simp only [fG, decide_eq_false_iff_not] at h
    have h' : x / 67108864 % 2 = 0 := by omega
    rw [bits_no]
    simp only [fP, fY, fM, fE, fB, fT, hg, Bool.false_eq_true, if_false]
    rw [h'] at r
    rw [← hy, ← ho, ← hu, ← hv, ← hq] at r ⊢
    clear hy ho hu hv hq h h' q2 d1 d2 hg
    omega
  · have h := hg
    simp only [fG, decide_eq_true_eq] at h
    rw [bits_big]
    simp only [fP, fY, fM, fE, fB, fT, hg, if_true]
    rw [h] at r
    rw [d1, d2]
    rw [← hy, ← ho, ← hu, ← hv, ← hq] at r ⊢
    obtain ⟨m, hm, hm2⟩ := min_parts (v % 8 + u % 8 * 8)
    rw [hm]
    clear hy ho hu hv hq h q2 d1 d2 hg hm
    omega
theorem bits_null : bitsV 0 262143 0 52 0 0 true = 35184305078276 := by decide
theorem null_right : RightP 0 262143 0 52 0 0 true := by constructor <;> first | omega | exact fun h => (nomatch h) | (intro _; omega)
theorem root_right (mo : Int) (o0 : 0 ≤ mo) (o1 : mo < 2) : RightP 65535 262143 mo 52 0 0 true := by constructor <;> first | omega | exact fun h => (nomatch h) | (intro _; omega)
end Go.Proofs.Ytikibfpfieoabaa
