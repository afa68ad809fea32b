/-
  What can come of some, operation by operation: what is no more than what can come, what is sealed, opened, made a sentry of what can come. Plain mathematics.
  What is made of two capabilities, of a third one, and of numbers, as a list; it is right, and can come of what the two can come of. Plain mathematics.
  Contracts of what makes capabilities, in the list's own words. No condition but that the fields are within their bounds.
  The list of what is made, as the law makes it. No condition but right capabilities.
  OrderClosed: whatever is made of two that can come of some can come of them, and what is made of these again: the walk of the law. No condition.
-/
import Derived.Test.YtkddgjaflcjhiaaOHasL
import Derived.Test.YtkddgjaflcjhiaaORight
import Derived.Test.YtkddgjaflcjhiaaCUns
import Derived.Test.YtkddgjaflcjhiaaCBuild
import Derived.Test.YtkddgjaflcjhiaaCFrom
import Derived.Test.YtkddgjaflcjhiaaCBound
import Derived.Test.YtkddgjaflcjhiaaCLess
import Derived.Test.YtkddgjaflcjhiaaOWk
import Derived.Test.YtkddgjaflcjhiaaOWorks
namespace Go.Proofs.Ytkddgjaflcjhiaa
open Go.ChangeShapes Go.WideShapes Go.ChangeAt Go.RowKit
set_option linter.unusedVariables false
set_option linter.unusedSimpArgs false

theorem has_none {l : List Cp} {x : Cp} (h : x.tg = false) : hasB l x = true := (has_iff l x).2 (.inl h)
/-- What is no more than what can come. -/
theorem has_le {l : List Cp} {c x : Cp} (hc : hasB l c = true) (h : lessB x c = true) : hasB l x = true := by
  obtain ⟨h1, h2, h3, h4, h5, h6⟩ := (less_iff x c).1 h
  obtain ⟨b, hb, hl⟩ := has_cov h4 h3 hc
  rw [has_iff]
  refine .inr (.inr ⟨⟨b, hb, ?_⟩, .inl h2⟩)
  rw [uns_self h2]
  exact less_trans h hl
/-- What is unsealed by what can. -/
theorem has_unseal {l : List Cp} {y k : Cp} (ht : y.tg = true) (h : hasB l y = true) (tk : k.tg = true) (hk : hasB l k = true) (c : canD k 256 y.ty = true) : hasB l (uns y) = true :=
  has_open ht h (.inr (can_cov (by decide) (by decide) tk hk c))
theorem has_opened {l : List Cp} {y : Cp} (ht : y.tg = true) (h : hasB l y = true) (hy : y.ty = 262142) : hasB l (uns y) = true := has_open ht h (.inl hy)
theorem can_ty {k : Cp} {p t : Int} (c : canD k p t = true) : t ≤ 262135 := by
  simp only [canD, rngIn, namesB, Bool.and_eq_true, decide_eq_true_eq] at c
  exact c.2.1
/-- What is sealed by what can. -/
theorem has_seal {l : List Cp} {c k : Cp} {t : Int} (hc : hasB l c = true) (tc : c.tg = true) (sc : c.sealed = false) (hk : hasB l k = true) (tk : k.tg = true) (h : canD k 128 t = true) : hasB l { c with ty := t } = true := by
  have ht := can_ty h
  obtain ⟨b, hb, hl⟩ := has_cov tc sc hc
  rw [has_iff]
  refine .inr (.inr ⟨⟨b, hb, ?_⟩, .inr (.inr ⟨?_, can_cov (by decide) (by decide) tk hk h⟩)⟩)
  · have e : uns { c with ty := t } = uns c := rfl
    rw [e, uns_self sc]; exact hl
  · show t ≠ 262142; omega
/-- What is made a sentry. -/
theorem has_sentry {l : List Cp} {c : Cp} (hc : hasB l c = true) (tc : c.tg = true) (sc : c.sealed = false) (h : hasP c.pe 2 = true) : hasB l { c with ty := 262142 } = true := by
  obtain ⟨b, hb, hl⟩ := has_cov tc sc hc
  rw [has_iff]
  refine .inr (.inr ⟨⟨b, hb, ?_⟩, .inr (.inl ⟨rfl, h⟩)⟩)
  have e : uns { c with ty := 262142 } = uns c := rfl
  rw [e, uns_self sc]; exact hl
/-- Another mode. -/
theorem has_mode {l : List Cp} {c : Cp} {m : Int} (hc : hasB l c = true) (sc : c.sealed = false) : hasB l { c with mo := m } = true := by
  by_cases tc : c.tg = true
  · refine has_le hc ?_
    have h : lessB c c = true := by rw [less_refl, tc, sc]; rfl
    have h2 := (less_iff c c).1 h
    exact (less_iff _ _).2 h2
  · exact has_none (show c.tg = false by simpa using tc)
/-- Moved. -/
theorem has_move {l : List Cp} {c : Cp} {n : Int} {v : Bool} (hc : hasB l c = true) (hv : moveT c.tg c.ty c.e c.b c.t c.g c.a n = v) (ht : v = true → c.tg = true ∧ c.sealed = false) : hasB l (mvC c n v) = true := by
  cases v
  · exact has_none rfl
  · obtain ⟨tc, sc⟩ := ht rfl
    exact has_le hc (less_move (by rw [less_refl, tc, sc]; rfl) hv)
/-- Less permissions. -/
theorem has_per {l : List Cp} {c : Cp} {k : Int} {v : Bool} (hc : hasB l c = true) (ht : v = true → c.tg = true ∧ c.sealed = false) : hasB l { c with tg := v, pe := bits .and .i64 c.pe k } = true := by
  cases v
  · exact has_none rfl
  · obtain ⟨tc, sc⟩ := ht rfl
    refine has_le hc ?_
    have h : lessB c c = true := by rw [less_refl, tc, sc]; rfl
    obtain ⟨h1, h2, h3, h4, h5, h6⟩ := (less_iff c c).1 h
    exact (less_iff _ _).2 ⟨rfl, h2, h3, h4, h5, per_and c.pe k⟩
end Go.Proofs.Ytkddgjaflcjhiaa
namespace Go.Proofs.Ytkddgjaflcjhiaa
open Go.ChangeShapes Go.WideShapes Go.ChangeAt Go.RowKit
set_option linter.unusedVariables false
set_option linter.unusedSimpArgs false

def numC (n : Int) : Cp := ⟨false, 0, 262143, 0, 52, 0, 0, true, n⟩
def moveK (c : Cp) (n : Int) : Cp := mvC c n (moveT c.tg c.ty c.e c.b c.t c.g c.a n)
def boundK (c : Cp) (n : Int) (x : Bool) : Cp := ⟨boundB c.tg c.ty c.e c.b c.t c.g c.a n x, c.pe, c.ty, c.mo, layE c.a n, layB c.a n, layT c.a n, bigB n, c.a⟩
def lessK (c : Cp) (k : Int) : Cp := { c with tg := openB c.tg c.ty, pe := bits .and .i64 c.pe k }
def modeK (c : Cp) (k : Int) : Cp := { c with tg := openB c.tg c.ty, mo := bits .and .i64 k 1 }
def sealT (c d : Cp) : Bool := sealB c.tg c.ty d.tg d.pe d.ty d.e d.b d.t d.g d.a
def sealK (c d : Cp) : Cp := { c with tg := sealT c d, ty := orV (sealT c d) d.a c.ty }
def unsT (c d : Cp) : Bool := unsB c.tg c.ty d.tg d.pe d.ty d.e d.b d.t d.g d.a
def unsK (c d : Cp) : Cp := { c with tg := unsT c d, pe := unpV (unsT c d) d.pe c.pe, ty := orV (unsT c d) 262143 c.ty }
def sentT (c : Cp) : Bool := sentryB c.tg c.pe c.ty
def sentK (c : Cp) : Cp := { c with tg := sentT c, ty := orV (sentT c) 262142 c.ty }
def buildT (c f : Cp) : Bool := buildB c.tg c.pe c.ty c.e c.b c.t c.g c.a f.pe f.e f.b f.t f.g f.a
def buildK (c f : Cp) : Cp := { f with tg := buildT c f, ty := btV (buildT c f) f.pe f.ty }
def typedK (c d : Cp) : Cp := if decide (262135 < d.ty) then numC 18446744073709551615 else moveK c d.ty
def fromK (c : Cp) (n : Int) : Cp := if n == 0 then numC 0 else moveK c (fromV c.e c.b c.a n)
def openK (c : Cp) : Cp := if c.ty == 262142 then uns c else c
/-- What is made. -/
def madeL (c d f : Cp) (n k : Int) : List Cp := [moveK c n, boundK c n false, boundK c n true, lessK c k, modeK c k, sealK c d, unsK c d, sentK c, buildK c f, typedK c d, fromK c n, openK c]
theorem madeL_len (c d f : Cp) (n k : Int) : (madeL c d f n k).length = 12 := rfl

/-- A right capability: its fields, and its bounds. -/
structure RR (c : Cp) : Prop where
  rc : RC c
  rb : rbB c.e c.b c.t c.g = true
theorem RC.raw {c : Cp} (h : RC c) : Raw c := by
  have := h.p0; have := h.p1; have := h.y0; have := h.y1; have := h.o0; have := h.o1
  have := h.f.e0; have := h.f.e1; have := h.f.b0; have := h.f.b1; have := h.f.t0; have := h.f.t1
  exact ⟨by omega, by omega, by omega, by omega, by omega, by omega, by omega, by omega, by omega, by omega, by omega, by omega, h.f.a0, h.f.a1⟩
theorem RR.right {c : Cp} (h : RR c) : rightC c = true := by
  have := h.rc.p0; have := h.rc.p1; have := h.rc.y0; have := h.rc.y1; have := h.rc.o0; have := h.rc.o1
  have hb := h.rb
  simp only [rightC, rightB, hb, fitB, Bool.and_true, Bool.and_eq_true, decide_eq_true_eq]
  omega
theorem RR.of_right {c : Cp} (h : Raw c) (r : rightC c = true) : RR c :=
  ⟨RC.of_right h r, by simp only [rightC, rightB, Bool.and_eq_true] at r; exact r.2⟩
theorem lay_rb (a n : Int) (n0 : 0 ≤ n) (n1 : n < 18446744073709551616) : rbB (layE a n) (layB a n) (layT a n) (bigB n) = true := by
  have e := layE_bd a n n0 n1
  have b := layB_bd a n
  have t := layT_bd a n
  cases hb : bigB n
  · have he : layE a n = 0 := by simp [layE, hb]
    simp only [rbB, fitB, Bool.and_eq_true, decide_eq_true_eq, Bool.false_eq_true, if_false]
    exact ⟨⟨b, t⟩, he⟩
  · have h8 : layB a n % 8 = 0 := by simp only [layB, hb, if_true]; omega
    have g8 : layT a n % 8 = 0 := by simp only [layT, hb, if_true]; omega
    simp only [rbB, fitB, Bool.and_eq_true, decide_eq_true_eq, if_true]
    exact ⟨⟨b, t⟩, ⟨e, h8⟩, g8⟩
theorem rr_num {n : Int} (n0 : 0 ≤ n) (n1 : n < 18446744073709551616) : RR (numC n) :=
  ⟨⟨show (0 : Int) ≤ 0 by decide, show (0 : Int) < 65536 by decide, show (0 : Int) ≤ 262143 by decide, show (262143 : Int) < 262144 by decide, show (0 : Int) ≤ 0 by decide, show (0 : Int) < 2 by decide,
    ⟨show (0 : Int) ≤ 52 by decide, show (52 : Int) ≤ 52 by decide, show (0 : Int) ≤ 0 by decide, show (0 : Int) < 16384 by decide, show (0 : Int) ≤ 0 by decide, show (0 : Int) < 4096 by decide, n0, n1⟩⟩, show rbB 52 0 0 true = true by decide⟩
theorem rr_move {c : Cp} (h : RR c) {n : Int} (n0 : 0 ≤ n) (n1 : n < 18446744073709551616) : RR (moveK c n) := ⟨h.rc.mv n0 n1 _, h.rb⟩
theorem rr_bound {c : Cp} (h : RR c) {n : Int} (n0 : 0 ≤ n) (n1 : n < 18446744073709551616) (x : Bool) : RR (boundK c n x) :=
  ⟨⟨h.rc.p0, h.rc.p1, h.rc.y0, h.rc.y1, h.rc.o0, h.rc.o1, ⟨(layE_bd c.a n n0 n1).1, (layE_bd c.a n n0 n1).2, (layB_bd c.a n).1, (layB_bd c.a n).2, (layT_bd c.a n).1, (layT_bd c.a n).2, h.rc.f.a0, h.rc.f.a1⟩⟩, lay_rb c.a n n0 n1⟩
theorem and16 {x : Int} (m : Int) (x0 : 0 ≤ x) (x1 : x < 65536) : 0 ≤ bits .and .i64 x m ∧ bits .and .i64 x m < 65536 := and_bd x m x0 16 (by decide) x1
theorem andNot16 {x : Int} (m : Int) (x0 : 0 ≤ x) (x1 : x < 65536) : 0 ≤ bits .andNot .i64 x m ∧ bits .andNot .i64 x m < 65536 := andNot_bd x m x0 16 (by decide) x1
theorem rr_less {c : Cp} (h : RR c) (k : Int) : RR (lessK c k) :=
  ⟨⟨(and16 k h.rc.p0 h.rc.p1).1, (and16 k h.rc.p0 h.rc.p1).2, h.rc.y0, h.rc.y1, h.rc.o0, h.rc.o1, h.rc.f⟩, h.rb⟩
theorem rr_mode {c : Cp} (h : RR c) (k : Int) : RR (modeK c k) :=
  ⟨⟨h.rc.p0, h.rc.p1, h.rc.y0, h.rc.y1, by show 0 ≤ bits .and .i64 k 1; rw [and_1]; omega, by show bits .and .i64 k 1 < 2; rw [and_1]; omega, h.rc.f⟩, h.rb⟩
theorem rr_ty {c : Cp} (h : RR c) {v : Bool} {y p : Int} (y0 : 0 ≤ y) (y1 : y < 262144) (p0 : 0 ≤ p) (p1 : p < 65536) : RR { c with tg := v, pe := p, ty := y } :=
  ⟨⟨p0, p1, y0, y1, h.rc.o0, h.rc.o1, h.rc.f⟩, h.rb⟩
theorem seal_parts {c d : Cp} (h : sealT c d = true) : c.tg = true ∧ c.sealed = false ∧ d.tg = true ∧ d.sealed = false ∧ perB d.pe 128 = true ∧ d.a ≤ 262135 ∧ inB (ofB d.e d.b d.a) (ofT d.e d.b d.t d.g d.a) (ofO d.e d.b d.t d.g d.a) d.a 1 = true := by
  simp only [sealT, sealB, openB, canB, Bool.and_eq_true, Bool.not_eq_true', decide_eq_false_iff_not, beq_iff_eq] at h
  obtain ⟨⟨⟨⟨h1, h2⟩, ⟨h3, h4⟩, h5⟩, h6⟩, h7⟩ := h
  exact ⟨h1, by simp [Cp.sealed, sealedB, h2], h3, by simp [Cp.sealed, sealedB, h4], h6, by omega, h5⟩
theorem uns_parts {c d : Cp} (h : unsT c d = true) : c.tg = true ∧ c.ty ≤ 262135 ∧ d.tg = true ∧ d.sealed = false ∧ perB d.pe 256 = true ∧ d.a = c.ty ∧ inB (ofB d.e d.b d.a) (ofT d.e d.b d.t d.g d.a) (ofO d.e d.b d.t d.g d.a) d.a 1 = true := by
  simp only [unsT, unsB, openB, canB, Bool.and_eq_true, Bool.not_eq_true', decide_eq_false_iff_not, beq_iff_eq] at h
  obtain ⟨⟨⟨⟨h1, h2⟩, ⟨h3, h4⟩, h5⟩, h6⟩, h7⟩ := h
  exact ⟨h1, by omega, h3, by simp [Cp.sealed, sealedB, h4], h6, h7, h5⟩
theorem rr_seal {c d : Cp} (h : RR c) (k : RR d) : RR (sealK c d) := by
  refine rr_ty h ?_ ?_ h.rc.p0 h.rc.p1
  · cases hv : sealT c d
    · exact h.rc.y0
    · exact k.rc.f.a0
  · cases hv : sealT c d
    · exact h.rc.y1
    · show d.a < 262144
      have := (seal_parts hv).2.2.2.2.2.1
      omega
theorem unp_bd {c d : Cp} (h : RC c) (v : Bool) : 0 ≤ unpV v d.pe c.pe ∧ unpV v d.pe c.pe < 65536 := by
  unfold unpV
  split
  · exact andNot16 1 h.p0 h.p1
  · exact ⟨h.p0, h.p1⟩
theorem rr_uns {c d : Cp} (h : RR c) : RR (unsK c d) := by
  refine rr_ty h ?_ ?_ (unp_bd h.rc _).1 (unp_bd h.rc _).2
  · cases hv : unsT c d
    · exact h.rc.y0
    · show (0 : Int) ≤ 262143; decide
  · cases hv : unsT c d
    · exact h.rc.y1
    · show (262143 : Int) < 262144; decide
theorem rr_sent {c : Cp} (h : RR c) : RR (sentK c) := by
  refine rr_ty h ?_ ?_ h.rc.p0 h.rc.p1
  · cases hv : sentT c
    · exact h.rc.y0
    · show (0 : Int) ≤ 262142; decide
  · cases hv : sentT c
    · exact h.rc.y1
    · show (262142 : Int) < 262144; decide
theorem bt_bd {c : Cp} (h : RC c) (v : Bool) : 0 ≤ btV v c.pe c.ty ∧ btV v c.pe c.ty < 262144 := by
  unfold btV
  have := h.y0; have := h.y1
  split
  · split <;> omega
  · exact ⟨h.y0, h.y1⟩
theorem rr_build {c f : Cp} (h : RR f) : RR (buildK c f) := rr_ty h (bt_bd h.rc _).1 (bt_bd h.rc _).2 h.rc.p0 h.rc.p1
theorem rr_typed {c d : Cp} (h : RR c) (k : RR d) : RR (typedK c d) := by
  unfold typedK
  have := k.rc.y0; have := k.rc.y1
  split
  · exact rr_num (by decide) (by decide)
  · exact rr_move h (by omega) (by omega)
theorem rr_from {c : Cp} (h : RR c) (n : Int) : RR (fromK c n) := by
  unfold fromK
  split
  · exact rr_num (by decide) (by decide)
  · exact rr_move h (fromV_bd _ _ _ _).1 (fromV_bd _ _ _ _).2
theorem rr_open {c : Cp} (h : RR c) : RR (openK c) := by
  unfold openK
  split
  · exact ⟨h.rc.uns, h.rb⟩
  · exact h
theorem made_right {c d f : Cp} (hc : RR c) (hd : RR d) (hf : RR f) {n : Int} (n0 : 0 ≤ n) (n1 : n < 18446744073709551616) (k : Int) : ∀ x ∈ madeL c d f n k, RR x := by
  intro x hx
  simp only [madeL, List.mem_cons, List.not_mem_nil, or_false] at hx
  rcases hx with rfl | rfl | rfl | rfl | rfl | rfl | rfl | rfl | rfl | rfl | rfl | rfl
  · exact rr_move hc n0 n1
  · exact rr_bound hc n0 n1 _
  · exact rr_bound hc n0 n1 _
  · exact rr_less hc k
  · exact rr_mode hc k
  · exact rr_seal hc hd
  · exact rr_uns hc
  · exact rr_sent hc
  · exact rr_build hf
  · exact rr_typed hc hd
  · exact rr_from hc n
  · exact rr_open hc
theorem open_parts {c : Cp} (h : openB c.tg c.ty = true) : c.tg = true ∧ c.sealed = false := by
  simp only [openB, Bool.and_eq_true] at h
  exact ⟨h.1, by simp [Cp.sealed, sealedB, h.2]⟩
theorem move_parts {c : Cp} {n : Int} (h : moveT c.tg c.ty c.e c.b c.t c.g c.a n = true) : c.tg = true ∧ c.sealed = false := by
  unfold moveT at h
  rw [Bool.and_eq_true] at h
  exact open_parts h.1
theorem has_moveK {l : List Cp} {c : Cp} (hc : hasB l c = true) (n : Int) : hasB l (moveK c n) = true := has_move hc rfl move_parts
theorem has_bound {l : List Cp} {c : Cp} (hc : hasB l c = true) (n : Int) (x : Bool) : hasB l (boundK c n x) = true := by
  cases hv : boundB c.tg c.ty c.e c.b c.t c.g c.a n x
  · exact has_none (show (boundK c n x).tg = false from hv)
  · have hv' := hv
    simp only [boundB, Bool.and_eq_true] at hv
    obtain ⟨⟨h1, _, h2⟩, _⟩ := hv
    obtain ⟨tc, sc⟩ := open_parts h1
    exact has_le hc ((less_iff _ _).2 ⟨hv', sc, sc, tc, h2, per_refl _⟩)
theorem per_andNot (pe k : Int) : perB pe (bits .andNot .i64 pe k) = true := by
  rw [per_bits]
  intro i hi h
  rw [andNot_ub, bv_ub, BitVec.getLsbD_and] at h
  simp only [Bool.and_eq_true] at h
  exact h.1
theorem has_unpV {l : List Cp} {c : Cp} (hc : hasB l c = true) (tc : c.tg = true) (sc : c.sealed = false) (v : Bool) (q : Int) : hasB l { c with pe := unpV v q c.pe } = true := by
  unfold unpV
  split
  · have h : lessB c c = true := by rw [less_refl, tc, sc]; rfl
    obtain ⟨h1, h2, h3, h4, h5, h6⟩ := (less_iff c c).1 h
    exact has_le hc ((less_iff _ _).2 ⟨h1, h2, h3, h4, h5, per_andNot c.pe 1⟩)
  · exact hc
theorem can_of {d : Cp} {p t : Int} (p0 : 0 ≤ p) (p1 : p < 65536) (sd : d.sealed = false) (hp : perB d.pe p = true) (ht : t ≤ 262135) (hi : inB (ofB d.e d.b d.a) (ofT d.e d.b d.t d.g d.a) (ofO d.e d.b d.t d.g d.a) t 1 = true) : canD d p t = true := by
  rw [← and_per _ _ p0 p1] at hp
  simp only [canD, rngIn, namesB, sd, hp, hi, Bool.not_false, Bool.true_and, Bool.and_true, decide_eq_true_eq]
  exact ht
theorem has_sealK {l : List Cp} {c d : Cp} (hc : hasB l c = true) (hd : hasB l d = true) : hasB l (sealK c d) = true := by
  cases hv : sealT c d
  · exact has_none (show (sealK c d).tg = false from hv)
  · obtain ⟨tc, sc, td, sd, hp, ha, hi⟩ := seal_parts hv
    have e : sealK c d = { c with ty := d.a } := by simp [sealK, hv, orV, tc]
    rw [e]
    exact has_seal hc tc sc hd td (can_of (by decide) (by decide) sd hp ha hi)
theorem has_unsK {l : List Cp} {c d : Cp} (hc : hasB l c = true) (hd : hasB l d = true) : hasB l (unsK c d) = true := by
  cases hv : unsT c d
  · exact has_none (show (unsK c d).tg = false from hv)
  · obtain ⟨tc, yc, td, sd, hp, ha, hi⟩ := uns_parts hv
    have h1 : hasB l (uns c) = true := has_unseal tc hc td hd (by rw [← ha]; exact can_of (by decide) (by decide) sd hp (by omega) hi)
    have h2 := has_unpV h1 (show (uns c).tg = true from tc) (uns_unsealed c) true d.pe
    have e : unsK c d = { uns c with pe := unpV true d.pe (uns c).pe } := by simp [unsK, hv, orV, tc, uns]
    rw [e]; exact h2
theorem has_sentK {l : List Cp} {c : Cp} (hc : hasB l c = true) : hasB l (sentK c) = true := by
  cases hv : sentT c
  · exact has_none (show (sentK c).tg = false from hv)
  · have hv' := hv
    simp only [sentT, sentryB, Bool.and_eq_true] at hv
    obtain ⟨tc, sc⟩ := open_parts hv.1
    have e : sentK c = { c with ty := 262142 } := by simp [sentK, hv', orV, tc]
    rw [e]
    exact has_sentry hc tc sc (by rw [and_per _ _ (by decide) (by decide)]; exact hv.2)
theorem has_build {l : List Cp} {c f : Cp} (hc : hasB l c = true) : hasB l (buildK c f) = true := by
  cases hv : buildT c f
  · exact has_none (show (buildK c f).tg = false from hv)
  · have hv' := hv
    simp only [buildT, buildB, Bool.and_eq_true] at hv
    obtain ⟨⟨⟨h1, _⟩, h2⟩, h3⟩ := hv
    obtain ⟨tc, sc⟩ := open_parts h1
    have hu : hasB l { f with tg := true, ty := 262143 } = true :=
      has_le hc ((less_iff _ _).2 ⟨rfl, show sealedB 262143 = false by decide, sc, tc, h2, h3⟩)
    cases hy : ((f.ty == 262142) && perB f.pe 2)
    · have e : buildK c f = { f with tg := true, ty := 262143 } := by simp only [buildK, hv', btV, hy, if_true]; rfl
      rw [e]; exact hu
    · rw [Bool.and_eq_true] at hy
      have e : buildK c f = { f with tg := true, ty := 262142 } := by simp only [buildK, hv', btV, hy.1, hy.2, Bool.and_true, if_true]
      rw [e]
      exact has_sentry (c := { f with tg := true, ty := 262143 }) hu rfl (show sealedB 262143 = false by decide) (by rw [and_per _ _ (by decide) (by decide)]; exact hy.2)
theorem has_typed {l : List Cp} {c d : Cp} (hc : hasB l c = true) : hasB l (typedK c d) = true := by
  unfold typedK
  split
  · exact has_none rfl
  · exact has_moveK hc _
theorem has_from {l : List Cp} {c : Cp} (hc : hasB l c = true) (n : Int) : hasB l (fromK c n) = true := by
  unfold fromK
  split
  · exact has_none rfl
  · exact has_moveK hc _
theorem has_openK {l : List Cp} {c : Cp} (hc : hasB l c = true) : hasB l (openK c) = true := by
  unfold openK
  split
  · rename_i h
    rw [beq_iff_eq] at h
    by_cases tc : c.tg = true
    · exact has_opened tc hc h
    · exact has_none (show (uns c).tg = false by simpa [uns] using tc)
  · exact hc
theorem has_lessK {l : List Cp} {c : Cp} (hc : hasB l c = true) (k : Int) : hasB l (lessK c k) = true := has_per hc open_parts
theorem has_modeK {l : List Cp} {c : Cp} (hc : hasB l c = true) (k : Int) : hasB l (modeK c k) = true := by
  cases hv : openB c.tg c.ty
  · exact has_none (show (modeK c k).tg = false from hv)
  · obtain ⟨tc, sc⟩ := open_parts hv
    have h := has_mode (m := bits .and .i64 k 1) hc sc
    have e : modeK c k = { c with mo := bits .and .i64 k 1 } := by unfold modeK; rw [hv, tc]
    rw [e]; exact h
/-- THE MATHEMATICS OF THE LAW: whatever is made can come of the same. -/
theorem made_has {l : List Cp} {c d : Cp} (hc : hasB l c = true) (hd : hasB l d = true) (f : Cp) (n k : Int) : ∀ x ∈ madeL c d f n k, hasB l x = true := by
  intro x hx
  simp only [madeL, List.mem_cons, List.not_mem_nil, or_false] at hx
  rcases hx with rfl | rfl | rfl | rfl | rfl | rfl | rfl | rfl | rfl | rfl | rfl | rfl
  · exact has_moveK hc n
  · exact has_bound hc n _
  · exact has_bound hc n _
  · exact has_lessK hc k
  · exact has_modeK hc k
  · exact has_sealK hc hd
  · exact has_unsK hc hd
  · exact has_sentK hc
  · exact has_build hc
  · exact has_typed hc
  · exact has_from hc n
  · exact has_openK hc
end Go.Proofs.Ytkddgjaflcjhiaa
namespace Go.Proofs.Ytkddgjaflcjhiaa
open Go.ChangeShapes Go.WideShapes Go.ChangeAt Go.RowKit
set_option linter.unusedVariables false
set_option linter.unusedSimpArgs false

theorem movek_w (c : Cp) (n : Int) (hc : RC c) (n0 : 0 ≤ n) (n1 : n < 18446744073709551616) (w : World) :
    Calls Try.prog 35 #[.agg #[c.tg, c.pe, c.ty, c.mo, c.e, c.b, c.t, c.g, .int .u64 c.a], .int .u64 n] w fun e w' => e = .returned (.agg #[.bool (moveK c n).tg, .int .i64 (moveK c n).pe, .int .i64 (moveK c n).ty, .int .i64 (moveK c n).mo, .int .i64 (moveK c n).e, .int .i64 (moveK c n).b, .int .i64 (moveK c n).t, .bool (moveK c n).g, .int .u64 (moveK c n).a]) ∧ Below w.heap.size w w' := kb (move_w c.tg c.pe c.ty c.mo c.e c.b c.t c.g c.a n hc.f n0 n1 _ rfl w)
theorem boundk_w (c : Cp) (n : Int) (x : Bool) (hc : RC c) (n0 : 0 ≤ n) (n1 : n < 18446744073709551616) (w : World) :
    Calls Try.prog 5 #[.agg #[c.tg, c.pe, c.ty, c.mo, c.e, c.b, c.t, c.g, .int .u64 c.a], .int .u64 n, .bool x] w fun e w' => e = .returned (.agg #[.bool (boundK c n x).tg, .int .i64 (boundK c n x).pe, .int .i64 (boundK c n x).ty, .int .i64 (boundK c n x).mo, .int .i64 (boundK c n x).e, .int .i64 (boundK c n x).b, .int .i64 (boundK c n x).t, .bool (boundK c n x).g, .int .u64 (boundK c n x).a]) ∧ Below w.heap.size w w' := kb (bound_w c.tg c.pe c.ty c.mo c.e c.b c.t c.g c.a n x hc.f n0 n1 _ rfl w)
theorem lessk_w (c : Cp) (k : Int) (w : World) :
    Calls Try.prog 42 #[.agg #[c.tg, c.pe, c.ty, c.mo, c.e, c.b, c.t, c.g, .int .u64 c.a], .int .i64 k] w fun e w' => e = .returned (.agg #[.bool (lessK c k).tg, .int .i64 (lessK c k).pe, .int .i64 (lessK c k).ty, .int .i64 (lessK c k).mo, .int .i64 (lessK c k).e, .int .i64 (lessK c k).b, .int .i64 (lessK c k).t, .bool (lessK c k).g, .int .u64 (lessK c k).a]) ∧ Below w.heap.size w w' := kb (less_w c.tg c.pe c.ty c.mo c.e c.b c.t c.g c.a k _ rfl w)
theorem modek_w (c : Cp) (k : Int) (w : World) :
    Calls Try.prog 67 #[.agg #[c.tg, c.pe, c.ty, c.mo, c.e, c.b, c.t, c.g, .int .u64 c.a], .int .i64 k] w fun e w' => e = .returned (.agg #[.bool (modeK c k).tg, .int .i64 (modeK c k).pe, .int .i64 (modeK c k).ty, .int .i64 (modeK c k).mo, .int .i64 (modeK c k).e, .int .i64 (modeK c k).b, .int .i64 (modeK c k).t, .bool (modeK c k).g, .int .u64 (modeK c k).a]) ∧ Below w.heap.size w w' := kb (mode_w c.tg c.pe c.ty c.mo c.e c.b c.t c.g c.a k _ rfl w)
theorem sealk_w (c d : Cp) (hd : RC d) (w : World) :
    Calls Try.prog 41 #[.agg #[c.tg, c.pe, c.ty, c.mo, c.e, c.b, c.t, c.g, .int .u64 c.a], .agg #[d.tg, d.pe, d.ty, d.mo, d.e, d.b, d.t, d.g, .int .u64 d.a]] w fun e w' => e = .returned (.agg #[.bool (sealK c d).tg, .int .i64 (sealK c d).pe, .int .i64 (sealK c d).ty, .int .i64 (sealK c d).mo, .int .i64 (sealK c d).e, .int .i64 (sealK c d).b, .int .i64 (sealK c d).t, .bool (sealK c d).g, .int .u64 (sealK c d).a]) ∧ Below w.heap.size w w' := kb (seal_w c.tg c.pe c.ty c.mo c.e c.b c.t c.g c.a d.tg d.pe d.ty d.mo d.e d.b d.t d.g d.a hd.f _ rfl w)
theorem unsk_w (c d : Cp) (hc : RC c) (hd : RC d) (w : World) :
    Calls Try.prog 68 #[.agg #[c.tg, c.pe, c.ty, c.mo, c.e, c.b, c.t, c.g, .int .u64 c.a], .agg #[d.tg, d.pe, d.ty, d.mo, d.e, d.b, d.t, d.g, .int .u64 d.a]] w fun e w' => e = .returned (.agg #[.bool (unsK c d).tg, .int .i64 (unsK c d).pe, .int .i64 (unsK c d).ty, .int .i64 (unsK c d).mo, .int .i64 (unsK c d).e, .int .i64 (unsK c d).b, .int .i64 (unsK c d).t, .bool (unsK c d).g, .int .u64 (unsK c d).a]) ∧ Below w.heap.size w w' := kb (unseal_w c.tg c.pe c.ty c.mo c.e c.b c.t c.g c.a d.tg d.pe d.ty d.mo d.e d.b d.t d.g d.a hd.f hc.y0 hc.y1 _ rfl w)
theorem sentk_w (c : Cp) (w : World) :
    Calls Try.prog 69 #[.agg #[c.tg, c.pe, c.ty, c.mo, c.e, c.b, c.t, c.g, .int .u64 c.a]] w fun e w' => e = .returned (.agg #[.bool (sentK c).tg, .int .i64 (sentK c).pe, .int .i64 (sentK c).ty, .int .i64 (sentK c).mo, .int .i64 (sentK c).e, .int .i64 (sentK c).b, .int .i64 (sentK c).t, .bool (sentK c).g, .int .u64 (sentK c).a]) ∧ Below w.heap.size w w' := kb (sentry_w c.tg c.pe c.ty c.mo c.e c.b c.t c.g c.a _ rfl w)
theorem buildk_w (c f : Cp) (hc : RC c) (hf : RC f) (w : World) :
    Calls Try.prog 70 #[.agg #[c.tg, c.pe, c.ty, c.mo, c.e, c.b, c.t, c.g, .int .u64 c.a], .agg #[f.tg, f.pe, f.ty, f.mo, f.e, f.b, f.t, f.g, .int .u64 f.a]] w fun e w' => e = .returned (.agg #[.bool (buildK c f).tg, .int .i64 (buildK c f).pe, .int .i64 (buildK c f).ty, .int .i64 (buildK c f).mo, .int .i64 (buildK c f).e, .int .i64 (buildK c f).b, .int .i64 (buildK c f).t, .bool (buildK c f).g, .int .u64 (buildK c f).a]) ∧ Below w.heap.size w w' := kb (build_w c.tg c.pe c.ty c.mo c.e c.b c.t c.g c.a f.tg f.pe f.ty f.mo f.e f.b f.t f.g f.a hc.f hf.f _ rfl w)
theorem typedk_w (c d : Cp) (hc : RC c) (hd : RC d) (w : World) :
    Calls Try.prog 71 #[.agg #[c.tg, c.pe, c.ty, c.mo, c.e, c.b, c.t, c.g, .int .u64 c.a], .agg #[d.tg, d.pe, d.ty, d.mo, d.e, d.b, d.t, d.g, .int .u64 d.a]] w fun e w' => e = .returned (.agg #[.bool (typedK c d).tg, .int .i64 (typedK c d).pe, .int .i64 (typedK c d).ty, .int .i64 (typedK c d).mo, .int .i64 (typedK c d).e, .int .i64 (typedK c d).b, .int .i64 (typedK c d).t, .bool (typedK c d).g, .int .u64 (typedK c d).a]) ∧ Below w.heap.size w w' := by
  cases h : decide (262135 < d.ty)
  · have e : typedK c d = moveK c d.ty := by unfold typedK; rw [h]; rfl
    rw [e]
    exact kb (typed_lo c.tg c.pe c.ty c.mo c.e c.b c.t c.g c.a d.tg d.pe d.ty d.mo d.e d.b d.t d.g d.a hc.f h hd.y0 hd.y1 _ rfl w)
  · have e : typedK c d = numC 18446744073709551615 := by unfold typedK; rw [h]; rfl
    rw [e]
    exact kb (typed_hi c.tg c.pe c.ty c.mo c.e c.b c.t c.g c.a d.tg d.pe d.ty d.mo d.e d.b d.t d.g d.a h w)
theorem fromk_w (c : Cp) (n : Int) (hc : RC c) (w : World) :
    Calls Try.prog 72 #[.agg #[c.tg, c.pe, c.ty, c.mo, c.e, c.b, c.t, c.g, .int .u64 c.a], .int .u64 n] w fun e w' => e = .returned (.agg #[.bool (fromK c n).tg, .int .i64 (fromK c n).pe, .int .i64 (fromK c n).ty, .int .i64 (fromK c n).mo, .int .i64 (fromK c n).e, .int .i64 (fromK c n).b, .int .i64 (fromK c n).t, .bool (fromK c n).g, .int .u64 (fromK c n).a]) ∧ Below w.heap.size w w' := by
  cases h : (n == 0)
  · have e : fromK c n = moveK c (fromV c.e c.b c.a n) := by unfold fromK; rw [h]; rfl
    rw [e]
    exact kb (from_n c.tg c.pe c.ty c.mo c.e c.b c.t c.g c.a n hc.f h _ rfl w)
  · have e : fromK c n = numC 0 := by unfold fromK; rw [h]; rfl
    rw [e]
    have hn : n = 0 := by simpa using h
    subst hn
    exact kb (from_0 c.tg c.pe c.ty c.mo c.e c.b c.t c.g c.a w)
end Go.Proofs.Ytkddgjaflcjhiaa
namespace Go.Proofs.Ytkddgjaflcjhiaa
open Go.ChangeShapes Go.WideShapes Go.ChangeAt Go.RowKit
set_option linter.unusedVariables false
set_option linter.unusedSimpArgs false

set_option maxHeartbeats 16000000 in
set_option maxRecDepth 100000 in
theorem made_n (c d f : Cp) (n k : Int) (hc : RC c) (hd : RC d) (hf : RC f) (n0 : 0 ≤ n) (n1 : n < 18446744073709551616) (hy : (c.ty == 262142) = false) (w : World) :
    Calls Try.prog 31 #[.agg #[.bool c.tg, .int .i64 c.pe, .int .i64 c.ty, .int .i64 c.mo, .int .i64 c.e, .int .i64 c.b, .int .i64 c.t, .bool c.g, .int .u64 c.a], .agg #[.bool d.tg, .int .i64 d.pe, .int .i64 d.ty, .int .i64 d.mo, .int .i64 d.e, .int .i64 d.b, .int .i64 d.t, .bool d.g, .int .u64 d.a], .agg #[.bool f.tg, .int .i64 f.pe, .int .i64 f.ty, .int .i64 f.mo, .int .i64 f.e, .int .i64 f.b, .int .i64 f.t, .bool f.g, .int .u64 f.a], .int .u64 n, .int .i64 k] w fun e w' => ∃ g, e = .returned (.slice (some ⟨g, 0, none⟩) 12 12) ∧ Rd w' w'.heap.size (some ⟨g, 0, none⟩) (madeL c d f n k) ∧ Below w.heap.size w w' := by
  have HX0 : Hid (∀ wx : World, Calls Try.prog 35 #[.agg #[.bool c.tg, .int .i64 c.pe, .int .i64 c.ty, .int .i64 c.mo, .int .i64 c.e, .int .i64 c.b, .int .i64 c.t, .bool c.g, .int .u64 c.a], .int .u64 n] wx fun e w' => e = .returned (.agg #[.bool (moveK c n).tg, .int .i64 (moveK c n).pe, .int .i64 (moveK c n).ty, .int .i64 (moveK c n).mo, .int .i64 (moveK c n).e, .int .i64 (moveK c n).b, .int .i64 (moveK c n).t, .bool (moveK c n).g, .int .u64 (moveK c n).a]) ∧ Below wx.heap.size wx w') := Lib.hid (fun wx => movek_w c n hc n0 n1 wx)
  have HX1 : Hid (∀ wx : World, Calls Try.prog 5 #[.agg #[.bool c.tg, .int .i64 c.pe, .int .i64 c.ty, .int .i64 c.mo, .int .i64 c.e, .int .i64 c.b, .int .i64 c.t, .bool c.g, .int .u64 c.a], .int .u64 n, .bool false] wx fun e w' => e = .returned (.agg #[.bool (boundK c n false).tg, .int .i64 (boundK c n false).pe, .int .i64 (boundK c n false).ty, .int .i64 (boundK c n false).mo, .int .i64 (boundK c n false).e, .int .i64 (boundK c n false).b, .int .i64 (boundK c n false).t, .bool (boundK c n false).g, .int .u64 (boundK c n false).a]) ∧ Below wx.heap.size wx w') := Lib.hid (fun wx => boundk_w c n false hc n0 n1 wx)
  have HX2 : Hid (∀ wx : World, Calls Try.prog 5 #[.agg #[.bool c.tg, .int .i64 c.pe, .int .i64 c.ty, .int .i64 c.mo, .int .i64 c.e, .int .i64 c.b, .int .i64 c.t, .bool c.g, .int .u64 c.a], .int .u64 n, .bool true] wx fun e w' => e = .returned (.agg #[.bool (boundK c n true).tg, .int .i64 (boundK c n true).pe, .int .i64 (boundK c n true).ty, .int .i64 (boundK c n true).mo, .int .i64 (boundK c n true).e, .int .i64 (boundK c n true).b, .int .i64 (boundK c n true).t, .bool (boundK c n true).g, .int .u64 (boundK c n true).a]) ∧ Below wx.heap.size wx w') := Lib.hid (fun wx => boundk_w c n true hc n0 n1 wx)
  have HX3 : Hid (∀ wx : World, Calls Try.prog 42 #[.agg #[.bool c.tg, .int .i64 c.pe, .int .i64 c.ty, .int .i64 c.mo, .int .i64 c.e, .int .i64 c.b, .int .i64 c.t, .bool c.g, .int .u64 c.a], .int .i64 k] wx fun e w' => e = .returned (.agg #[.bool (lessK c k).tg, .int .i64 (lessK c k).pe, .int .i64 (lessK c k).ty, .int .i64 (lessK c k).mo, .int .i64 (lessK c k).e, .int .i64 (lessK c k).b, .int .i64 (lessK c k).t, .bool (lessK c k).g, .int .u64 (lessK c k).a]) ∧ Below wx.heap.size wx w') := Lib.hid (fun wx => lessk_w c k wx)
  have HX4 : Hid (∀ wx : World, Calls Try.prog 67 #[.agg #[.bool c.tg, .int .i64 c.pe, .int .i64 c.ty, .int .i64 c.mo, .int .i64 c.e, .int .i64 c.b, .int .i64 c.t, .bool c.g, .int .u64 c.a], .int .i64 k] wx fun e w' => e = .returned (.agg #[.bool (modeK c k).tg, .int .i64 (modeK c k).pe, .int .i64 (modeK c k).ty, .int .i64 (modeK c k).mo, .int .i64 (modeK c k).e, .int .i64 (modeK c k).b, .int .i64 (modeK c k).t, .bool (modeK c k).g, .int .u64 (modeK c k).a]) ∧ Below wx.heap.size wx w') := Lib.hid (fun wx => modek_w c k wx)
  have HX5 : Hid (∀ wx : World, Calls Try.prog 41 #[.agg #[.bool c.tg, .int .i64 c.pe, .int .i64 c.ty, .int .i64 c.mo, .int .i64 c.e, .int .i64 c.b, .int .i64 c.t, .bool c.g, .int .u64 c.a], .agg #[.bool d.tg, .int .i64 d.pe, .int .i64 d.ty, .int .i64 d.mo, .int .i64 d.e, .int .i64 d.b, .int .i64 d.t, .bool d.g, .int .u64 d.a]] wx fun e w' => e = .returned (.agg #[.bool (sealK c d).tg, .int .i64 (sealK c d).pe, .int .i64 (sealK c d).ty, .int .i64 (sealK c d).mo, .int .i64 (sealK c d).e, .int .i64 (sealK c d).b, .int .i64 (sealK c d).t, .bool (sealK c d).g, .int .u64 (sealK c d).a]) ∧ Below wx.heap.size wx w') := Lib.hid (fun wx => sealk_w c d hd wx)
  have HX6 : Hid (∀ wx : World, Calls Try.prog 68 #[.agg #[.bool c.tg, .int .i64 c.pe, .int .i64 c.ty, .int .i64 c.mo, .int .i64 c.e, .int .i64 c.b, .int .i64 c.t, .bool c.g, .int .u64 c.a], .agg #[.bool d.tg, .int .i64 d.pe, .int .i64 d.ty, .int .i64 d.mo, .int .i64 d.e, .int .i64 d.b, .int .i64 d.t, .bool d.g, .int .u64 d.a]] wx fun e w' => e = .returned (.agg #[.bool (unsK c d).tg, .int .i64 (unsK c d).pe, .int .i64 (unsK c d).ty, .int .i64 (unsK c d).mo, .int .i64 (unsK c d).e, .int .i64 (unsK c d).b, .int .i64 (unsK c d).t, .bool (unsK c d).g, .int .u64 (unsK c d).a]) ∧ Below wx.heap.size wx w') := Lib.hid (fun wx => unsk_w c d hc hd wx)
  have HX7 : Hid (∀ wx : World, Calls Try.prog 69 #[.agg #[.bool c.tg, .int .i64 c.pe, .int .i64 c.ty, .int .i64 c.mo, .int .i64 c.e, .int .i64 c.b, .int .i64 c.t, .bool c.g, .int .u64 c.a]] wx fun e w' => e = .returned (.agg #[.bool (sentK c).tg, .int .i64 (sentK c).pe, .int .i64 (sentK c).ty, .int .i64 (sentK c).mo, .int .i64 (sentK c).e, .int .i64 (sentK c).b, .int .i64 (sentK c).t, .bool (sentK c).g, .int .u64 (sentK c).a]) ∧ Below wx.heap.size wx w') := Lib.hid (fun wx => sentk_w c wx)
  have HX8 : Hid (∀ wx : World, Calls Try.prog 70 #[.agg #[.bool c.tg, .int .i64 c.pe, .int .i64 c.ty, .int .i64 c.mo, .int .i64 c.e, .int .i64 c.b, .int .i64 c.t, .bool c.g, .int .u64 c.a], .agg #[.bool f.tg, .int .i64 f.pe, .int .i64 f.ty, .int .i64 f.mo, .int .i64 f.e, .int .i64 f.b, .int .i64 f.t, .bool f.g, .int .u64 f.a]] wx fun e w' => e = .returned (.agg #[.bool (buildK c f).tg, .int .i64 (buildK c f).pe, .int .i64 (buildK c f).ty, .int .i64 (buildK c f).mo, .int .i64 (buildK c f).e, .int .i64 (buildK c f).b, .int .i64 (buildK c f).t, .bool (buildK c f).g, .int .u64 (buildK c f).a]) ∧ Below wx.heap.size wx w') := Lib.hid (fun wx => buildk_w c f hc hf wx)
  have HX9 : Hid (∀ wx : World, Calls Try.prog 71 #[.agg #[.bool c.tg, .int .i64 c.pe, .int .i64 c.ty, .int .i64 c.mo, .int .i64 c.e, .int .i64 c.b, .int .i64 c.t, .bool c.g, .int .u64 c.a], .agg #[.bool d.tg, .int .i64 d.pe, .int .i64 d.ty, .int .i64 d.mo, .int .i64 d.e, .int .i64 d.b, .int .i64 d.t, .bool d.g, .int .u64 d.a]] wx fun e w' => e = .returned (.agg #[.bool (typedK c d).tg, .int .i64 (typedK c d).pe, .int .i64 (typedK c d).ty, .int .i64 (typedK c d).mo, .int .i64 (typedK c d).e, .int .i64 (typedK c d).b, .int .i64 (typedK c d).t, .bool (typedK c d).g, .int .u64 (typedK c d).a]) ∧ Below wx.heap.size wx w') := Lib.hid (fun wx => typedk_w c d hc hd wx)
  have HX10 : Hid (∀ wx : World, Calls Try.prog 72 #[.agg #[.bool c.tg, .int .i64 c.pe, .int .i64 c.ty, .int .i64 c.mo, .int .i64 c.e, .int .i64 c.b, .int .i64 c.t, .bool c.g, .int .u64 c.a], .int .u64 n] wx fun e w' => e = .returned (.agg #[.bool (fromK c n).tg, .int .i64 (fromK c n).pe, .int .i64 (fromK c n).ty, .int .i64 (fromK c n).mo, .int .i64 (fromK c n).e, .int .i64 (fromK c n).b, .int .i64 (fromK c n).t, .bool (fromK c n).g, .int .u64 (fromK c n).a]) ∧ Below wx.heap.size wx w') := Lib.hid (fun wx => fromk_w c n hc wx)
  have HL : Hid (madeL c d f n k = [moveK c n, boundK c n false, boundK c n true, lessK c k, modeK c k, sealK c d, unsK c d, sentK c, buildK c f, typedK c d, fromK c n, openK c]) := Lib.hid rfl
  have ho : openK c = c := by unfold openK; rw [hy]; rfl
  rw [ho] at HL
  clear ho
  generalize moveK c n = x0 at HX0 HL
  generalize boundK c n false = x1 at HX1 HL
  generalize boundK c n true = x2 at HX2 HL
  generalize lessK c k = x3 at HX3 HL
  generalize modeK c k = x4 at HX4 HL
  generalize sealK c d = x5 at HX5 HL
  generalize unsK c d = x6 at HX6 HL
  generalize sentK c = x7 at HX7 HL
  generalize buildK c f = x8 at HX8 HL
  generalize typedK c d = x9 at HX9 HL
  generalize fromK c n = x10 at HX10 HL
  rw [HL.out]
  clear HL hc hd hf n0 n1
  have D0 : At (w.heap.size) [.bool c.tg, .int .i64 c.pe, .int .i64 c.ty, .int .i64 c.mo, .int .i64 c.e, .int .i64 c.b, .int .i64 c.t, .bool c.g, .int .u64 c.a] ((((w.alloc (.cells #[.bool c.tg, .int .i64 c.pe, .int .i64 c.ty, .int .i64 c.mo, .int .i64 c.e, .int .i64 c.b, .int .i64 c.t, .bool c.g, .int .u64 c.a] 25)).alloc (.cells #[.bool d.tg, .int .i64 d.pe, .int .i64 d.ty, .int .i64 d.mo, .int .i64 d.e, .int .i64 d.b, .int .i64 d.t, .bool d.g, .int .u64 d.a] 25)).alloc (.cells #[.bool f.tg, .int .i64 f.pe, .int .i64 f.ty, .int .i64 f.mo, .int .i64 f.e, .int .i64 f.b, .int .i64 f.t, .bool f.g, .int .u64 f.a] 25)).alloc (.cells #[.bool c.tg, .int .i64 c.pe, .int .i64 c.ty, .int .i64 c.mo, .int .i64 c.e, .int .i64 c.b, .int .i64 c.t, .bool c.g, .int .u64 c.a] 25)) := (((At.new w [.bool c.tg, .int .i64 c.pe, .int .i64 c.ty, .int .i64 c.mo, .int .i64 c.e, .int .i64 c.b, .int .i64 c.t, .bool c.g, .int .u64 c.a] 25).alloc _).alloc _).alloc _
  have D1 : At (w.heap.size + 1) [.bool d.tg, .int .i64 d.pe, .int .i64 d.ty, .int .i64 d.mo, .int .i64 d.e, .int .i64 d.b, .int .i64 d.t, .bool d.g, .int .u64 d.a] ((((w.alloc (.cells #[.bool c.tg, .int .i64 c.pe, .int .i64 c.ty, .int .i64 c.mo, .int .i64 c.e, .int .i64 c.b, .int .i64 c.t, .bool c.g, .int .u64 c.a] 25)).alloc (.cells #[.bool d.tg, .int .i64 d.pe, .int .i64 d.ty, .int .i64 d.mo, .int .i64 d.e, .int .i64 d.b, .int .i64 d.t, .bool d.g, .int .u64 d.a] 25)).alloc (.cells #[.bool f.tg, .int .i64 f.pe, .int .i64 f.ty, .int .i64 f.mo, .int .i64 f.e, .int .i64 f.b, .int .i64 f.t, .bool f.g, .int .u64 f.a] 25)).alloc (.cells #[.bool c.tg, .int .i64 c.pe, .int .i64 c.ty, .int .i64 c.mo, .int .i64 c.e, .int .i64 c.b, .int .i64 c.t, .bool c.g, .int .u64 c.a] 25)) := ((At.new' (w.alloc (.cells #[.bool c.tg, .int .i64 c.pe, .int .i64 c.ty, .int .i64 c.mo, .int .i64 c.e, .int .i64 c.b, .int .i64 c.t, .bool c.g, .int .u64 c.a] 25)) [.bool d.tg, .int .i64 d.pe, .int .i64 d.ty, .int .i64 d.mo, .int .i64 d.e, .int .i64 d.b, .int .i64 d.t, .bool d.g, .int .u64 d.a] 25 (by simp)).alloc _).alloc _
  have D2 : At (w.heap.size + 1 + 1) [.bool f.tg, .int .i64 f.pe, .int .i64 f.ty, .int .i64 f.mo, .int .i64 f.e, .int .i64 f.b, .int .i64 f.t, .bool f.g, .int .u64 f.a] ((((w.alloc (.cells #[.bool c.tg, .int .i64 c.pe, .int .i64 c.ty, .int .i64 c.mo, .int .i64 c.e, .int .i64 c.b, .int .i64 c.t, .bool c.g, .int .u64 c.a] 25)).alloc (.cells #[.bool d.tg, .int .i64 d.pe, .int .i64 d.ty, .int .i64 d.mo, .int .i64 d.e, .int .i64 d.b, .int .i64 d.t, .bool d.g, .int .u64 d.a] 25)).alloc (.cells #[.bool f.tg, .int .i64 f.pe, .int .i64 f.ty, .int .i64 f.mo, .int .i64 f.e, .int .i64 f.b, .int .i64 f.t, .bool f.g, .int .u64 f.a] 25)).alloc (.cells #[.bool c.tg, .int .i64 c.pe, .int .i64 c.ty, .int .i64 c.mo, .int .i64 c.e, .int .i64 c.b, .int .i64 c.t, .bool c.g, .int .u64 c.a] 25)) := (At.new' ((w.alloc (.cells #[.bool c.tg, .int .i64 c.pe, .int .i64 c.ty, .int .i64 c.mo, .int .i64 c.e, .int .i64 c.b, .int .i64 c.t, .bool c.g, .int .u64 c.a] 25)).alloc (.cells #[.bool d.tg, .int .i64 d.pe, .int .i64 d.ty, .int .i64 d.mo, .int .i64 d.e, .int .i64 d.b, .int .i64 d.t, .bool d.g, .int .u64 d.a] 25)) [.bool f.tg, .int .i64 f.pe, .int .i64 f.ty, .int .i64 f.mo, .int .i64 f.e, .int .i64 f.b, .int .i64 f.t, .bool f.g, .int .u64 f.a] 25 (by simp)).alloc _
  have D3 : At (w.heap.size + 1 + 1 + 1) [.bool c.tg, .int .i64 c.pe, .int .i64 c.ty, .int .i64 c.mo, .int .i64 c.e, .int .i64 c.b, .int .i64 c.t, .bool c.g, .int .u64 c.a] ((((w.alloc (.cells #[.bool c.tg, .int .i64 c.pe, .int .i64 c.ty, .int .i64 c.mo, .int .i64 c.e, .int .i64 c.b, .int .i64 c.t, .bool c.g, .int .u64 c.a] 25)).alloc (.cells #[.bool d.tg, .int .i64 d.pe, .int .i64 d.ty, .int .i64 d.mo, .int .i64 d.e, .int .i64 d.b, .int .i64 d.t, .bool d.g, .int .u64 d.a] 25)).alloc (.cells #[.bool f.tg, .int .i64 f.pe, .int .i64 f.ty, .int .i64 f.mo, .int .i64 f.e, .int .i64 f.b, .int .i64 f.t, .bool f.g, .int .u64 f.a] 25)).alloc (.cells #[.bool c.tg, .int .i64 c.pe, .int .i64 c.ty, .int .i64 c.mo, .int .i64 c.e, .int .i64 c.b, .int .i64 c.t, .bool c.g, .int .u64 c.a] 25)) := At.new' (((w.alloc (.cells #[.bool c.tg, .int .i64 c.pe, .int .i64 c.ty, .int .i64 c.mo, .int .i64 c.e, .int .i64 c.b, .int .i64 c.t, .bool c.g, .int .u64 c.a] 25)).alloc (.cells #[.bool d.tg, .int .i64 d.pe, .int .i64 d.ty, .int .i64 d.mo, .int .i64 d.e, .int .i64 d.b, .int .i64 d.t, .bool d.g, .int .u64 d.a] 25)).alloc (.cells #[.bool f.tg, .int .i64 f.pe, .int .i64 f.ty, .int .i64 f.mo, .int .i64 f.e, .int .i64 f.b, .int .i64 f.t, .bool f.g, .int .u64 f.a] 25)) [.bool c.tg, .int .i64 c.pe, .int .i64 c.ty, .int .i64 c.mo, .int .i64 c.e, .int .i64 c.b, .int .i64 c.t, .bool c.g, .int .u64 c.a] 25 (by simp)
  have L4 : Bl w (w.heap.size + 4) ((((w.alloc (.cells #[.bool c.tg, .int .i64 c.pe, .int .i64 c.ty, .int .i64 c.mo, .int .i64 c.e, .int .i64 c.b, .int .i64 c.t, .bool c.g, .int .u64 c.a] 25)).alloc (.cells #[.bool d.tg, .int .i64 d.pe, .int .i64 d.ty, .int .i64 d.mo, .int .i64 d.e, .int .i64 d.b, .int .i64 d.t, .bool d.g, .int .u64 d.a] 25)).alloc (.cells #[.bool f.tg, .int .i64 f.pe, .int .i64 f.ty, .int .i64 f.mo, .int .i64 f.e, .int .i64 f.b, .int .i64 f.t, .bool f.g, .int .u64 f.a] 25)).alloc (.cells #[.bool c.tg, .int .i64 c.pe, .int .i64 c.ty, .int .i64 c.mo, .int .i64 c.e, .int .i64 c.b, .int .i64 c.t, .bool c.g, .int .u64 c.a] 25)) := ⟨((((Below.refl _ _).alloc (Nat.le_refl _) _).alloc (by simp) _).alloc (by simp; omega) _).alloc (by simp; omega) _, by omega, by simp⟩
  go_enter Try.func31, Try.ntmps31
  go_upto_region 4 with fail
  generalize hw0 : ((((w.alloc (.cells #[.bool c.tg, .int .i64 c.pe, .int .i64 c.ty, .int .i64 c.mo, .int .i64 c.e, .int .i64 c.b, .int .i64 c.t, .bool c.g, .int .u64 c.a] 25)).alloc (.cells #[.bool d.tg, .int .i64 d.pe, .int .i64 d.ty, .int .i64 d.mo, .int .i64 d.e, .int .i64 d.b, .int .i64 d.t, .bool d.g, .int .u64 d.a] 25)).alloc (.cells #[.bool f.tg, .int .i64 f.pe, .int .i64 f.ty, .int .i64 f.mo, .int .i64 f.e, .int .i64 f.b, .int .i64 f.t, .bool f.g, .int .u64 f.a] 25)).alloc (.cells #[.bool c.tg, .int .i64 c.pe, .int .i64 c.ty, .int .i64 c.mo, .int .i64 c.e, .int .i64 c.b, .int .i64 c.t, .bool c.g, .int .u64 c.a] 25)) = w0 at D0 D1 D2 D3 L4 ⊢
  clear hw0 hy
  refine wp_region_held_drew (S := (fun w' => At (w.heap.size) [.bool c.tg, .int .i64 c.pe, .int .i64 c.ty, .int .i64 c.mo, .int .i64 c.e, .int .i64 c.b, .int .i64 c.t, .bool c.g, .int .u64 c.a] w' ∧ At (w.heap.size + 1) [.bool d.tg, .int .i64 d.pe, .int .i64 d.ty, .int .i64 d.mo, .int .i64 d.e, .int .i64 d.b, .int .i64 d.t, .bool d.g, .int .u64 d.a] w' ∧ At (w.heap.size + 1 + 1) [.bool f.tg, .int .i64 f.pe, .int .i64 f.ty, .int .i64 f.mo, .int .i64 f.e, .int .i64 f.b, .int .i64 f.t, .bool f.g, .int .u64 f.a] w' ∧ At (w.heap.size + 1 + 1 + 1) [.bool c.tg, .int .i64 c.pe, .int .i64 c.ty, .int .i64 c.mo, .int .i64 c.e, .int .i64 c.b, .int .i64 c.t, .bool c.g, .int .u64 c.a] w' ∧ Bl w (w.heap.size + 4) w')) (by kernel_rfl) ⟨At.drew (by with_reducible assumption), At.drew (by with_reducible assumption), At.drew (by with_reducible assumption), At.drew (by with_reducible assumption), Bl.drew (by with_reducible assumption)⟩ (fun hS => ?_)
  generalize hgw : w0.drew = g0 at hS ⊢
  clear hgw
  try simp only [Act.put, zA, zB, zC]
  (refine tk 0 ?_ rfl (Or.inl ⟨by rfl, ?_⟩) hS ?_; rotate_left; focus (intro w' hSw; obtain ⟨s0, s1, s2, s3, sb⟩ := hSw; obtain ⟨_, _, _, _, _, _, _, _, _⟩ := s0.out9; obtain ⟨_, _, _, _, _, _, _, _, _⟩ := s1.out9; obtain ⟨_, _, _, _, _, _, _, _, _⟩ := s2.out9; obtain ⟨_, _, _, _, _, _, _, _, _⟩ := s3.out9; go_simp <;> try with_reducible rfl))
  try simp only [Act.put, zA, zB, zC]
  (refine tk 1 ?_ rfl (Or.inl ⟨by rfl, ?_⟩) hS ?_; rotate_left; focus (intro w' hSw; obtain ⟨s0, s1, s2, s3, sb⟩ := hSw; go_simp <;> try with_reducible rfl))
  try simp only [Act.put, zA, zB, zC]
  (refine tk 3 ?_ rfl (Or.inl ⟨by rfl, ?_⟩) hS ?_; rotate_left; focus (intro w' hSw; obtain ⟨s0, s1, s2, s3, sb⟩ := hSw; obtain ⟨_, _, _, _, _, _, _, _, _⟩ := s0.out9; obtain ⟨_, _, _, _, _, _, _, _, _⟩ := s1.out9; obtain ⟨_, _, _, _, _, _, _, _, _⟩ := s2.out9; obtain ⟨_, _, _, _, _, _, _, _, _⟩ := s3.out9; go_simp <;> try with_reducible rfl))
  try simp only [Act.put, zA, zB, zC]
  (refine tk 4 ?_ rfl (Or.inl ⟨by rfl, ?_⟩) hS ?_; rotate_left; focus (intro w' hSw; obtain ⟨s0, s1, s2, s3, sb⟩ := hSw; go_simp <;> try with_reducible rfl))
  try simp only [Act.put, zA, zB, zC]
  (refine tk 6 ?_ rfl (Or.inl ⟨by rfl, ?_⟩) hS ?_; rotate_left; focus (intro w' hSw; obtain ⟨s0, s1, s2, s3, sb⟩ := hSw; obtain ⟨_, _, _, _, _, _, _, _, _⟩ := s0.out9; obtain ⟨_, _, _, _, _, _, _, _, _⟩ := s1.out9; obtain ⟨_, _, _, _, _, _, _, _, _⟩ := s2.out9; obtain ⟨_, _, _, _, _, _, _, _, _⟩ := s3.out9; go_simp <;> try with_reducible rfl))
  try simp only [Act.put, zA, zB, zC]
  (refine tk 7 ?_ rfl (Or.inl ⟨by rfl, ?_⟩) hS ?_; rotate_left; focus (intro w' hSw; obtain ⟨s0, s1, s2, s3, sb⟩ := hSw; go_simp <;> try with_reducible rfl))
  try simp only [Act.put, zA, zB, zC]
  (refine tk 9 ?_ rfl (Or.inl ⟨by rfl, ?_⟩) hS ?_; rotate_left; focus (intro w' hSw; obtain ⟨s0, s1, s2, s3, sb⟩ := hSw; obtain ⟨_, _, _, _, _, _, _, _, _⟩ := s0.out9; obtain ⟨_, _, _, _, _, _, _, _, _⟩ := s1.out9; obtain ⟨_, _, _, _, _, _, _, _, _⟩ := s2.out9; obtain ⟨_, _, _, _, _, _, _, _, _⟩ := s3.out9; go_simp <;> try with_reducible rfl))
  try simp only [Act.put, zA, zB, zC]
  (refine tk 10 ?_ rfl (Or.inl ⟨by rfl, ?_⟩) hS ?_; rotate_left; focus (intro w' hSw; obtain ⟨s0, s1, s2, s3, sb⟩ := hSw; go_simp <;> try with_reducible rfl))
  try simp only [Act.put, zA, zB, zC]
  (refine tk 12 ?_ rfl (Or.inl ⟨by rfl, ?_⟩) hS ?_; rotate_left; focus (intro w' hSw; obtain ⟨s0, s1, s2, s3, sb⟩ := hSw; obtain ⟨_, _, _, _, _, _, _, _, _⟩ := s0.out9; obtain ⟨_, _, _, _, _, _, _, _, _⟩ := s1.out9; obtain ⟨_, _, _, _, _, _, _, _, _⟩ := s2.out9; obtain ⟨_, _, _, _, _, _, _, _, _⟩ := s3.out9; go_simp <;> try with_reducible rfl))
  try simp only [Act.put, zA, zB, zC]
  (refine tk 13 ?_ rfl (Or.inl ⟨by rfl, ?_⟩) hS ?_; rotate_left; focus (intro w' hSw; obtain ⟨s0, s1, s2, s3, sb⟩ := hSw; go_simp <;> try with_reducible rfl))
  try simp only [Act.put, zA, zB, zC]
  (refine tk 15 ?_ rfl (Or.inl ⟨by rfl, ?_⟩) hS ?_; rotate_left; focus (intro w' hSw; obtain ⟨s0, s1, s2, s3, sb⟩ := hSw; obtain ⟨_, _, _, _, _, _, _, _, _⟩ := s0.out9; obtain ⟨_, _, _, _, _, _, _, _, _⟩ := s1.out9; obtain ⟨_, _, _, _, _, _, _, _, _⟩ := s2.out9; obtain ⟨_, _, _, _, _, _, _, _, _⟩ := s3.out9; go_simp <;> try with_reducible rfl))
  try simp only [Act.put, zA, zB, zC]
  (refine tk 16 ?_ rfl (Or.inl ⟨by rfl, ?_⟩) hS ?_; rotate_left; focus (intro w' hSw; obtain ⟨s0, s1, s2, s3, sb⟩ := hSw; obtain ⟨_, _, _, _, _, _, _, _, _⟩ := s0.out9; obtain ⟨_, _, _, _, _, _, _, _, _⟩ := s1.out9; obtain ⟨_, _, _, _, _, _, _, _, _⟩ := s2.out9; obtain ⟨_, _, _, _, _, _, _, _, _⟩ := s3.out9; go_simp <;> try with_reducible rfl))
  try simp only [Act.put, zA, zB, zC]
  (refine tk 18 ?_ rfl (Or.inl ⟨by rfl, ?_⟩) hS ?_; rotate_left; focus (intro w' hSw; obtain ⟨s0, s1, s2, s3, sb⟩ := hSw; obtain ⟨_, _, _, _, _, _, _, _, _⟩ := s0.out9; obtain ⟨_, _, _, _, _, _, _, _, _⟩ := s1.out9; obtain ⟨_, _, _, _, _, _, _, _, _⟩ := s2.out9; obtain ⟨_, _, _, _, _, _, _, _, _⟩ := s3.out9; go_simp <;> try with_reducible rfl))
  try simp only [Act.put, zA, zB, zC]
  (refine tk 19 ?_ rfl (Or.inl ⟨by rfl, ?_⟩) hS ?_; rotate_left; focus (intro w' hSw; obtain ⟨s0, s1, s2, s3, sb⟩ := hSw; obtain ⟨_, _, _, _, _, _, _, _, _⟩ := s0.out9; obtain ⟨_, _, _, _, _, _, _, _, _⟩ := s1.out9; obtain ⟨_, _, _, _, _, _, _, _, _⟩ := s2.out9; obtain ⟨_, _, _, _, _, _, _, _, _⟩ := s3.out9; go_simp <;> try with_reducible rfl))
  try simp only [Act.put, zA, zB, zC]
  (refine tk 21 ?_ rfl (Or.inl ⟨by rfl, ?_⟩) hS ?_; rotate_left; focus (intro w' hSw; obtain ⟨s0, s1, s2, s3, sb⟩ := hSw; obtain ⟨_, _, _, _, _, _, _, _, _⟩ := s0.out9; obtain ⟨_, _, _, _, _, _, _, _, _⟩ := s1.out9; obtain ⟨_, _, _, _, _, _, _, _, _⟩ := s2.out9; obtain ⟨_, _, _, _, _, _, _, _, _⟩ := s3.out9; go_simp <;> try with_reducible rfl))
  try simp only [Act.put, zA, zB, zC]
  (refine tk 23 ?_ rfl (Or.inl ⟨by rfl, ?_⟩) hS ?_; rotate_left; focus (intro w' hSw; obtain ⟨s0, s1, s2, s3, sb⟩ := hSw; obtain ⟨_, _, _, _, _, _, _, _, _⟩ := s0.out9; obtain ⟨_, _, _, _, _, _, _, _, _⟩ := s1.out9; obtain ⟨_, _, _, _, _, _, _, _, _⟩ := s2.out9; obtain ⟨_, _, _, _, _, _, _, _, _⟩ := s3.out9; go_simp <;> try with_reducible rfl))
  try simp only [Act.put, zA, zB, zC]
  (refine tk 24 ?_ rfl (Or.inl ⟨by rfl, ?_⟩) hS ?_; rotate_left; focus (intro w' hSw; obtain ⟨s0, s1, s2, s3, sb⟩ := hSw; obtain ⟨_, _, _, _, _, _, _, _, _⟩ := s0.out9; obtain ⟨_, _, _, _, _, _, _, _, _⟩ := s1.out9; obtain ⟨_, _, _, _, _, _, _, _, _⟩ := s2.out9; obtain ⟨_, _, _, _, _, _, _, _, _⟩ := s3.out9; go_simp <;> try with_reducible rfl))
  try simp only [Act.put, zA, zB, zC]
  (refine tk 26 ?_ rfl (Or.inl ⟨by rfl, ?_⟩) hS ?_; rotate_left; focus (intro w' hSw; obtain ⟨s0, s1, s2, s3, sb⟩ := hSw; obtain ⟨_, _, _, _, _, _, _, _, _⟩ := s0.out9; obtain ⟨_, _, _, _, _, _, _, _, _⟩ := s1.out9; obtain ⟨_, _, _, _, _, _, _, _, _⟩ := s2.out9; obtain ⟨_, _, _, _, _, _, _, _, _⟩ := s3.out9; go_simp <;> try with_reducible rfl))
  try simp only [Act.put, zA, zB, zC]
  (refine tk 27 ?_ rfl (Or.inl ⟨by rfl, ?_⟩) hS ?_; rotate_left; focus (intro w' hSw; obtain ⟨s0, s1, s2, s3, sb⟩ := hSw; obtain ⟨_, _, _, _, _, _, _, _, _⟩ := s0.out9; obtain ⟨_, _, _, _, _, _, _, _, _⟩ := s1.out9; obtain ⟨_, _, _, _, _, _, _, _, _⟩ := s2.out9; obtain ⟨_, _, _, _, _, _, _, _, _⟩ := s3.out9; go_simp <;> try with_reducible rfl))
  try simp only [Act.put, zA, zB, zC]
  (refine tk 29 ?_ rfl (Or.inl ⟨by rfl, ?_⟩) hS ?_; rotate_left; focus (intro w' hSw; obtain ⟨s0, s1, s2, s3, sb⟩ := hSw; obtain ⟨_, _, _, _, _, _, _, _, _⟩ := s0.out9; obtain ⟨_, _, _, _, _, _, _, _, _⟩ := s1.out9; obtain ⟨_, _, _, _, _, _, _, _, _⟩ := s2.out9; obtain ⟨_, _, _, _, _, _, _, _, _⟩ := s3.out9; go_simp <;> try with_reducible rfl))
  try simp only [Act.put, zA, zB, zC]
  (refine tk 30 ?_ rfl (Or.inl ⟨by rfl, ?_⟩) hS ?_; rotate_left; focus (intro w' hSw; obtain ⟨s0, s1, s2, s3, sb⟩ := hSw; go_simp <;> try with_reducible rfl))
  try simp only [Act.put, zA, zB, zC]
  (refine tk 32 ?_ rfl (Or.inl ⟨by rfl, ?_⟩) hS ?_; rotate_left; focus (intro w' hSw; obtain ⟨s0, s1, s2, s3, sb⟩ := hSw; obtain ⟨_, _, _, _, _, _, _, _, _⟩ := s0.out9; obtain ⟨_, _, _, _, _, _, _, _, _⟩ := s1.out9; obtain ⟨_, _, _, _, _, _, _, _, _⟩ := s2.out9; obtain ⟨_, _, _, _, _, _, _, _, _⟩ := s3.out9; go_simp <;> try with_reducible rfl))
  try simp only [Act.put, zA, zB, zC]
  refine rdy 2 rfl (fun K hK => ?_)
  refine take_if (by rfl) ?_
  obtain ⟨s0, s1, s2, s3, sb⟩ := hS
  go_simp
  (with_reducible refine (HX0.out g0).mono ?_)
  rintro e' g2 ⟨rfl, hb⟩
  have t0 := sb.at_ hb s0 (show w.heap.size < w.heap.size + 4 by omega)
  have t1 := sb.at_ hb s1 (show w.heap.size + 1 < w.heap.size + 4 by omega)
  have t2 := sb.at_ hb s2 (show w.heap.size + 1 + 1 < w.heap.size + 4 by omega)
  have t3 := sb.at_ hb s3 (show w.heap.size + 1 + 1 + 1 < w.heap.size + 4 by omega)
  refine hK.out _ _ ⟨t0, t1, t2, t3, (sb.step hb)⟩ (fun hS => ?_)
  clear hK K hb s0 t0 s1 t1 s2 t2 s3 t3 sb
  try simp only [Act.put, zA, zB, zC]
  refine rdy 5 rfl (fun K hK => ?_)
  refine take_if (by rfl) ?_
  obtain ⟨s0, s1, s2, s3, sb⟩ := hS
  go_simp
  (with_reducible refine (HX1.out g2).mono ?_)
  rintro e' g5 ⟨rfl, hb⟩
  have t0 := sb.at_ hb s0 (show w.heap.size < w.heap.size + 4 by omega)
  have t1 := sb.at_ hb s1 (show w.heap.size + 1 < w.heap.size + 4 by omega)
  have t2 := sb.at_ hb s2 (show w.heap.size + 1 + 1 < w.heap.size + 4 by omega)
  have t3 := sb.at_ hb s3 (show w.heap.size + 1 + 1 + 1 < w.heap.size + 4 by omega)
  refine hK.out _ _ ⟨t0, t1, t2, t3, (sb.step hb)⟩ (fun hS => ?_)
  clear hK K hb s0 t0 s1 t1 s2 t2 s3 t3 sb
  try simp only [Act.put, zA, zB, zC]
  refine rdy 8 rfl (fun K hK => ?_)
  refine take_if (by rfl) ?_
  obtain ⟨s0, s1, s2, s3, sb⟩ := hS
  go_simp
  (with_reducible refine (HX2.out g5).mono ?_)
  rintro e' g8 ⟨rfl, hb⟩
  have t0 := sb.at_ hb s0 (show w.heap.size < w.heap.size + 4 by omega)
  have t1 := sb.at_ hb s1 (show w.heap.size + 1 < w.heap.size + 4 by omega)
  have t2 := sb.at_ hb s2 (show w.heap.size + 1 + 1 < w.heap.size + 4 by omega)
  have t3 := sb.at_ hb s3 (show w.heap.size + 1 + 1 + 1 < w.heap.size + 4 by omega)
  refine hK.out _ _ ⟨t0, t1, t2, t3, (sb.step hb)⟩ (fun hS => ?_)
  clear hK K hb s0 t0 s1 t1 s2 t2 s3 t3 sb
  try simp only [Act.put, zA, zB, zC]
  refine rdy 11 rfl (fun K hK => ?_)
  refine take_if (by rfl) ?_
  obtain ⟨s0, s1, s2, s3, sb⟩ := hS
  go_simp
  (with_reducible refine (HX3.out g8).mono ?_)
  rintro e' g11 ⟨rfl, hb⟩
  have t0 := sb.at_ hb s0 (show w.heap.size < w.heap.size + 4 by omega)
  have t1 := sb.at_ hb s1 (show w.heap.size + 1 < w.heap.size + 4 by omega)
  have t2 := sb.at_ hb s2 (show w.heap.size + 1 + 1 < w.heap.size + 4 by omega)
  have t3 := sb.at_ hb s3 (show w.heap.size + 1 + 1 + 1 < w.heap.size + 4 by omega)
  refine hK.out _ _ ⟨t0, t1, t2, t3, (sb.step hb)⟩ (fun hS => ?_)
  clear hK K hb s0 t0 s1 t1 s2 t2 s3 t3 sb
  try simp only [Act.put, zA, zB, zC]
  refine rdy 14 rfl (fun K hK => ?_)
  refine take_if (by rfl) ?_
  obtain ⟨s0, s1, s2, s3, sb⟩ := hS
  go_simp
  (with_reducible refine (HX4.out g11).mono ?_)
  rintro e' g14 ⟨rfl, hb⟩
  have t0 := sb.at_ hb s0 (show w.heap.size < w.heap.size + 4 by omega)
  have t1 := sb.at_ hb s1 (show w.heap.size + 1 < w.heap.size + 4 by omega)
  have t2 := sb.at_ hb s2 (show w.heap.size + 1 + 1 < w.heap.size + 4 by omega)
  have t3 := sb.at_ hb s3 (show w.heap.size + 1 + 1 + 1 < w.heap.size + 4 by omega)
  refine hK.out _ _ ⟨t0, t1, t2, t3, (sb.step hb)⟩ (fun hS => ?_)
  clear hK K hb s0 t0 s1 t1 s2 t2 s3 t3 sb
  try simp only [Act.put, zA, zB, zC]
  refine rdy 17 rfl (fun K hK => ?_)
  refine take_if (by rfl) ?_
  obtain ⟨s0, s1, s2, s3, sb⟩ := hS
  go_simp
  (with_reducible refine (HX5.out g14).mono ?_)
  rintro e' g17 ⟨rfl, hb⟩
  have t0 := sb.at_ hb s0 (show w.heap.size < w.heap.size + 4 by omega)
  have t1 := sb.at_ hb s1 (show w.heap.size + 1 < w.heap.size + 4 by omega)
  have t2 := sb.at_ hb s2 (show w.heap.size + 1 + 1 < w.heap.size + 4 by omega)
  have t3 := sb.at_ hb s3 (show w.heap.size + 1 + 1 + 1 < w.heap.size + 4 by omega)
  refine hK.out _ _ ⟨t0, t1, t2, t3, (sb.step hb)⟩ (fun hS => ?_)
  clear hK K hb s0 t0 s1 t1 s2 t2 s3 t3 sb
  try simp only [Act.put, zA, zB, zC]
  refine rdy 20 rfl (fun K hK => ?_)
  refine take_if (by rfl) ?_
  obtain ⟨s0, s1, s2, s3, sb⟩ := hS
  go_simp
  (with_reducible refine (HX6.out g17).mono ?_)
  rintro e' g20 ⟨rfl, hb⟩
  have t0 := sb.at_ hb s0 (show w.heap.size < w.heap.size + 4 by omega)
  have t1 := sb.at_ hb s1 (show w.heap.size + 1 < w.heap.size + 4 by omega)
  have t2 := sb.at_ hb s2 (show w.heap.size + 1 + 1 < w.heap.size + 4 by omega)
  have t3 := sb.at_ hb s3 (show w.heap.size + 1 + 1 + 1 < w.heap.size + 4 by omega)
  refine hK.out _ _ ⟨t0, t1, t2, t3, (sb.step hb)⟩ (fun hS => ?_)
  clear hK K hb s0 t0 s1 t1 s2 t2 s3 t3 sb
  try simp only [Act.put, zA, zB, zC]
  refine rdy 22 rfl (fun K hK => ?_)
  refine take_if (by rfl) ?_
  obtain ⟨s0, s1, s2, s3, sb⟩ := hS
  go_simp
  (with_reducible refine (HX7.out g20).mono ?_)
  rintro e' g22 ⟨rfl, hb⟩
  have t0 := sb.at_ hb s0 (show w.heap.size < w.heap.size + 4 by omega)
  have t1 := sb.at_ hb s1 (show w.heap.size + 1 < w.heap.size + 4 by omega)
  have t2 := sb.at_ hb s2 (show w.heap.size + 1 + 1 < w.heap.size + 4 by omega)
  have t3 := sb.at_ hb s3 (show w.heap.size + 1 + 1 + 1 < w.heap.size + 4 by omega)
  refine hK.out _ _ ⟨t0, t1, t2, t3, (sb.step hb)⟩ (fun hS => ?_)
  clear hK K hb s0 t0 s1 t1 s2 t2 s3 t3 sb
  try simp only [Act.put, zA, zB, zC]
  refine rdy 25 rfl (fun K hK => ?_)
  refine take_if (by rfl) ?_
  obtain ⟨s0, s1, s2, s3, sb⟩ := hS
  go_simp
  (with_reducible refine (HX8.out g22).mono ?_)
  rintro e' g25 ⟨rfl, hb⟩
  have t0 := sb.at_ hb s0 (show w.heap.size < w.heap.size + 4 by omega)
  have t1 := sb.at_ hb s1 (show w.heap.size + 1 < w.heap.size + 4 by omega)
  have t2 := sb.at_ hb s2 (show w.heap.size + 1 + 1 < w.heap.size + 4 by omega)
  have t3 := sb.at_ hb s3 (show w.heap.size + 1 + 1 + 1 < w.heap.size + 4 by omega)
  refine hK.out _ _ ⟨t0, t1, t2, t3, (sb.step hb)⟩ (fun hS => ?_)
  clear hK K hb s0 t0 s1 t1 s2 t2 s3 t3 sb
  try simp only [Act.put, zA, zB, zC]
  refine rdy 28 rfl (fun K hK => ?_)
  refine take_if (by rfl) ?_
  obtain ⟨s0, s1, s2, s3, sb⟩ := hS
  go_simp
  (with_reducible refine (HX9.out g25).mono ?_)
  rintro e' g28 ⟨rfl, hb⟩
  have t0 := sb.at_ hb s0 (show w.heap.size < w.heap.size + 4 by omega)
  have t1 := sb.at_ hb s1 (show w.heap.size + 1 < w.heap.size + 4 by omega)
  have t2 := sb.at_ hb s2 (show w.heap.size + 1 + 1 < w.heap.size + 4 by omega)
  have t3 := sb.at_ hb s3 (show w.heap.size + 1 + 1 + 1 < w.heap.size + 4 by omega)
  refine hK.out _ _ ⟨t0, t1, t2, t3, (sb.step hb)⟩ (fun hS => ?_)
  clear hK K hb s0 t0 s1 t1 s2 t2 s3 t3 sb
  try simp only [Act.put, zA, zB, zC]
  refine rdy 31 rfl (fun K hK => ?_)
  refine take_if (by rfl) ?_
  obtain ⟨s0, s1, s2, s3, sb⟩ := hS
  go_simp
  (with_reducible refine (HX10.out g28).mono ?_)
  rintro e' g31 ⟨rfl, hb⟩
  have t0 := sb.at_ hb s0 (show w.heap.size < w.heap.size + 4 by omega)
  have t1 := sb.at_ hb s1 (show w.heap.size + 1 < w.heap.size + 4 by omega)
  have t2 := sb.at_ hb s2 (show w.heap.size + 1 + 1 < w.heap.size + 4 by omega)
  have t3 := sb.at_ hb s3 (show w.heap.size + 1 + 1 + 1 < w.heap.size + 4 by omega)
  refine hK.out _ _ ⟨t0, t1, t2, t3, (sb.step hb)⟩ (fun hS => ?_)
  clear hK K hb s0 t0 s1 t1 s2 t2 s3 t3 sb
  try simp only [Act.put, zA, zB, zC]
  refine rdy 33 rfl (fun K hK => ?_)
  refine take_if (by rfl) ?_
  obtain ⟨s0, s1, s2, s3, sb⟩ := hS
  go_simp
  refine hK.out _ _ ⟨(At.alloc s0 _), (At.alloc s1 _), (At.alloc s2 _), (At.alloc s3 _), (Bl.alloc sb _)⟩ (fun hS => ?_)
  clear hK K
  try simp only [Act.put, zA, zB, zC]
  have r33 : Rd (g31.alloc (.cells #[.bool x0.tg, .int .i64 x0.pe, .int .i64 x0.ty, .int .i64 x0.mo, .int .i64 x0.e, .int .i64 x0.b, .int .i64 x0.t, .bool x0.g, .int .u64 x0.a, .bool x1.tg, .int .i64 x1.pe, .int .i64 x1.ty, .int .i64 x1.mo, .int .i64 x1.e, .int .i64 x1.b, .int .i64 x1.t, .bool x1.g, .int .u64 x1.a, .bool x2.tg, .int .i64 x2.pe, .int .i64 x2.ty, .int .i64 x2.mo, .int .i64 x2.e, .int .i64 x2.b, .int .i64 x2.t, .bool x2.g, .int .u64 x2.a, .bool x3.tg, .int .i64 x3.pe, .int .i64 x3.ty, .int .i64 x3.mo, .int .i64 x3.e, .int .i64 x3.b, .int .i64 x3.t, .bool x3.g, .int .u64 x3.a, .bool x4.tg, .int .i64 x4.pe, .int .i64 x4.ty, .int .i64 x4.mo, .int .i64 x4.e, .int .i64 x4.b, .int .i64 x4.t, .bool x4.g, .int .u64 x4.a, .bool x5.tg, .int .i64 x5.pe, .int .i64 x5.ty, .int .i64 x5.mo, .int .i64 x5.e, .int .i64 x5.b, .int .i64 x5.t, .bool x5.g, .int .u64 x5.a, .bool x6.tg, .int .i64 x6.pe, .int .i64 x6.ty, .int .i64 x6.mo, .int .i64 x6.e, .int .i64 x6.b, .int .i64 x6.t, .bool x6.g, .int .u64 x6.a, .bool x7.tg, .int .i64 x7.pe, .int .i64 x7.ty, .int .i64 x7.mo, .int .i64 x7.e, .int .i64 x7.b, .int .i64 x7.t, .bool x7.g, .int .u64 x7.a, .bool x8.tg, .int .i64 x8.pe, .int .i64 x8.ty, .int .i64 x8.mo, .int .i64 x8.e, .int .i64 x8.b, .int .i64 x8.t, .bool x8.g, .int .u64 x8.a, .bool x9.tg, .int .i64 x9.pe, .int .i64 x9.ty, .int .i64 x9.mo, .int .i64 x9.e, .int .i64 x9.b, .int .i64 x9.t, .bool x9.g, .int .u64 x9.a, .bool x10.tg, .int .i64 x10.pe, .int .i64 x10.ty, .int .i64 x10.mo, .int .i64 x10.e, .int .i64 x10.b, .int .i64 x10.t, .bool x10.g, .int .u64 x10.a, .bool c.tg, .int .i64 c.pe, .int .i64 c.ty, .int .i64 c.mo, .int .i64 c.e, .int .i64 c.b, .int .i64 c.t, .bool c.g, .int .u64 c.a] 25)) (g31.alloc (.cells #[.bool x0.tg, .int .i64 x0.pe, .int .i64 x0.ty, .int .i64 x0.mo, .int .i64 x0.e, .int .i64 x0.b, .int .i64 x0.t, .bool x0.g, .int .u64 x0.a, .bool x1.tg, .int .i64 x1.pe, .int .i64 x1.ty, .int .i64 x1.mo, .int .i64 x1.e, .int .i64 x1.b, .int .i64 x1.t, .bool x1.g, .int .u64 x1.a, .bool x2.tg, .int .i64 x2.pe, .int .i64 x2.ty, .int .i64 x2.mo, .int .i64 x2.e, .int .i64 x2.b, .int .i64 x2.t, .bool x2.g, .int .u64 x2.a, .bool x3.tg, .int .i64 x3.pe, .int .i64 x3.ty, .int .i64 x3.mo, .int .i64 x3.e, .int .i64 x3.b, .int .i64 x3.t, .bool x3.g, .int .u64 x3.a, .bool x4.tg, .int .i64 x4.pe, .int .i64 x4.ty, .int .i64 x4.mo, .int .i64 x4.e, .int .i64 x4.b, .int .i64 x4.t, .bool x4.g, .int .u64 x4.a, .bool x5.tg, .int .i64 x5.pe, .int .i64 x5.ty, .int .i64 x5.mo, .int .i64 x5.e, .int .i64 x5.b, .int .i64 x5.t, .bool x5.g, .int .u64 x5.a, .bool x6.tg, .int .i64 x6.pe, .int .i64 x6.ty, .int .i64 x6.mo, .int .i64 x6.e, .int .i64 x6.b, .int .i64 x6.t, .bool x6.g, .int .u64 x6.a, .bool x7.tg, .int .i64 x7.pe, .int .i64 x7.ty, .int .i64 x7.mo, .int .i64 x7.e, .int .i64 x7.b, .int .i64 x7.t, .bool x7.g, .int .u64 x7.a, .bool x8.tg, .int .i64 x8.pe, .int .i64 x8.ty, .int .i64 x8.mo, .int .i64 x8.e, .int .i64 x8.b, .int .i64 x8.t, .bool x8.g, .int .u64 x8.a, .bool x9.tg, .int .i64 x9.pe, .int .i64 x9.ty, .int .i64 x9.mo, .int .i64 x9.e, .int .i64 x9.b, .int .i64 x9.t, .bool x9.g, .int .u64 x9.a, .bool x10.tg, .int .i64 x10.pe, .int .i64 x10.ty, .int .i64 x10.mo, .int .i64 x10.e, .int .i64 x10.b, .int .i64 x10.t, .bool x10.g, .int .u64 x10.a, .bool c.tg, .int .i64 c.pe, .int .i64 c.ty, .int .i64 c.mo, .int .i64 c.e, .int .i64 c.b, .int .i64 c.t, .bool c.g, .int .u64 c.a] 25)).heap.size (some ⟨g31.heap.size, 0, none⟩) [x0, x1, x2, x3, x4, x5, x6, x7, x8, x9, x10, c] := rd_new [x0, x1, x2, x3, x4, x5, x6, x7, x8, x9, x10, c] g31
  generalize hgw : (g31.alloc (.cells #[.bool x0.tg, .int .i64 x0.pe, .int .i64 x0.ty, .int .i64 x0.mo, .int .i64 x0.e, .int .i64 x0.b, .int .i64 x0.t, .bool x0.g, .int .u64 x0.a, .bool x1.tg, .int .i64 x1.pe, .int .i64 x1.ty, .int .i64 x1.mo, .int .i64 x1.e, .int .i64 x1.b, .int .i64 x1.t, .bool x1.g, .int .u64 x1.a, .bool x2.tg, .int .i64 x2.pe, .int .i64 x2.ty, .int .i64 x2.mo, .int .i64 x2.e, .int .i64 x2.b, .int .i64 x2.t, .bool x2.g, .int .u64 x2.a, .bool x3.tg, .int .i64 x3.pe, .int .i64 x3.ty, .int .i64 x3.mo, .int .i64 x3.e, .int .i64 x3.b, .int .i64 x3.t, .bool x3.g, .int .u64 x3.a, .bool x4.tg, .int .i64 x4.pe, .int .i64 x4.ty, .int .i64 x4.mo, .int .i64 x4.e, .int .i64 x4.b, .int .i64 x4.t, .bool x4.g, .int .u64 x4.a, .bool x5.tg, .int .i64 x5.pe, .int .i64 x5.ty, .int .i64 x5.mo, .int .i64 x5.e, .int .i64 x5.b, .int .i64 x5.t, .bool x5.g, .int .u64 x5.a, .bool x6.tg, .int .i64 x6.pe, .int .i64 x6.ty, .int .i64 x6.mo, .int .i64 x6.e, .int .i64 x6.b, .int .i64 x6.t, .bool x6.g, .int .u64 x6.a, .bool x7.tg, .int .i64 x7.pe, .int .i64 x7.ty, .int .i64 x7.mo, .int .i64 x7.e, .int .i64 x7.b, .int .i64 x7.t, .bool x7.g, .int .u64 x7.a, .bool x8.tg, .int .i64 x8.pe, .int .i64 x8.ty, .int .i64 x8.mo, .int .i64 x8.e, .int .i64 x8.b, .int .i64 x8.t, .bool x8.g, .int .u64 x8.a, .bool x9.tg, .int .i64 x9.pe, .int .i64 x9.ty, .int .i64 x9.mo, .int .i64 x9.e, .int .i64 x9.b, .int .i64 x9.t, .bool x9.g, .int .u64 x9.a, .bool x10.tg, .int .i64 x10.pe, .int .i64 x10.ty, .int .i64 x10.mo, .int .i64 x10.e, .int .i64 x10.b, .int .i64 x10.t, .bool x10.g, .int .u64 x10.a, .bool c.tg, .int .i64 c.pe, .int .i64 c.ty, .int .i64 c.mo, .int .i64 c.e, .int .i64 c.b, .int .i64 c.t, .bool c.g, .int .u64 c.a] 25)) = g33 at hS r33 ⊢
  clear hgw
  (refine tk 34 ?_ rfl (Or.inl ⟨by rfl, ?_⟩) hS ?_; rotate_left; focus (intro w' hSw; obtain ⟨s0, s1, s2, s3, sb⟩ := hSw; go_simp <;> try with_reducible rfl))
  try simp only [Act.put, zA, zB, zC]
  refine wpAnyH_done (by kernel_rfl) ?_ _
  obtain ⟨s0, s1, s2, s3, sb⟩ := hS
  go_wp2
  go_ret
  exact ⟨_, rfl, r33, sb.bl⟩
set_option maxHeartbeats 16000000 in
set_option maxRecDepth 100000 in
theorem made_s (c d f : Cp) (n k : Int) (hc : RC c) (hd : RC d) (hf : RC f) (n0 : 0 ≤ n) (n1 : n < 18446744073709551616) (hy : (c.ty == 262142) = true) (w : World) :
    Calls Try.prog 31 #[.agg #[.bool c.tg, .int .i64 c.pe, .int .i64 c.ty, .int .i64 c.mo, .int .i64 c.e, .int .i64 c.b, .int .i64 c.t, .bool c.g, .int .u64 c.a], .agg #[.bool d.tg, .int .i64 d.pe, .int .i64 d.ty, .int .i64 d.mo, .int .i64 d.e, .int .i64 d.b, .int .i64 d.t, .bool d.g, .int .u64 d.a], .agg #[.bool f.tg, .int .i64 f.pe, .int .i64 f.ty, .int .i64 f.mo, .int .i64 f.e, .int .i64 f.b, .int .i64 f.t, .bool f.g, .int .u64 f.a], .int .u64 n, .int .i64 k] w fun e w' => ∃ g, e = .returned (.slice (some ⟨g, 0, none⟩) 12 12) ∧ Rd w' w'.heap.size (some ⟨g, 0, none⟩) (madeL c d f n k) ∧ Below w.heap.size w w' := by
  have HX0 : Hid (∀ wx : World, Calls Try.prog 35 #[.agg #[.bool c.tg, .int .i64 c.pe, .int .i64 c.ty, .int .i64 c.mo, .int .i64 c.e, .int .i64 c.b, .int .i64 c.t, .bool c.g, .int .u64 c.a], .int .u64 n] wx fun e w' => e = .returned (.agg #[.bool (moveK c n).tg, .int .i64 (moveK c n).pe, .int .i64 (moveK c n).ty, .int .i64 (moveK c n).mo, .int .i64 (moveK c n).e, .int .i64 (moveK c n).b, .int .i64 (moveK c n).t, .bool (moveK c n).g, .int .u64 (moveK c n).a]) ∧ Below wx.heap.size wx w') := Lib.hid (fun wx => movek_w c n hc n0 n1 wx)
  have HX1 : Hid (∀ wx : World, Calls Try.prog 5 #[.agg #[.bool c.tg, .int .i64 c.pe, .int .i64 c.ty, .int .i64 c.mo, .int .i64 c.e, .int .i64 c.b, .int .i64 c.t, .bool c.g, .int .u64 c.a], .int .u64 n, .bool false] wx fun e w' => e = .returned (.agg #[.bool (boundK c n false).tg, .int .i64 (boundK c n false).pe, .int .i64 (boundK c n false).ty, .int .i64 (boundK c n false).mo, .int .i64 (boundK c n false).e, .int .i64 (boundK c n false).b, .int .i64 (boundK c n false).t, .bool (boundK c n false).g, .int .u64 (boundK c n false).a]) ∧ Below wx.heap.size wx w') := Lib.hid (fun wx => boundk_w c n false hc n0 n1 wx)
  have HX2 : Hid (∀ wx : World, Calls Try.prog 5 #[.agg #[.bool c.tg, .int .i64 c.pe, .int .i64 c.ty, .int .i64 c.mo, .int .i64 c.e, .int .i64 c.b, .int .i64 c.t, .bool c.g, .int .u64 c.a], .int .u64 n, .bool true] wx fun e w' => e = .returned (.agg #[.bool (boundK c n true).tg, .int .i64 (boundK c n true).pe, .int .i64 (boundK c n true).ty, .int .i64 (boundK c n true).mo, .int .i64 (boundK c n true).e, .int .i64 (boundK c n true).b, .int .i64 (boundK c n true).t, .bool (boundK c n true).g, .int .u64 (boundK c n true).a]) ∧ Below wx.heap.size wx w') := Lib.hid (fun wx => boundk_w c n true hc n0 n1 wx)
  have HX3 : Hid (∀ wx : World, Calls Try.prog 42 #[.agg #[.bool c.tg, .int .i64 c.pe, .int .i64 c.ty, .int .i64 c.mo, .int .i64 c.e, .int .i64 c.b, .int .i64 c.t, .bool c.g, .int .u64 c.a], .int .i64 k] wx fun e w' => e = .returned (.agg #[.bool (lessK c k).tg, .int .i64 (lessK c k).pe, .int .i64 (lessK c k).ty, .int .i64 (lessK c k).mo, .int .i64 (lessK c k).e, .int .i64 (lessK c k).b, .int .i64 (lessK c k).t, .bool (lessK c k).g, .int .u64 (lessK c k).a]) ∧ Below wx.heap.size wx w') := Lib.hid (fun wx => lessk_w c k wx)
  have HX4 : Hid (∀ wx : World, Calls Try.prog 67 #[.agg #[.bool c.tg, .int .i64 c.pe, .int .i64 c.ty, .int .i64 c.mo, .int .i64 c.e, .int .i64 c.b, .int .i64 c.t, .bool c.g, .int .u64 c.a], .int .i64 k] wx fun e w' => e = .returned (.agg #[.bool (modeK c k).tg, .int .i64 (modeK c k).pe, .int .i64 (modeK c k).ty, .int .i64 (modeK c k).mo, .int .i64 (modeK c k).e, .int .i64 (modeK c k).b, .int .i64 (modeK c k).t, .bool (modeK c k).g, .int .u64 (modeK c k).a]) ∧ Below wx.heap.size wx w') := Lib.hid (fun wx => modek_w c k wx)
  have HX5 : Hid (∀ wx : World, Calls Try.prog 41 #[.agg #[.bool c.tg, .int .i64 c.pe, .int .i64 c.ty, .int .i64 c.mo, .int .i64 c.e, .int .i64 c.b, .int .i64 c.t, .bool c.g, .int .u64 c.a], .agg #[.bool d.tg, .int .i64 d.pe, .int .i64 d.ty, .int .i64 d.mo, .int .i64 d.e, .int .i64 d.b, .int .i64 d.t, .bool d.g, .int .u64 d.a]] wx fun e w' => e = .returned (.agg #[.bool (sealK c d).tg, .int .i64 (sealK c d).pe, .int .i64 (sealK c d).ty, .int .i64 (sealK c d).mo, .int .i64 (sealK c d).e, .int .i64 (sealK c d).b, .int .i64 (sealK c d).t, .bool (sealK c d).g, .int .u64 (sealK c d).a]) ∧ Below wx.heap.size wx w') := Lib.hid (fun wx => sealk_w c d hd wx)
  have HX6 : Hid (∀ wx : World, Calls Try.prog 68 #[.agg #[.bool c.tg, .int .i64 c.pe, .int .i64 c.ty, .int .i64 c.mo, .int .i64 c.e, .int .i64 c.b, .int .i64 c.t, .bool c.g, .int .u64 c.a], .agg #[.bool d.tg, .int .i64 d.pe, .int .i64 d.ty, .int .i64 d.mo, .int .i64 d.e, .int .i64 d.b, .int .i64 d.t, .bool d.g, .int .u64 d.a]] wx fun e w' => e = .returned (.agg #[.bool (unsK c d).tg, .int .i64 (unsK c d).pe, .int .i64 (unsK c d).ty, .int .i64 (unsK c d).mo, .int .i64 (unsK c d).e, .int .i64 (unsK c d).b, .int .i64 (unsK c d).t, .bool (unsK c d).g, .int .u64 (unsK c d).a]) ∧ Below wx.heap.size wx w') := Lib.hid (fun wx => unsk_w c d hc hd wx)
  have HX7 : Hid (∀ wx : World, Calls Try.prog 69 #[.agg #[.bool c.tg, .int .i64 c.pe, .int .i64 c.ty, .int .i64 c.mo, .int .i64 c.e, .int .i64 c.b, .int .i64 c.t, .bool c.g, .int .u64 c.a]] wx fun e w' => e = .returned (.agg #[.bool (sentK c).tg, .int .i64 (sentK c).pe, .int .i64 (sentK c).ty, .int .i64 (sentK c).mo, .int .i64 (sentK c).e, .int .i64 (sentK c).b, .int .i64 (sentK c).t, .bool (sentK c).g, .int .u64 (sentK c).a]) ∧ Below wx.heap.size wx w') := Lib.hid (fun wx => sentk_w c wx)
  have HX8 : Hid (∀ wx : World, Calls Try.prog 70 #[.agg #[.bool c.tg, .int .i64 c.pe, .int .i64 c.ty, .int .i64 c.mo, .int .i64 c.e, .int .i64 c.b, .int .i64 c.t, .bool c.g, .int .u64 c.a], .agg #[.bool f.tg, .int .i64 f.pe, .int .i64 f.ty, .int .i64 f.mo, .int .i64 f.e, .int .i64 f.b, .int .i64 f.t, .bool f.g, .int .u64 f.a]] wx fun e w' => e = .returned (.agg #[.bool (buildK c f).tg, .int .i64 (buildK c f).pe, .int .i64 (buildK c f).ty, .int .i64 (buildK c f).mo, .int .i64 (buildK c f).e, .int .i64 (buildK c f).b, .int .i64 (buildK c f).t, .bool (buildK c f).g, .int .u64 (buildK c f).a]) ∧ Below wx.heap.size wx w') := Lib.hid (fun wx => buildk_w c f hc hf wx)
  have HX9 : Hid (∀ wx : World, Calls Try.prog 71 #[.agg #[.bool c.tg, .int .i64 c.pe, .int .i64 c.ty, .int .i64 c.mo, .int .i64 c.e, .int .i64 c.b, .int .i64 c.t, .bool c.g, .int .u64 c.a], .agg #[.bool d.tg, .int .i64 d.pe, .int .i64 d.ty, .int .i64 d.mo, .int .i64 d.e, .int .i64 d.b, .int .i64 d.t, .bool d.g, .int .u64 d.a]] wx fun e w' => e = .returned (.agg #[.bool (typedK c d).tg, .int .i64 (typedK c d).pe, .int .i64 (typedK c d).ty, .int .i64 (typedK c d).mo, .int .i64 (typedK c d).e, .int .i64 (typedK c d).b, .int .i64 (typedK c d).t, .bool (typedK c d).g, .int .u64 (typedK c d).a]) ∧ Below wx.heap.size wx w') := Lib.hid (fun wx => typedk_w c d hc hd wx)
  have HX10 : Hid (∀ wx : World, Calls Try.prog 72 #[.agg #[.bool c.tg, .int .i64 c.pe, .int .i64 c.ty, .int .i64 c.mo, .int .i64 c.e, .int .i64 c.b, .int .i64 c.t, .bool c.g, .int .u64 c.a], .int .u64 n] wx fun e w' => e = .returned (.agg #[.bool (fromK c n).tg, .int .i64 (fromK c n).pe, .int .i64 (fromK c n).ty, .int .i64 (fromK c n).mo, .int .i64 (fromK c n).e, .int .i64 (fromK c n).b, .int .i64 (fromK c n).t, .bool (fromK c n).g, .int .u64 (fromK c n).a]) ∧ Below wx.heap.size wx w') := Lib.hid (fun wx => fromk_w c n hc wx)
  have HL : Hid (madeL c d f n k = [moveK c n, boundK c n false, boundK c n true, lessK c k, modeK c k, sealK c d, unsK c d, sentK c, buildK c f, typedK c d, fromK c n, openK c]) := Lib.hid rfl
  have ho : openK c = (uns c) := by unfold openK; rw [hy]; rfl
  rw [ho] at HL
  clear ho
  generalize moveK c n = x0 at HX0 HL
  generalize boundK c n false = x1 at HX1 HL
  generalize boundK c n true = x2 at HX2 HL
  generalize lessK c k = x3 at HX3 HL
  generalize modeK c k = x4 at HX4 HL
  generalize sealK c d = x5 at HX5 HL
  generalize unsK c d = x6 at HX6 HL
  generalize sentK c = x7 at HX7 HL
  generalize buildK c f = x8 at HX8 HL
  generalize typedK c d = x9 at HX9 HL
  generalize fromK c n = x10 at HX10 HL
  rw [HL.out]
  clear HL hc hd hf n0 n1
  have D0 : At (w.heap.size) [.bool c.tg, .int .i64 c.pe, .int .i64 c.ty, .int .i64 c.mo, .int .i64 c.e, .int .i64 c.b, .int .i64 c.t, .bool c.g, .int .u64 c.a] ((((w.alloc (.cells #[.bool c.tg, .int .i64 c.pe, .int .i64 c.ty, .int .i64 c.mo, .int .i64 c.e, .int .i64 c.b, .int .i64 c.t, .bool c.g, .int .u64 c.a] 25)).alloc (.cells #[.bool d.tg, .int .i64 d.pe, .int .i64 d.ty, .int .i64 d.mo, .int .i64 d.e, .int .i64 d.b, .int .i64 d.t, .bool d.g, .int .u64 d.a] 25)).alloc (.cells #[.bool f.tg, .int .i64 f.pe, .int .i64 f.ty, .int .i64 f.mo, .int .i64 f.e, .int .i64 f.b, .int .i64 f.t, .bool f.g, .int .u64 f.a] 25)).alloc (.cells #[.bool c.tg, .int .i64 c.pe, .int .i64 262143, .int .i64 c.mo, .int .i64 c.e, .int .i64 c.b, .int .i64 c.t, .bool c.g, .int .u64 c.a] 25)) := (((At.new w [.bool c.tg, .int .i64 c.pe, .int .i64 c.ty, .int .i64 c.mo, .int .i64 c.e, .int .i64 c.b, .int .i64 c.t, .bool c.g, .int .u64 c.a] 25).alloc _).alloc _).alloc _
  have D1 : At (w.heap.size + 1) [.bool d.tg, .int .i64 d.pe, .int .i64 d.ty, .int .i64 d.mo, .int .i64 d.e, .int .i64 d.b, .int .i64 d.t, .bool d.g, .int .u64 d.a] ((((w.alloc (.cells #[.bool c.tg, .int .i64 c.pe, .int .i64 c.ty, .int .i64 c.mo, .int .i64 c.e, .int .i64 c.b, .int .i64 c.t, .bool c.g, .int .u64 c.a] 25)).alloc (.cells #[.bool d.tg, .int .i64 d.pe, .int .i64 d.ty, .int .i64 d.mo, .int .i64 d.e, .int .i64 d.b, .int .i64 d.t, .bool d.g, .int .u64 d.a] 25)).alloc (.cells #[.bool f.tg, .int .i64 f.pe, .int .i64 f.ty, .int .i64 f.mo, .int .i64 f.e, .int .i64 f.b, .int .i64 f.t, .bool f.g, .int .u64 f.a] 25)).alloc (.cells #[.bool c.tg, .int .i64 c.pe, .int .i64 262143, .int .i64 c.mo, .int .i64 c.e, .int .i64 c.b, .int .i64 c.t, .bool c.g, .int .u64 c.a] 25)) := ((At.new' (w.alloc (.cells #[.bool c.tg, .int .i64 c.pe, .int .i64 c.ty, .int .i64 c.mo, .int .i64 c.e, .int .i64 c.b, .int .i64 c.t, .bool c.g, .int .u64 c.a] 25)) [.bool d.tg, .int .i64 d.pe, .int .i64 d.ty, .int .i64 d.mo, .int .i64 d.e, .int .i64 d.b, .int .i64 d.t, .bool d.g, .int .u64 d.a] 25 (by simp)).alloc _).alloc _
  have D2 : At (w.heap.size + 1 + 1) [.bool f.tg, .int .i64 f.pe, .int .i64 f.ty, .int .i64 f.mo, .int .i64 f.e, .int .i64 f.b, .int .i64 f.t, .bool f.g, .int .u64 f.a] ((((w.alloc (.cells #[.bool c.tg, .int .i64 c.pe, .int .i64 c.ty, .int .i64 c.mo, .int .i64 c.e, .int .i64 c.b, .int .i64 c.t, .bool c.g, .int .u64 c.a] 25)).alloc (.cells #[.bool d.tg, .int .i64 d.pe, .int .i64 d.ty, .int .i64 d.mo, .int .i64 d.e, .int .i64 d.b, .int .i64 d.t, .bool d.g, .int .u64 d.a] 25)).alloc (.cells #[.bool f.tg, .int .i64 f.pe, .int .i64 f.ty, .int .i64 f.mo, .int .i64 f.e, .int .i64 f.b, .int .i64 f.t, .bool f.g, .int .u64 f.a] 25)).alloc (.cells #[.bool c.tg, .int .i64 c.pe, .int .i64 262143, .int .i64 c.mo, .int .i64 c.e, .int .i64 c.b, .int .i64 c.t, .bool c.g, .int .u64 c.a] 25)) := (At.new' ((w.alloc (.cells #[.bool c.tg, .int .i64 c.pe, .int .i64 c.ty, .int .i64 c.mo, .int .i64 c.e, .int .i64 c.b, .int .i64 c.t, .bool c.g, .int .u64 c.a] 25)).alloc (.cells #[.bool d.tg, .int .i64 d.pe, .int .i64 d.ty, .int .i64 d.mo, .int .i64 d.e, .int .i64 d.b, .int .i64 d.t, .bool d.g, .int .u64 d.a] 25)) [.bool f.tg, .int .i64 f.pe, .int .i64 f.ty, .int .i64 f.mo, .int .i64 f.e, .int .i64 f.b, .int .i64 f.t, .bool f.g, .int .u64 f.a] 25 (by simp)).alloc _
  have D3 : At (w.heap.size + 1 + 1 + 1) [.bool c.tg, .int .i64 c.pe, .int .i64 262143, .int .i64 c.mo, .int .i64 c.e, .int .i64 c.b, .int .i64 c.t, .bool c.g, .int .u64 c.a] ((((w.alloc (.cells #[.bool c.tg, .int .i64 c.pe, .int .i64 c.ty, .int .i64 c.mo, .int .i64 c.e, .int .i64 c.b, .int .i64 c.t, .bool c.g, .int .u64 c.a] 25)).alloc (.cells #[.bool d.tg, .int .i64 d.pe, .int .i64 d.ty, .int .i64 d.mo, .int .i64 d.e, .int .i64 d.b, .int .i64 d.t, .bool d.g, .int .u64 d.a] 25)).alloc (.cells #[.bool f.tg, .int .i64 f.pe, .int .i64 f.ty, .int .i64 f.mo, .int .i64 f.e, .int .i64 f.b, .int .i64 f.t, .bool f.g, .int .u64 f.a] 25)).alloc (.cells #[.bool c.tg, .int .i64 c.pe, .int .i64 262143, .int .i64 c.mo, .int .i64 c.e, .int .i64 c.b, .int .i64 c.t, .bool c.g, .int .u64 c.a] 25)) := At.new' (((w.alloc (.cells #[.bool c.tg, .int .i64 c.pe, .int .i64 c.ty, .int .i64 c.mo, .int .i64 c.e, .int .i64 c.b, .int .i64 c.t, .bool c.g, .int .u64 c.a] 25)).alloc (.cells #[.bool d.tg, .int .i64 d.pe, .int .i64 d.ty, .int .i64 d.mo, .int .i64 d.e, .int .i64 d.b, .int .i64 d.t, .bool d.g, .int .u64 d.a] 25)).alloc (.cells #[.bool f.tg, .int .i64 f.pe, .int .i64 f.ty, .int .i64 f.mo, .int .i64 f.e, .int .i64 f.b, .int .i64 f.t, .bool f.g, .int .u64 f.a] 25)) [.bool c.tg, .int .i64 c.pe, .int .i64 262143, .int .i64 c.mo, .int .i64 c.e, .int .i64 c.b, .int .i64 c.t, .bool c.g, .int .u64 c.a] 25 (by simp)
  have L4 : Bl w (w.heap.size + 4) ((((w.alloc (.cells #[.bool c.tg, .int .i64 c.pe, .int .i64 c.ty, .int .i64 c.mo, .int .i64 c.e, .int .i64 c.b, .int .i64 c.t, .bool c.g, .int .u64 c.a] 25)).alloc (.cells #[.bool d.tg, .int .i64 d.pe, .int .i64 d.ty, .int .i64 d.mo, .int .i64 d.e, .int .i64 d.b, .int .i64 d.t, .bool d.g, .int .u64 d.a] 25)).alloc (.cells #[.bool f.tg, .int .i64 f.pe, .int .i64 f.ty, .int .i64 f.mo, .int .i64 f.e, .int .i64 f.b, .int .i64 f.t, .bool f.g, .int .u64 f.a] 25)).alloc (.cells #[.bool c.tg, .int .i64 c.pe, .int .i64 262143, .int .i64 c.mo, .int .i64 c.e, .int .i64 c.b, .int .i64 c.t, .bool c.g, .int .u64 c.a] 25)) := ⟨((((Below.refl _ _).alloc (Nat.le_refl _) _).alloc (by simp) _).alloc (by simp; omega) _).alloc (by simp; omega) _, by omega, by simp⟩
  go_enter Try.func31, Try.ntmps31
  go_upto_region 4 with fail
  generalize hw0 : ((((w.alloc (.cells #[.bool c.tg, .int .i64 c.pe, .int .i64 c.ty, .int .i64 c.mo, .int .i64 c.e, .int .i64 c.b, .int .i64 c.t, .bool c.g, .int .u64 c.a] 25)).alloc (.cells #[.bool d.tg, .int .i64 d.pe, .int .i64 d.ty, .int .i64 d.mo, .int .i64 d.e, .int .i64 d.b, .int .i64 d.t, .bool d.g, .int .u64 d.a] 25)).alloc (.cells #[.bool f.tg, .int .i64 f.pe, .int .i64 f.ty, .int .i64 f.mo, .int .i64 f.e, .int .i64 f.b, .int .i64 f.t, .bool f.g, .int .u64 f.a] 25)).alloc (.cells #[.bool c.tg, .int .i64 c.pe, .int .i64 262143, .int .i64 c.mo, .int .i64 c.e, .int .i64 c.b, .int .i64 c.t, .bool c.g, .int .u64 c.a] 25)) = w0 at D0 D1 D2 D3 L4 ⊢
  clear hw0 hy
  refine wp_region_held_drew (S := (fun w' => At (w.heap.size) [.bool c.tg, .int .i64 c.pe, .int .i64 c.ty, .int .i64 c.mo, .int .i64 c.e, .int .i64 c.b, .int .i64 c.t, .bool c.g, .int .u64 c.a] w' ∧ At (w.heap.size + 1) [.bool d.tg, .int .i64 d.pe, .int .i64 d.ty, .int .i64 d.mo, .int .i64 d.e, .int .i64 d.b, .int .i64 d.t, .bool d.g, .int .u64 d.a] w' ∧ At (w.heap.size + 1 + 1) [.bool f.tg, .int .i64 f.pe, .int .i64 f.ty, .int .i64 f.mo, .int .i64 f.e, .int .i64 f.b, .int .i64 f.t, .bool f.g, .int .u64 f.a] w' ∧ At (w.heap.size + 1 + 1 + 1) [.bool c.tg, .int .i64 c.pe, .int .i64 262143, .int .i64 c.mo, .int .i64 c.e, .int .i64 c.b, .int .i64 c.t, .bool c.g, .int .u64 c.a] w' ∧ Bl w (w.heap.size + 4) w')) (by kernel_rfl) ⟨At.drew (by with_reducible assumption), At.drew (by with_reducible assumption), At.drew (by with_reducible assumption), At.drew (by with_reducible assumption), Bl.drew (by with_reducible assumption)⟩ (fun hS => ?_)
  generalize hgw : w0.drew = g0 at hS ⊢
  clear hgw
  try simp only [Act.put, zA, zB, zC]
  (refine tk 0 ?_ rfl (Or.inl ⟨by rfl, ?_⟩) hS ?_; rotate_left; focus (intro w' hSw; obtain ⟨s0, s1, s2, s3, sb⟩ := hSw; obtain ⟨_, _, _, _, _, _, _, _, _⟩ := s0.out9; obtain ⟨_, _, _, _, _, _, _, _, _⟩ := s1.out9; obtain ⟨_, _, _, _, _, _, _, _, _⟩ := s2.out9; obtain ⟨_, _, _, _, _, _, _, _, _⟩ := s3.out9; go_simp <;> try with_reducible rfl))
  try simp only [Act.put, zA, zB, zC]
  (refine tk 1 ?_ rfl (Or.inl ⟨by rfl, ?_⟩) hS ?_; rotate_left; focus (intro w' hSw; obtain ⟨s0, s1, s2, s3, sb⟩ := hSw; go_simp <;> try with_reducible rfl))
  try simp only [Act.put, zA, zB, zC]
  (refine tk 3 ?_ rfl (Or.inl ⟨by rfl, ?_⟩) hS ?_; rotate_left; focus (intro w' hSw; obtain ⟨s0, s1, s2, s3, sb⟩ := hSw; obtain ⟨_, _, _, _, _, _, _, _, _⟩ := s0.out9; obtain ⟨_, _, _, _, _, _, _, _, _⟩ := s1.out9; obtain ⟨_, _, _, _, _, _, _, _, _⟩ := s2.out9; obtain ⟨_, _, _, _, _, _, _, _, _⟩ := s3.out9; go_simp <;> try with_reducible rfl))
  try simp only [Act.put, zA, zB, zC]
  (refine tk 4 ?_ rfl (Or.inl ⟨by rfl, ?_⟩) hS ?_; rotate_left; focus (intro w' hSw; obtain ⟨s0, s1, s2, s3, sb⟩ := hSw; go_simp <;> try with_reducible rfl))
  try simp only [Act.put, zA, zB, zC]
  (refine tk 6 ?_ rfl (Or.inl ⟨by rfl, ?_⟩) hS ?_; rotate_left; focus (intro w' hSw; obtain ⟨s0, s1, s2, s3, sb⟩ := hSw; obtain ⟨_, _, _, _, _, _, _, _, _⟩ := s0.out9; obtain ⟨_, _, _, _, _, _, _, _, _⟩ := s1.out9; obtain ⟨_, _, _, _, _, _, _, _, _⟩ := s2.out9; obtain ⟨_, _, _, _, _, _, _, _, _⟩ := s3.out9; go_simp <;> try with_reducible rfl))
  try simp only [Act.put, zA, zB, zC]
  (refine tk 7 ?_ rfl (Or.inl ⟨by rfl, ?_⟩) hS ?_; rotate_left; focus (intro w' hSw; obtain ⟨s0, s1, s2, s3, sb⟩ := hSw; go_simp <;> try with_reducible rfl))
  try simp only [Act.put, zA, zB, zC]
  (refine tk 9 ?_ rfl (Or.inl ⟨by rfl, ?_⟩) hS ?_; rotate_left; focus (intro w' hSw; obtain ⟨s0, s1, s2, s3, sb⟩ := hSw; obtain ⟨_, _, _, _, _, _, _, _, _⟩ := s0.out9; obtain ⟨_, _, _, _, _, _, _, _, _⟩ := s1.out9; obtain ⟨_, _, _, _, _, _, _, _, _⟩ := s2.out9; obtain ⟨_, _, _, _, _, _, _, _, _⟩ := s3.out9; go_simp <;> try with_reducible rfl))
  try simp only [Act.put, zA, zB, zC]
  (refine tk 10 ?_ rfl (Or.inl ⟨by rfl, ?_⟩) hS ?_; rotate_left; focus (intro w' hSw; obtain ⟨s0, s1, s2, s3, sb⟩ := hSw; go_simp <;> try with_reducible rfl))
  try simp only [Act.put, zA, zB, zC]
  (refine tk 12 ?_ rfl (Or.inl ⟨by rfl, ?_⟩) hS ?_; rotate_left; focus (intro w' hSw; obtain ⟨s0, s1, s2, s3, sb⟩ := hSw; obtain ⟨_, _, _, _, _, _, _, _, _⟩ := s0.out9; obtain ⟨_, _, _, _, _, _, _, _, _⟩ := s1.out9; obtain ⟨_, _, _, _, _, _, _, _, _⟩ := s2.out9; obtain ⟨_, _, _, _, _, _, _, _, _⟩ := s3.out9; go_simp <;> try with_reducible rfl))
  try simp only [Act.put, zA, zB, zC]
  (refine tk 13 ?_ rfl (Or.inl ⟨by rfl, ?_⟩) hS ?_; rotate_left; focus (intro w' hSw; obtain ⟨s0, s1, s2, s3, sb⟩ := hSw; go_simp <;> try with_reducible rfl))
  try simp only [Act.put, zA, zB, zC]
  (refine tk 15 ?_ rfl (Or.inl ⟨by rfl, ?_⟩) hS ?_; rotate_left; focus (intro w' hSw; obtain ⟨s0, s1, s2, s3, sb⟩ := hSw; obtain ⟨_, _, _, _, _, _, _, _, _⟩ := s0.out9; obtain ⟨_, _, _, _, _, _, _, _, _⟩ := s1.out9; obtain ⟨_, _, _, _, _, _, _, _, _⟩ := s2.out9; obtain ⟨_, _, _, _, _, _, _, _, _⟩ := s3.out9; go_simp <;> try with_reducible rfl))
  try simp only [Act.put, zA, zB, zC]
  (refine tk 16 ?_ rfl (Or.inl ⟨by rfl, ?_⟩) hS ?_; rotate_left; focus (intro w' hSw; obtain ⟨s0, s1, s2, s3, sb⟩ := hSw; obtain ⟨_, _, _, _, _, _, _, _, _⟩ := s0.out9; obtain ⟨_, _, _, _, _, _, _, _, _⟩ := s1.out9; obtain ⟨_, _, _, _, _, _, _, _, _⟩ := s2.out9; obtain ⟨_, _, _, _, _, _, _, _, _⟩ := s3.out9; go_simp <;> try with_reducible rfl))
  try simp only [Act.put, zA, zB, zC]
  (refine tk 18 ?_ rfl (Or.inl ⟨by rfl, ?_⟩) hS ?_; rotate_left; focus (intro w' hSw; obtain ⟨s0, s1, s2, s3, sb⟩ := hSw; obtain ⟨_, _, _, _, _, _, _, _, _⟩ := s0.out9; obtain ⟨_, _, _, _, _, _, _, _, _⟩ := s1.out9; obtain ⟨_, _, _, _, _, _, _, _, _⟩ := s2.out9; obtain ⟨_, _, _, _, _, _, _, _, _⟩ := s3.out9; go_simp <;> try with_reducible rfl))
  try simp only [Act.put, zA, zB, zC]
  (refine tk 19 ?_ rfl (Or.inl ⟨by rfl, ?_⟩) hS ?_; rotate_left; focus (intro w' hSw; obtain ⟨s0, s1, s2, s3, sb⟩ := hSw; obtain ⟨_, _, _, _, _, _, _, _, _⟩ := s0.out9; obtain ⟨_, _, _, _, _, _, _, _, _⟩ := s1.out9; obtain ⟨_, _, _, _, _, _, _, _, _⟩ := s2.out9; obtain ⟨_, _, _, _, _, _, _, _, _⟩ := s3.out9; go_simp <;> try with_reducible rfl))
  try simp only [Act.put, zA, zB, zC]
  (refine tk 21 ?_ rfl (Or.inl ⟨by rfl, ?_⟩) hS ?_; rotate_left; focus (intro w' hSw; obtain ⟨s0, s1, s2, s3, sb⟩ := hSw; obtain ⟨_, _, _, _, _, _, _, _, _⟩ := s0.out9; obtain ⟨_, _, _, _, _, _, _, _, _⟩ := s1.out9; obtain ⟨_, _, _, _, _, _, _, _, _⟩ := s2.out9; obtain ⟨_, _, _, _, _, _, _, _, _⟩ := s3.out9; go_simp <;> try with_reducible rfl))
  try simp only [Act.put, zA, zB, zC]
  (refine tk 23 ?_ rfl (Or.inl ⟨by rfl, ?_⟩) hS ?_; rotate_left; focus (intro w' hSw; obtain ⟨s0, s1, s2, s3, sb⟩ := hSw; obtain ⟨_, _, _, _, _, _, _, _, _⟩ := s0.out9; obtain ⟨_, _, _, _, _, _, _, _, _⟩ := s1.out9; obtain ⟨_, _, _, _, _, _, _, _, _⟩ := s2.out9; obtain ⟨_, _, _, _, _, _, _, _, _⟩ := s3.out9; go_simp <;> try with_reducible rfl))
  try simp only [Act.put, zA, zB, zC]
  (refine tk 24 ?_ rfl (Or.inl ⟨by rfl, ?_⟩) hS ?_; rotate_left; focus (intro w' hSw; obtain ⟨s0, s1, s2, s3, sb⟩ := hSw; obtain ⟨_, _, _, _, _, _, _, _, _⟩ := s0.out9; obtain ⟨_, _, _, _, _, _, _, _, _⟩ := s1.out9; obtain ⟨_, _, _, _, _, _, _, _, _⟩ := s2.out9; obtain ⟨_, _, _, _, _, _, _, _, _⟩ := s3.out9; go_simp <;> try with_reducible rfl))
  try simp only [Act.put, zA, zB, zC]
  (refine tk 26 ?_ rfl (Or.inl ⟨by rfl, ?_⟩) hS ?_; rotate_left; focus (intro w' hSw; obtain ⟨s0, s1, s2, s3, sb⟩ := hSw; obtain ⟨_, _, _, _, _, _, _, _, _⟩ := s0.out9; obtain ⟨_, _, _, _, _, _, _, _, _⟩ := s1.out9; obtain ⟨_, _, _, _, _, _, _, _, _⟩ := s2.out9; obtain ⟨_, _, _, _, _, _, _, _, _⟩ := s3.out9; go_simp <;> try with_reducible rfl))
  try simp only [Act.put, zA, zB, zC]
  (refine tk 27 ?_ rfl (Or.inl ⟨by rfl, ?_⟩) hS ?_; rotate_left; focus (intro w' hSw; obtain ⟨s0, s1, s2, s3, sb⟩ := hSw; obtain ⟨_, _, _, _, _, _, _, _, _⟩ := s0.out9; obtain ⟨_, _, _, _, _, _, _, _, _⟩ := s1.out9; obtain ⟨_, _, _, _, _, _, _, _, _⟩ := s2.out9; obtain ⟨_, _, _, _, _, _, _, _, _⟩ := s3.out9; go_simp <;> try with_reducible rfl))
  try simp only [Act.put, zA, zB, zC]
  (refine tk 29 ?_ rfl (Or.inl ⟨by rfl, ?_⟩) hS ?_; rotate_left; focus (intro w' hSw; obtain ⟨s0, s1, s2, s3, sb⟩ := hSw; obtain ⟨_, _, _, _, _, _, _, _, _⟩ := s0.out9; obtain ⟨_, _, _, _, _, _, _, _, _⟩ := s1.out9; obtain ⟨_, _, _, _, _, _, _, _, _⟩ := s2.out9; obtain ⟨_, _, _, _, _, _, _, _, _⟩ := s3.out9; go_simp <;> try with_reducible rfl))
  try simp only [Act.put, zA, zB, zC]
  (refine tk 30 ?_ rfl (Or.inl ⟨by rfl, ?_⟩) hS ?_; rotate_left; focus (intro w' hSw; obtain ⟨s0, s1, s2, s3, sb⟩ := hSw; go_simp <;> try with_reducible rfl))
  try simp only [Act.put, zA, zB, zC]
  (refine tk 32 ?_ rfl (Or.inl ⟨by rfl, ?_⟩) hS ?_; rotate_left; focus (intro w' hSw; obtain ⟨s0, s1, s2, s3, sb⟩ := hSw; obtain ⟨_, _, _, _, _, _, _, _, _⟩ := s0.out9; obtain ⟨_, _, _, _, _, _, _, _, _⟩ := s1.out9; obtain ⟨_, _, _, _, _, _, _, _, _⟩ := s2.out9; obtain ⟨_, _, _, _, _, _, _, _, _⟩ := s3.out9; go_simp <;> try with_reducible rfl))
  try simp only [Act.put, zA, zB, zC]
  refine rdy 2 rfl (fun K hK => ?_)
  refine take_if (by rfl) ?_
  obtain ⟨s0, s1, s2, s3, sb⟩ := hS
  go_simp
  (with_reducible refine (HX0.out g0).mono ?_)
  rintro e' g2 ⟨rfl, hb⟩
  have t0 := sb.at_ hb s0 (show w.heap.size < w.heap.size + 4 by omega)
  have t1 := sb.at_ hb s1 (show w.heap.size + 1 < w.heap.size + 4 by omega)
  have t2 := sb.at_ hb s2 (show w.heap.size + 1 + 1 < w.heap.size + 4 by omega)
  have t3 := sb.at_ hb s3 (show w.heap.size + 1 + 1 + 1 < w.heap.size + 4 by omega)
  refine hK.out _ _ ⟨t0, t1, t2, t3, (sb.step hb)⟩ (fun hS => ?_)
  clear hK K hb s0 t0 s1 t1 s2 t2 s3 t3 sb
  try simp only [Act.put, zA, zB, zC]
  refine rdy 5 rfl (fun K hK => ?_)
  refine take_if (by rfl) ?_
  obtain ⟨s0, s1, s2, s3, sb⟩ := hS
  go_simp
  (with_reducible refine (HX1.out g2).mono ?_)
  rintro e' g5 ⟨rfl, hb⟩
  have t0 := sb.at_ hb s0 (show w.heap.size < w.heap.size + 4 by omega)
  have t1 := sb.at_ hb s1 (show w.heap.size + 1 < w.heap.size + 4 by omega)
  have t2 := sb.at_ hb s2 (show w.heap.size + 1 + 1 < w.heap.size + 4 by omega)
  have t3 := sb.at_ hb s3 (show w.heap.size + 1 + 1 + 1 < w.heap.size + 4 by omega)
  refine hK.out _ _ ⟨t0, t1, t2, t3, (sb.step hb)⟩ (fun hS => ?_)
  clear hK K hb s0 t0 s1 t1 s2 t2 s3 t3 sb
  try simp only [Act.put, zA, zB, zC]
  refine rdy 8 rfl (fun K hK => ?_)
  refine take_if (by rfl) ?_
  obtain ⟨s0, s1, s2, s3, sb⟩ := hS
  go_simp
  (with_reducible refine (HX2.out g5).mono ?_)
  rintro e' g8 ⟨rfl, hb⟩
  have t0 := sb.at_ hb s0 (show w.heap.size < w.heap.size + 4 by omega)
  have t1 := sb.at_ hb s1 (show w.heap.size + 1 < w.heap.size + 4 by omega)
  have t2 := sb.at_ hb s2 (show w.heap.size + 1 + 1 < w.heap.size + 4 by omega)
  have t3 := sb.at_ hb s3 (show w.heap.size + 1 + 1 + 1 < w.heap.size + 4 by omega)
  refine hK.out _ _ ⟨t0, t1, t2, t3, (sb.step hb)⟩ (fun hS => ?_)
  clear hK K hb s0 t0 s1 t1 s2 t2 s3 t3 sb
  try simp only [Act.put, zA, zB, zC]
  refine rdy 11 rfl (fun K hK => ?_)
  refine take_if (by rfl) ?_
  obtain ⟨s0, s1, s2, s3, sb⟩ := hS
  go_simp
  (with_reducible refine (HX3.out g8).mono ?_)
  rintro e' g11 ⟨rfl, hb⟩
  have t0 := sb.at_ hb s0 (show w.heap.size < w.heap.size + 4 by omega)
  have t1 := sb.at_ hb s1 (show w.heap.size + 1 < w.heap.size + 4 by omega)
  have t2 := sb.at_ hb s2 (show w.heap.size + 1 + 1 < w.heap.size + 4 by omega)
  have t3 := sb.at_ hb s3 (show w.heap.size + 1 + 1 + 1 < w.heap.size + 4 by omega)
  refine hK.out _ _ ⟨t0, t1, t2, t3, (sb.step hb)⟩ (fun hS => ?_)
  clear hK K hb s0 t0 s1 t1 s2 t2 s3 t3 sb
  try simp only [Act.put, zA, zB, zC]
  refine rdy 14 rfl (fun K hK => ?_)
  refine take_if (by rfl) ?_
  obtain ⟨s0, s1, s2, s3, sb⟩ := hS
  go_simp
  (with_reducible refine (HX4.out g11).mono ?_)
  rintro e' g14 ⟨rfl, hb⟩
  have t0 := sb.at_ hb s0 (show w.heap.size < w.heap.size + 4 by omega)
  have t1 := sb.at_ hb s1 (show w.heap.size + 1 < w.heap.size + 4 by omega)
  have t2 := sb.at_ hb s2 (show w.heap.size + 1 + 1 < w.heap.size + 4 by omega)
  have t3 := sb.at_ hb s3 (show w.heap.size + 1 + 1 + 1 < w.heap.size + 4 by omega)
  refine hK.out _ _ ⟨t0, t1, t2, t3, (sb.step hb)⟩ (fun hS => ?_)
  clear hK K hb s0 t0 s1 t1 s2 t2 s3 t3 sb
  try simp only [Act.put, zA, zB, zC]
  refine rdy 17 rfl (fun K hK => ?_)
  refine take_if (by rfl) ?_
  obtain ⟨s0, s1, s2, s3, sb⟩ := hS
  go_simp
  (with_reducible refine (HX5.out g14).mono ?_)
  rintro e' g17 ⟨rfl, hb⟩
  have t0 := sb.at_ hb s0 (show w.heap.size < w.heap.size + 4 by omega)
  have t1 := sb.at_ hb s1 (show w.heap.size + 1 < w.heap.size + 4 by omega)
  have t2 := sb.at_ hb s2 (show w.heap.size + 1 + 1 < w.heap.size + 4 by omega)
  have t3 := sb.at_ hb s3 (show w.heap.size + 1 + 1 + 1 < w.heap.size + 4 by omega)
  refine hK.out _ _ ⟨t0, t1, t2, t3, (sb.step hb)⟩ (fun hS => ?_)
  clear hK K hb s0 t0 s1 t1 s2 t2 s3 t3 sb
  try simp only [Act.put, zA, zB, zC]
  refine rdy 20 rfl (fun K hK => ?_)
  refine take_if (by rfl) ?_
  obtain ⟨s0, s1, s2, s3, sb⟩ := hS
  go_simp
  (with_reducible refine (HX6.out g17).mono ?_)
  rintro e' g20 ⟨rfl, hb⟩
  have t0 := sb.at_ hb s0 (show w.heap.size < w.heap.size + 4 by omega)
  have t1 := sb.at_ hb s1 (show w.heap.size + 1 < w.heap.size + 4 by omega)
  have t2 := sb.at_ hb s2 (show w.heap.size + 1 + 1 < w.heap.size + 4 by omega)
  have t3 := sb.at_ hb s3 (show w.heap.size + 1 + 1 + 1 < w.heap.size + 4 by omega)
  refine hK.out _ _ ⟨t0, t1, t2, t3, (sb.step hb)⟩ (fun hS => ?_)
  clear hK K hb s0 t0 s1 t1 s2 t2 s3 t3 sb
  try simp only [Act.put, zA, zB, zC]
  refine rdy 22 rfl (fun K hK => ?_)
  refine take_if (by rfl) ?_
  obtain ⟨s0, s1, s2, s3, sb⟩ := hS
  go_simp
  (with_reducible refine (HX7.out g20).mono ?_)
  rintro e' g22 ⟨rfl, hb⟩
  have t0 := sb.at_ hb s0 (show w.heap.size < w.heap.size + 4 by omega)
  have t1 := sb.at_ hb s1 (show w.heap.size + 1 < w.heap.size + 4 by omega)
  have t2 := sb.at_ hb s2 (show w.heap.size + 1 + 1 < w.heap.size + 4 by omega)
  have t3 := sb.at_ hb s3 (show w.heap.size + 1 + 1 + 1 < w.heap.size + 4 by omega)
  refine hK.out _ _ ⟨t0, t1, t2, t3, (sb.step hb)⟩ (fun hS => ?_)
  clear hK K hb s0 t0 s1 t1 s2 t2 s3 t3 sb
  try simp only [Act.put, zA, zB, zC]
  refine rdy 25 rfl (fun K hK => ?_)
  refine take_if (by rfl) ?_
  obtain ⟨s0, s1, s2, s3, sb⟩ := hS
  go_simp
  (with_reducible refine (HX8.out g22).mono ?_)
  rintro e' g25 ⟨rfl, hb⟩
  have t0 := sb.at_ hb s0 (show w.heap.size < w.heap.size + 4 by omega)
  have t1 := sb.at_ hb s1 (show w.heap.size + 1 < w.heap.size + 4 by omega)
  have t2 := sb.at_ hb s2 (show w.heap.size + 1 + 1 < w.heap.size + 4 by omega)
  have t3 := sb.at_ hb s3 (show w.heap.size + 1 + 1 + 1 < w.heap.size + 4 by omega)
  refine hK.out _ _ ⟨t0, t1, t2, t3, (sb.step hb)⟩ (fun hS => ?_)
  clear hK K hb s0 t0 s1 t1 s2 t2 s3 t3 sb
  try simp only [Act.put, zA, zB, zC]
  refine rdy 28 rfl (fun K hK => ?_)
  refine take_if (by rfl) ?_
  obtain ⟨s0, s1, s2, s3, sb⟩ := hS
  go_simp
  (with_reducible refine (HX9.out g25).mono ?_)
  rintro e' g28 ⟨rfl, hb⟩
  have t0 := sb.at_ hb s0 (show w.heap.size < w.heap.size + 4 by omega)
  have t1 := sb.at_ hb s1 (show w.heap.size + 1 < w.heap.size + 4 by omega)
  have t2 := sb.at_ hb s2 (show w.heap.size + 1 + 1 < w.heap.size + 4 by omega)
  have t3 := sb.at_ hb s3 (show w.heap.size + 1 + 1 + 1 < w.heap.size + 4 by omega)
  refine hK.out _ _ ⟨t0, t1, t2, t3, (sb.step hb)⟩ (fun hS => ?_)
  clear hK K hb s0 t0 s1 t1 s2 t2 s3 t3 sb
  try simp only [Act.put, zA, zB, zC]
  refine rdy 31 rfl (fun K hK => ?_)
  refine take_if (by rfl) ?_
  obtain ⟨s0, s1, s2, s3, sb⟩ := hS
  go_simp
  (with_reducible refine (HX10.out g28).mono ?_)
  rintro e' g31 ⟨rfl, hb⟩
  have t0 := sb.at_ hb s0 (show w.heap.size < w.heap.size + 4 by omega)
  have t1 := sb.at_ hb s1 (show w.heap.size + 1 < w.heap.size + 4 by omega)
  have t2 := sb.at_ hb s2 (show w.heap.size + 1 + 1 < w.heap.size + 4 by omega)
  have t3 := sb.at_ hb s3 (show w.heap.size + 1 + 1 + 1 < w.heap.size + 4 by omega)
  refine hK.out _ _ ⟨t0, t1, t2, t3, (sb.step hb)⟩ (fun hS => ?_)
  clear hK K hb s0 t0 s1 t1 s2 t2 s3 t3 sb
  try simp only [Act.put, zA, zB, zC]
  refine rdy 33 rfl (fun K hK => ?_)
  refine take_if (by rfl) ?_
  obtain ⟨s0, s1, s2, s3, sb⟩ := hS
  go_simp
  refine hK.out _ _ ⟨(At.alloc s0 _), (At.alloc s1 _), (At.alloc s2 _), (At.alloc s3 _), (Bl.alloc sb _)⟩ (fun hS => ?_)
  clear hK K
  try simp only [Act.put, zA, zB, zC]
  have r33 : Rd (g31.alloc (.cells #[.bool x0.tg, .int .i64 x0.pe, .int .i64 x0.ty, .int .i64 x0.mo, .int .i64 x0.e, .int .i64 x0.b, .int .i64 x0.t, .bool x0.g, .int .u64 x0.a, .bool x1.tg, .int .i64 x1.pe, .int .i64 x1.ty, .int .i64 x1.mo, .int .i64 x1.e, .int .i64 x1.b, .int .i64 x1.t, .bool x1.g, .int .u64 x1.a, .bool x2.tg, .int .i64 x2.pe, .int .i64 x2.ty, .int .i64 x2.mo, .int .i64 x2.e, .int .i64 x2.b, .int .i64 x2.t, .bool x2.g, .int .u64 x2.a, .bool x3.tg, .int .i64 x3.pe, .int .i64 x3.ty, .int .i64 x3.mo, .int .i64 x3.e, .int .i64 x3.b, .int .i64 x3.t, .bool x3.g, .int .u64 x3.a, .bool x4.tg, .int .i64 x4.pe, .int .i64 x4.ty, .int .i64 x4.mo, .int .i64 x4.e, .int .i64 x4.b, .int .i64 x4.t, .bool x4.g, .int .u64 x4.a, .bool x5.tg, .int .i64 x5.pe, .int .i64 x5.ty, .int .i64 x5.mo, .int .i64 x5.e, .int .i64 x5.b, .int .i64 x5.t, .bool x5.g, .int .u64 x5.a, .bool x6.tg, .int .i64 x6.pe, .int .i64 x6.ty, .int .i64 x6.mo, .int .i64 x6.e, .int .i64 x6.b, .int .i64 x6.t, .bool x6.g, .int .u64 x6.a, .bool x7.tg, .int .i64 x7.pe, .int .i64 x7.ty, .int .i64 x7.mo, .int .i64 x7.e, .int .i64 x7.b, .int .i64 x7.t, .bool x7.g, .int .u64 x7.a, .bool x8.tg, .int .i64 x8.pe, .int .i64 x8.ty, .int .i64 x8.mo, .int .i64 x8.e, .int .i64 x8.b, .int .i64 x8.t, .bool x8.g, .int .u64 x8.a, .bool x9.tg, .int .i64 x9.pe, .int .i64 x9.ty, .int .i64 x9.mo, .int .i64 x9.e, .int .i64 x9.b, .int .i64 x9.t, .bool x9.g, .int .u64 x9.a, .bool x10.tg, .int .i64 x10.pe, .int .i64 x10.ty, .int .i64 x10.mo, .int .i64 x10.e, .int .i64 x10.b, .int .i64 x10.t, .bool x10.g, .int .u64 x10.a, .bool c.tg, .int .i64 c.pe, .int .i64 262143, .int .i64 c.mo, .int .i64 c.e, .int .i64 c.b, .int .i64 c.t, .bool c.g, .int .u64 c.a] 25)) (g31.alloc (.cells #[.bool x0.tg, .int .i64 x0.pe, .int .i64 x0.ty, .int .i64 x0.mo, .int .i64 x0.e, .int .i64 x0.b, .int .i64 x0.t, .bool x0.g, .int .u64 x0.a, .bool x1.tg, .int .i64 x1.pe, .int .i64 x1.ty, .int .i64 x1.mo, .int .i64 x1.e, .int .i64 x1.b, .int .i64 x1.t, .bool x1.g, .int .u64 x1.a, .bool x2.tg, .int .i64 x2.pe, .int .i64 x2.ty, .int .i64 x2.mo, .int .i64 x2.e, .int .i64 x2.b, .int .i64 x2.t, .bool x2.g, .int .u64 x2.a, .bool x3.tg, .int .i64 x3.pe, .int .i64 x3.ty, .int .i64 x3.mo, .int .i64 x3.e, .int .i64 x3.b, .int .i64 x3.t, .bool x3.g, .int .u64 x3.a, .bool x4.tg, .int .i64 x4.pe, .int .i64 x4.ty, .int .i64 x4.mo, .int .i64 x4.e, .int .i64 x4.b, .int .i64 x4.t, .bool x4.g, .int .u64 x4.a, .bool x5.tg, .int .i64 x5.pe, .int .i64 x5.ty, .int .i64 x5.mo, .int .i64 x5.e, .int .i64 x5.b, .int .i64 x5.t, .bool x5.g, .int .u64 x5.a, .bool x6.tg, .int .i64 x6.pe, .int .i64 x6.ty, .int .i64 x6.mo, .int .i64 x6.e, .int .i64 x6.b, .int .i64 x6.t, .bool x6.g, .int .u64 x6.a, .bool x7.tg, .int .i64 x7.pe, .int .i64 x7.ty, .int .i64 x7.mo, .int .i64 x7.e, .int .i64 x7.b, .int .i64 x7.t, .bool x7.g, .int .u64 x7.a, .bool x8.tg, .int .i64 x8.pe, .int .i64 x8.ty, .int .i64 x8.mo, .int .i64 x8.e, .int .i64 x8.b, .int .i64 x8.t, .bool x8.g, .int .u64 x8.a, .bool x9.tg, .int .i64 x9.pe, .int .i64 x9.ty, .int .i64 x9.mo, .int .i64 x9.e, .int .i64 x9.b, .int .i64 x9.t, .bool x9.g, .int .u64 x9.a, .bool x10.tg, .int .i64 x10.pe, .int .i64 x10.ty, .int .i64 x10.mo, .int .i64 x10.e, .int .i64 x10.b, .int .i64 x10.t, .bool x10.g, .int .u64 x10.a, .bool c.tg, .int .i64 c.pe, .int .i64 262143, .int .i64 c.mo, .int .i64 c.e, .int .i64 c.b, .int .i64 c.t, .bool c.g, .int .u64 c.a] 25)).heap.size (some ⟨g31.heap.size, 0, none⟩) [x0, x1, x2, x3, x4, x5, x6, x7, x8, x9, x10, (uns c)] := rd_new [x0, x1, x2, x3, x4, x5, x6, x7, x8, x9, x10, (uns c)] g31
  generalize hgw : (g31.alloc (.cells #[.bool x0.tg, .int .i64 x0.pe, .int .i64 x0.ty, .int .i64 x0.mo, .int .i64 x0.e, .int .i64 x0.b, .int .i64 x0.t, .bool x0.g, .int .u64 x0.a, .bool x1.tg, .int .i64 x1.pe, .int .i64 x1.ty, .int .i64 x1.mo, .int .i64 x1.e, .int .i64 x1.b, .int .i64 x1.t, .bool x1.g, .int .u64 x1.a, .bool x2.tg, .int .i64 x2.pe, .int .i64 x2.ty, .int .i64 x2.mo, .int .i64 x2.e, .int .i64 x2.b, .int .i64 x2.t, .bool x2.g, .int .u64 x2.a, .bool x3.tg, .int .i64 x3.pe, .int .i64 x3.ty, .int .i64 x3.mo, .int .i64 x3.e, .int .i64 x3.b, .int .i64 x3.t, .bool x3.g, .int .u64 x3.a, .bool x4.tg, .int .i64 x4.pe, .int .i64 x4.ty, .int .i64 x4.mo, .int .i64 x4.e, .int .i64 x4.b, .int .i64 x4.t, .bool x4.g, .int .u64 x4.a, .bool x5.tg, .int .i64 x5.pe, .int .i64 x5.ty, .int .i64 x5.mo, .int .i64 x5.e, .int .i64 x5.b, .int .i64 x5.t, .bool x5.g, .int .u64 x5.a, .bool x6.tg, .int .i64 x6.pe, .int .i64 x6.ty, .int .i64 x6.mo, .int .i64 x6.e, .int .i64 x6.b, .int .i64 x6.t, .bool x6.g, .int .u64 x6.a, .bool x7.tg, .int .i64 x7.pe, .int .i64 x7.ty, .int .i64 x7.mo, .int .i64 x7.e, .int .i64 x7.b, .int .i64 x7.t, .bool x7.g, .int .u64 x7.a, .bool x8.tg, .int .i64 x8.pe, .int .i64 x8.ty, .int .i64 x8.mo, .int .i64 x8.e, .int .i64 x8.b, .int .i64 x8.t, .bool x8.g, .int .u64 x8.a, .bool x9.tg, .int .i64 x9.pe, .int .i64 x9.ty, .int .i64 x9.mo, .int .i64 x9.e, .int .i64 x9.b, .int .i64 x9.t, .bool x9.g, .int .u64 x9.a, .bool x10.tg, .int .i64 x10.pe, .int .i64 x10.ty, .int .i64 x10.mo, .int .i64 x10.e, .int .i64 x10.b, .int .i64 x10.t, .bool x10.g, .int .u64 x10.a, .bool c.tg, .int .i64 c.pe, .int .i64 262143, .int .i64 c.mo, .int .i64 c.e, .int .i64 c.b, .int .i64 c.t, .bool c.g, .int .u64 c.a] 25)) = g33 at hS r33 ⊢
  clear hgw
  (refine tk 34 ?_ rfl (Or.inl ⟨by rfl, ?_⟩) hS ?_; rotate_left; focus (intro w' hSw; obtain ⟨s0, s1, s2, s3, sb⟩ := hSw; go_simp <;> try with_reducible rfl))
  try simp only [Act.put, zA, zB, zC]
  refine wpAnyH_done (by kernel_rfl) ?_ _
  obtain ⟨s0, s1, s2, s3, sb⟩ := hS
  go_wp2
  go_ret
  exact ⟨_, rfl, r33, sb.bl⟩
theorem made_w (c d f : Cp) (n k : Int) (hc : RC c) (hd : RC d) (hf : RC f) (n0 : 0 ≤ n) (n1 : n < 18446744073709551616) (w : World) :
    Calls Try.prog 31 #[.agg #[.bool c.tg, .int .i64 c.pe, .int .i64 c.ty, .int .i64 c.mo, .int .i64 c.e, .int .i64 c.b, .int .i64 c.t, .bool c.g, .int .u64 c.a], .agg #[.bool d.tg, .int .i64 d.pe, .int .i64 d.ty, .int .i64 d.mo, .int .i64 d.e, .int .i64 d.b, .int .i64 d.t, .bool d.g, .int .u64 d.a], .agg #[.bool f.tg, .int .i64 f.pe, .int .i64 f.ty, .int .i64 f.mo, .int .i64 f.e, .int .i64 f.b, .int .i64 f.t, .bool f.g, .int .u64 f.a], .int .u64 n, .int .i64 k] w fun e w' => ∃ g, e = .returned (.slice (some ⟨g, 0, none⟩) 12 12) ∧ Rd w' w'.heap.size (some ⟨g, 0, none⟩) (madeL c d f n k) ∧ Below w.heap.size w w' := by
  cases hy : (c.ty == 262142)
  · exact made_n c d f n k hc hd hf n0 n1 hy w
  · exact made_s c d f n k hc hd hf n0 n1 hy w
end Go.Proofs.Ytkddgjaflcjhiaa
namespace Go.Proofs.Ytkddgjaflcjhiaa
open Go.ChangeShapes Go.WideShapes Go.ChangeAt Go.RowKit Go.Maps
set_option linter.unusedVariables false
set_option linter.unusedSimpArgs false

theorem Row.drew {w : World} {b o : Nat} {c : Cp} (h : Row w b o c) : Row w.drew b o c := h
theorem Row.bl {W w w' : World} {n b o : Nat} {c : Cp} (r : Row w b o c) (h : Bl W n w) (k : Below w.heap.size w w') (hB : b < n) : Row w' b o c := r.keep fun p hp => k.cell (by rw [hp]; exact Nat.lt_of_lt_of_le hB h.le)
theorem At.off {B n : Nat} {vs : List Value} {w w' : World} (a : At B vs w) (k : Below n w w') (hB : B < n) : At B vs w' := a.below k hB
/-- A row of a list in a block. -/
theorem Rd.row {w : World} {B g : Nat} {L : List Cp} (h : Rd w B (some ⟨g, 0, none⟩) L) {k : Nat} (hk : k < L.length) : g < B ∧ ∃ c, L[k]? = some c ∧ c ∈ L ∧ Row w g (k * 9) c := by
  obtain ⟨b, o, e, hb, c, hc, hr⟩ := h.at_ hk
  cases e
  rw [Nat.zero_add] at hr
  exact ⟨hb, c, hc, List.mem_of_getElem? hc, hr⟩
theorem tmod_of' (k n : Int) (hn : 0 < n) : (0 ≤ k ∧ k.tmod n = k % n) ∨ (k < 0 ∧ k.tmod n = -((-k) % n)) := by
  by_cases h : 0 ≤ k
  · exact Or.inl ⟨h, Int.tmod_eq_emod_of_nonneg h⟩
  · refine Or.inr ⟨by omega, ?_⟩
    have e : k = -(-k) := by omega
    rw [e, Int.neg_tmod, Int.tmod_eq_emod_of_nonneg (by omega)]
    simp
theorem pick_12 (k : Int) (k0 : -9223372036854775808 ≤ k) (k1 : k < 9223372036854775808) (w : World) :
    Calls Try.prog 32 #[k, .int .i64 12] w fun e w' => e = .returned (.int .i64 (k % 12)) ∧ w = w' := by
  have h := tmod_of' k 12 (by omega)
  obtain ⟨r, hr⟩ : ∃ r, k.tmod 12 = r := ⟨_, rfl⟩
  rw [hr] at h
  have H := Lib.hid h
  cases hd : decide (r < 0)
  all_goals
    have hd' := hd
    simp only [decide_eq_true_eq, decide_eq_false_iff_not] at hd'
    have HD := Lib.hid hd'
    clear hd' h
    go_enter Try.func32, Try.ntmps32
    go_wp2
    go_ret
    refine ⟨ret_int ?_, rfl⟩
    have h := H.out
    have hd' := HD.out
    (try simp only [IntKind.wrap_i64, wrap64])
    omega

theorem pick_q (k : Int) (k0 : 0 ≤ k) (k1 : k < 1000) (w : World) :
    Calls Try.prog 32 #[k, .int .i64 12] w fun e w' => ∃ q : Nat, q < 12 ∧ e = .returned (.int .i64 q) ∧ w = w' :=
  (pick_12 k (by omega) (by omega) w).mono (by
    rintro e w' ⟨rfl, rfl⟩
    exact ⟨(k % 12).toNat, by omega, by rw [Int.toNat_of_nonneg (by omega)], rfl⟩)
set_option maxHeartbeats 2000000 in
set_option maxRecDepth 100000 in
theorem closed_r1 (l : List Cp) (A : Option Addr) (nn : Nat) (c d f : Cp) (n m k : Int) (w : World) (h : Rd w w.heap.size A l) (hraw : ∀ x ∈ l, Raw x) (hlen : l.length ≤ 9223372036854775807) (rc : Raw c) (rd : Raw d) (rf : Raw f) (n0 : 0 ≤ n) (n1 : n < 18446744073709551616) (m0 : 0 ≤ m) (m1 : m < 18446744073709551616) (hr1 : rightL l = false) :
    Calls Try.prog 8 #[.slice A l.length nn, .agg #[c.tg, c.pe, c.ty, c.mo, c.e, c.b, c.t, c.g, .int .u64 c.a], .agg #[d.tg, d.pe, d.ty, d.mo, d.e, d.b, d.t, d.g, .int .u64 d.a], .agg #[f.tg, f.pe, f.ty, f.mo, f.e, f.b, f.t, f.g, .int .u64 f.a], .int .u64 n, .int .u64 m, .int .i64 k] w fun e' w' => e' = .returned (.bool true) ∧ Below w.heap.size w w' := by
  have HRL : Hid (∀ wx : World, Below w.heap.size w wx → Calls Try.prog 20 #[.slice A l.length nn] wx fun e' w' => e' = .returned (.bool false) ∧ Kp wx w') := Lib.hid (fun wx hb => rightl_b l A nn wx ((h.keep (w' := wx) fun p hp => hb.cell hp).more hb.size) hlen hraw false hr1)
  have C2 : At (w.heap.size) [c.tg, c.pe, c.ty, c.mo, c.e, c.b, c.t, c.g, .int .u64 c.a] (((w.alloc (.cells #[c.tg, c.pe, c.ty, c.mo, c.e, c.b, c.t, c.g, .int .u64 c.a] 25)).alloc (.cells #[d.tg, d.pe, d.ty, d.mo, d.e, d.b, d.t, d.g, .int .u64 d.a] 25)).alloc (.cells #[f.tg, f.pe, f.ty, f.mo, f.e, f.b, f.t, f.g, .int .u64 f.a] 25)) := ((At.new w [c.tg, c.pe, c.ty, c.mo, c.e, c.b, c.t, c.g, .int .u64 c.a] 25).alloc _).alloc _
  have D2 : At (w.heap.size + 1) [d.tg, d.pe, d.ty, d.mo, d.e, d.b, d.t, d.g, .int .u64 d.a] (((w.alloc (.cells #[c.tg, c.pe, c.ty, c.mo, c.e, c.b, c.t, c.g, .int .u64 c.a] 25)).alloc (.cells #[d.tg, d.pe, d.ty, d.mo, d.e, d.b, d.t, d.g, .int .u64 d.a] 25)).alloc (.cells #[f.tg, f.pe, f.ty, f.mo, f.e, f.b, f.t, f.g, .int .u64 f.a] 25)) := (At.new' (w.alloc (.cells #[c.tg, c.pe, c.ty, c.mo, c.e, c.b, c.t, c.g, .int .u64 c.a] 25)) [d.tg, d.pe, d.ty, d.mo, d.e, d.b, d.t, d.g, .int .u64 d.a] 25 (by simp)).alloc _
  have F2 : At (w.heap.size + 1 + 1) [f.tg, f.pe, f.ty, f.mo, f.e, f.b, f.t, f.g, .int .u64 f.a] (((w.alloc (.cells #[c.tg, c.pe, c.ty, c.mo, c.e, c.b, c.t, c.g, .int .u64 c.a] 25)).alloc (.cells #[d.tg, d.pe, d.ty, d.mo, d.e, d.b, d.t, d.g, .int .u64 d.a] 25)).alloc (.cells #[f.tg, f.pe, f.ty, f.mo, f.e, f.b, f.t, f.g, .int .u64 f.a] 25)) := At.new' ((w.alloc (.cells #[c.tg, c.pe, c.ty, c.mo, c.e, c.b, c.t, c.g, .int .u64 c.a] 25)).alloc (.cells #[d.tg, d.pe, d.ty, d.mo, d.e, d.b, d.t, d.g, .int .u64 d.a] 25)) [f.tg, f.pe, f.ty, f.mo, f.e, f.b, f.t, f.g, .int .u64 f.a] 25 (by simp)
  have L2 : Bl w (w.heap.size + 1 + 1 + 1) (((w.alloc (.cells #[c.tg, c.pe, c.ty, c.mo, c.e, c.b, c.t, c.g, .int .u64 c.a] 25)).alloc (.cells #[d.tg, d.pe, d.ty, d.mo, d.e, d.b, d.t, d.g, .int .u64 d.a] 25)).alloc (.cells #[f.tg, f.pe, f.ty, f.mo, f.e, f.b, f.t, f.g, .int .u64 f.a] 25)) := ⟨(((Below.refl _ _).alloc (Nat.le_refl _) _).alloc (by simp) _).alloc (by simp; omega) _, by omega, by simp⟩
  clear h hraw rc rd rf n0 n1 m0 m1 
  go_enter Try.func8, Try.ntmps8
  go_upto_region 1 with fail
  generalize hw0 : (((w.alloc (.cells #[c.tg, c.pe, c.ty, c.mo, c.e, c.b, c.t, c.g, .int .u64 c.a] 25)).alloc (.cells #[d.tg, d.pe, d.ty, d.mo, d.e, d.b, d.t, d.g, .int .u64 d.a] 25)).alloc (.cells #[f.tg, f.pe, f.ty, f.mo, f.e, f.b, f.t, f.g, .int .u64 f.a] 25)) = w0 at C2 D2 F2 L2 ⊢
  clear hw0
  have le0 := L2.le
  obtain ⟨_, _, _, _, _, _, _, _, _⟩ := C2.out9
  obtain ⟨_, _, _, _, _, _, _, _, _⟩ := D2.out9
  obtain ⟨_, _, _, _, _, _, _, _, _⟩ := F2.out9
  have HC2 := Lib.hid C2
  have HD2 := Lib.hid D2
  have HF2 := Lib.hid F2
  have HL2 := Lib.hid L2
  clear C2 D2 F2 L2
  go_wp2_with (first | (go_at_call 20; (with_reducible refine (HRL.out _ HL2.out.bl).mono ?_); rintro e' w1 ⟨rfl, qk⟩; have C3 := HC2.out.kp qk (by omega); have D3 := HD2.out.kp qk (by omega); have F3 := HF2.out.kp qk (by omega); have L3 := HL2.out.step qk.1; obtain ⟨_, _, _, _, _, _, _, _, _⟩ := C3.out9; obtain ⟨_, _, _, _, _, _, _, _, _⟩ := D3.out9; obtain ⟨_, _, _, _, _, _, _, _, _⟩ := F3.out9; have le1 := L3.le; have HC3 := Lib.hid C3; have HD3 := Lib.hid D3; have HF3 := Lib.hid F3; have HL3 := Lib.hid L3; clear qk C3 D3 F3 L3) | (go_at_call 13; (with_reducible refine (works_w _).mono ?_); rintro e' wz ⟨rfl, hbz⟩; have BZ := Lib.hid (HL3.out.step hbz).bl; clear hbz))
  go_ret
  exact ⟨rfl, BZ.out⟩
set_option maxHeartbeats 2000000 in
set_option maxRecDepth 100000 in
theorem closed_r2 (l : List Cp) (A : Option Addr) (nn : Nat) (c d f : Cp) (n m k : Int) (w : World) (h : Rd w w.heap.size A l) (hraw : ∀ x ∈ l, Raw x) (hlen : l.length ≤ 9223372036854775807) (rc : Raw c) (rd : Raw d) (rf : Raw f) (n0 : 0 ≤ n) (n1 : n < 18446744073709551616) (m0 : 0 ≤ m) (m1 : m < 18446744073709551616) (hr1 : rightL l = true) (hr2 : rightL [c, d, f] = false) :
    Calls Try.prog 8 #[.slice A l.length nn, .agg #[c.tg, c.pe, c.ty, c.mo, c.e, c.b, c.t, c.g, .int .u64 c.a], .agg #[d.tg, d.pe, d.ty, d.mo, d.e, d.b, d.t, d.g, .int .u64 d.a], .agg #[f.tg, f.pe, f.ty, f.mo, f.e, f.b, f.t, f.g, .int .u64 f.a], .int .u64 n, .int .u64 m, .int .i64 k] w fun e' w' => e' = .returned (.bool true) ∧ Below w.heap.size w w' := by
  have HRL : Hid (∀ wx : World, Below w.heap.size w wx → Calls Try.prog 20 #[.slice A l.length nn] wx fun e' w' => e' = .returned (.bool true) ∧ Kp wx w') := Lib.hid (fun wx hb => rightl_b l A nn wx ((h.keep (w' := wx) fun p hp => hb.cell hp).more hb.size) hlen hraw true hr1)
  have HR3 : Hid (∀ (A : Option Addr) (n : Nat) (wx : World), Rd wx wx.heap.size A [c, d, f] → Calls Try.prog 20 #[.slice A 3 n] wx fun e' w' => e' = .returned (.bool false) ∧ Kp wx w') := Lib.hid (fun A n wx h => rightl_w [c, d, f] A n wx h (by simp) (by intro x hx; simp at hx; rcases hx with rfl | rfl | rfl; exact rc; exact rd; exact rf) false hr2)
  have HN3 : Hid (∀ wx : World, Rd (wx.alloc (.cells #[c.tg, c.pe, c.ty, c.mo, c.e, c.b, c.t, c.g, .int .u64 c.a, d.tg, d.pe, d.ty, d.mo, d.e, d.b, d.t, d.g, .int .u64 d.a, f.tg, f.pe, f.ty, f.mo, f.e, f.b, f.t, f.g, .int .u64 f.a] 25)) (wx.alloc (.cells #[c.tg, c.pe, c.ty, c.mo, c.e, c.b, c.t, c.g, .int .u64 c.a, d.tg, d.pe, d.ty, d.mo, d.e, d.b, d.t, d.g, .int .u64 d.a, f.tg, f.pe, f.ty, f.mo, f.e, f.b, f.t, f.g, .int .u64 f.a] 25)).heap.size (some ⟨wx.heap.size, 0, none⟩) [c, d, f]) := Lib.hid (fun wx => rd_new [c, d, f] wx)
  have C2 : At (w.heap.size) [c.tg, c.pe, c.ty, c.mo, c.e, c.b, c.t, c.g, .int .u64 c.a] (((w.alloc (.cells #[c.tg, c.pe, c.ty, c.mo, c.e, c.b, c.t, c.g, .int .u64 c.a] 25)).alloc (.cells #[d.tg, d.pe, d.ty, d.mo, d.e, d.b, d.t, d.g, .int .u64 d.a] 25)).alloc (.cells #[f.tg, f.pe, f.ty, f.mo, f.e, f.b, f.t, f.g, .int .u64 f.a] 25)) := ((At.new w [c.tg, c.pe, c.ty, c.mo, c.e, c.b, c.t, c.g, .int .u64 c.a] 25).alloc _).alloc _
  have D2 : At (w.heap.size + 1) [d.tg, d.pe, d.ty, d.mo, d.e, d.b, d.t, d.g, .int .u64 d.a] (((w.alloc (.cells #[c.tg, c.pe, c.ty, c.mo, c.e, c.b, c.t, c.g, .int .u64 c.a] 25)).alloc (.cells #[d.tg, d.pe, d.ty, d.mo, d.e, d.b, d.t, d.g, .int .u64 d.a] 25)).alloc (.cells #[f.tg, f.pe, f.ty, f.mo, f.e, f.b, f.t, f.g, .int .u64 f.a] 25)) := (At.new' (w.alloc (.cells #[c.tg, c.pe, c.ty, c.mo, c.e, c.b, c.t, c.g, .int .u64 c.a] 25)) [d.tg, d.pe, d.ty, d.mo, d.e, d.b, d.t, d.g, .int .u64 d.a] 25 (by simp)).alloc _
  have F2 : At (w.heap.size + 1 + 1) [f.tg, f.pe, f.ty, f.mo, f.e, f.b, f.t, f.g, .int .u64 f.a] (((w.alloc (.cells #[c.tg, c.pe, c.ty, c.mo, c.e, c.b, c.t, c.g, .int .u64 c.a] 25)).alloc (.cells #[d.tg, d.pe, d.ty, d.mo, d.e, d.b, d.t, d.g, .int .u64 d.a] 25)).alloc (.cells #[f.tg, f.pe, f.ty, f.mo, f.e, f.b, f.t, f.g, .int .u64 f.a] 25)) := At.new' ((w.alloc (.cells #[c.tg, c.pe, c.ty, c.mo, c.e, c.b, c.t, c.g, .int .u64 c.a] 25)).alloc (.cells #[d.tg, d.pe, d.ty, d.mo, d.e, d.b, d.t, d.g, .int .u64 d.a] 25)) [f.tg, f.pe, f.ty, f.mo, f.e, f.b, f.t, f.g, .int .u64 f.a] 25 (by simp)
  have L2 : Bl w (w.heap.size + 1 + 1 + 1) (((w.alloc (.cells #[c.tg, c.pe, c.ty, c.mo, c.e, c.b, c.t, c.g, .int .u64 c.a] 25)).alloc (.cells #[d.tg, d.pe, d.ty, d.mo, d.e, d.b, d.t, d.g, .int .u64 d.a] 25)).alloc (.cells #[f.tg, f.pe, f.ty, f.mo, f.e, f.b, f.t, f.g, .int .u64 f.a] 25)) := ⟨(((Below.refl _ _).alloc (Nat.le_refl _) _).alloc (by simp) _).alloc (by simp; omega) _, by omega, by simp⟩
  clear h hraw rc rd rf n0 n1 m0 m1 
  go_enter Try.func8, Try.ntmps8
  go_upto_region 1 with fail
  generalize hw0 : (((w.alloc (.cells #[c.tg, c.pe, c.ty, c.mo, c.e, c.b, c.t, c.g, .int .u64 c.a] 25)).alloc (.cells #[d.tg, d.pe, d.ty, d.mo, d.e, d.b, d.t, d.g, .int .u64 d.a] 25)).alloc (.cells #[f.tg, f.pe, f.ty, f.mo, f.e, f.b, f.t, f.g, .int .u64 f.a] 25)) = w0 at C2 D2 F2 L2 ⊢
  clear hw0
  have le0 := L2.le
  obtain ⟨_, _, _, _, _, _, _, _, _⟩ := C2.out9
  obtain ⟨_, _, _, _, _, _, _, _, _⟩ := D2.out9
  obtain ⟨_, _, _, _, _, _, _, _, _⟩ := F2.out9
  have HC2 := Lib.hid C2
  have HD2 := Lib.hid D2
  have HF2 := Lib.hid F2
  have HL2 := Lib.hid L2
  clear C2 D2 F2 L2
  go_wp2_with (first | (go_at_call 20; (with_reducible refine (HRL.out _ HL2.out.bl).mono ?_); rintro e' w1 ⟨rfl, qk⟩; have C3 := HC2.out.kp qk (by omega); have D3 := HD2.out.kp qk (by omega); have F3 := HF2.out.kp qk (by omega); have L3 := HL2.out.step qk.1; obtain ⟨_, _, _, _, _, _, _, _, _⟩ := C3.out9; obtain ⟨_, _, _, _, _, _, _, _, _⟩ := D3.out9; obtain ⟨_, _, _, _, _, _, _, _, _⟩ := F3.out9; have le1 := L3.le; have HC3 := Lib.hid C3; have HD3 := Lib.hid D3; have HF3 := Lib.hid F3; have HL3 := Lib.hid L3; clear qk C3 D3 F3 L3) | (go_at_call 20; (with_reducible refine (HR3.out _ _ _ (HN3.out w1)).mono ?_); rintro e' w2 ⟨rfl, qk⟩; have C4 := (HC3.out.alloc _).kp qk (by simp; omega); have D4 := (HD3.out.alloc _).kp qk (by simp; omega); have F4 := (HF3.out.alloc _).kp qk (by simp; omega); have L4 := (HL3.out.alloc _).step qk.1; obtain ⟨_, _, _, _, _, _, _, _, _⟩ := C4.out9; obtain ⟨_, _, _, _, _, _, _, _, _⟩ := D4.out9; obtain ⟨_, _, _, _, _, _, _, _, _⟩ := F4.out9; have le2 := L4.le; have HC4 := Lib.hid C4; have HD4 := Lib.hid D4; have HF4 := Lib.hid F4; have HL4 := Lib.hid L4; clear qk C4 D4 F4 L4) | (go_at_call 13; (with_reducible refine (works_w _).mono ?_); rintro e' wz ⟨rfl, hbz⟩; have BZ := Lib.hid (HL4.out.step hbz).bl; clear hbz))
  go_ret
  exact ⟨rfl, BZ.out⟩
set_option maxHeartbeats 2000000 in
set_option maxRecDepth 100000 in
theorem closed_r3 (l : List Cp) (A : Option Addr) (nn : Nat) (c d f : Cp) (n m k : Int) (w : World) (h : Rd w w.heap.size A l) (hraw : ∀ x ∈ l, Raw x) (hlen : l.length ≤ 9223372036854775807) (rc : Raw c) (rd : Raw d) (rf : Raw f) (n0 : 0 ≤ n) (n1 : n < 18446744073709551616) (m0 : 0 ≤ m) (m1 : m < 18446744073709551616) (hr1 : rightL l = true) (hr2 : rightL [c, d, f] = true) (hh1 : hasB l c = false) :
    Calls Try.prog 8 #[.slice A l.length nn, .agg #[c.tg, c.pe, c.ty, c.mo, c.e, c.b, c.t, c.g, .int .u64 c.a], .agg #[d.tg, d.pe, d.ty, d.mo, d.e, d.b, d.t, d.g, .int .u64 d.a], .agg #[f.tg, f.pe, f.ty, f.mo, f.e, f.b, f.t, f.g, .int .u64 f.a], .int .u64 n, .int .u64 m, .int .i64 k] w fun e' w' => e' = .returned (.bool true) ∧ Below w.heap.size w w' := by
  have hr1' := hr1
  rw [rightL, Bool.and_eq_true, List.all_eq_true] at hr1'
  have hlen40 : l.length ≤ 40 := by simpa using hr1'.2
  have hr2' := hr2
  rw [rightL, Bool.and_eq_true, List.all_eq_true] at hr2'
  have hL : ∀ x ∈ l, RC x := fun x hx => RC.of_right (hraw x hx) (hr1'.1 x hx)
  have hc := RR.of_right rc (hr2'.1 c (by simp))
  have hd := RR.of_right rd (hr2'.1 d (by simp))
  have hf := RR.of_right rf (hr2'.1 f (by simp))
  have HRL : Hid (∀ wx : World, Below w.heap.size w wx → Calls Try.prog 20 #[.slice A l.length nn] wx fun e' w' => e' = .returned (.bool true) ∧ Kp wx w') := Lib.hid (fun wx hb => rightl_b l A nn wx ((h.keep (w' := wx) fun p hp => hb.cell hp).more hb.size) hlen hraw true hr1)
  have HR3 : Hid (∀ (A : Option Addr) (n : Nat) (wx : World), Rd wx wx.heap.size A [c, d, f] → Calls Try.prog 20 #[.slice A 3 n] wx fun e' w' => e' = .returned (.bool true) ∧ Kp wx w') := Lib.hid (fun A n wx h => rightl_w [c, d, f] A n wx h (by simp) (by intro x hx; simp at hx; rcases hx with rfl | rfl | rfl; exact rc; exact rd; exact rf) true hr2)
  have HN3 : Hid (∀ wx : World, Rd (wx.alloc (.cells #[c.tg, c.pe, c.ty, c.mo, c.e, c.b, c.t, c.g, .int .u64 c.a, d.tg, d.pe, d.ty, d.mo, d.e, d.b, d.t, d.g, .int .u64 d.a, f.tg, f.pe, f.ty, f.mo, f.e, f.b, f.t, f.g, .int .u64 f.a] 25)) (wx.alloc (.cells #[c.tg, c.pe, c.ty, c.mo, c.e, c.b, c.t, c.g, .int .u64 c.a, d.tg, d.pe, d.ty, d.mo, d.e, d.b, d.t, d.g, .int .u64 d.a, f.tg, f.pe, f.ty, f.mo, f.e, f.b, f.t, f.g, .int .u64 f.a] 25)).heap.size (some ⟨wx.heap.size, 0, none⟩) [c, d, f]) := Lib.hid (fun wx => rd_new [c, d, f] wx)
  have HHC : Hid (∀ wx : World, Below w.heap.size w wx → Calls Try.prog 27 #[.slice A l.length nn, .agg #[c.tg, c.pe, c.ty, c.mo, c.e, c.b, c.t, c.g, .int .u64 c.a]] wx fun e' w' => e' = .returned (.bool false) ∧ Below wx.heap.size wx w') := Lib.hid (fun wx hb => has_w l A nn c hL (by omega) hc.rc false hh1 wx ((h.keep (w' := wx) fun p hp => hb.cell hp).more hb.size))
  have C2 : At (w.heap.size) [c.tg, c.pe, c.ty, c.mo, c.e, c.b, c.t, c.g, .int .u64 c.a] (((w.alloc (.cells #[c.tg, c.pe, c.ty, c.mo, c.e, c.b, c.t, c.g, .int .u64 c.a] 25)).alloc (.cells #[d.tg, d.pe, d.ty, d.mo, d.e, d.b, d.t, d.g, .int .u64 d.a] 25)).alloc (.cells #[f.tg, f.pe, f.ty, f.mo, f.e, f.b, f.t, f.g, .int .u64 f.a] 25)) := ((At.new w [c.tg, c.pe, c.ty, c.mo, c.e, c.b, c.t, c.g, .int .u64 c.a] 25).alloc _).alloc _
  have D2 : At (w.heap.size + 1) [d.tg, d.pe, d.ty, d.mo, d.e, d.b, d.t, d.g, .int .u64 d.a] (((w.alloc (.cells #[c.tg, c.pe, c.ty, c.mo, c.e, c.b, c.t, c.g, .int .u64 c.a] 25)).alloc (.cells #[d.tg, d.pe, d.ty, d.mo, d.e, d.b, d.t, d.g, .int .u64 d.a] 25)).alloc (.cells #[f.tg, f.pe, f.ty, f.mo, f.e, f.b, f.t, f.g, .int .u64 f.a] 25)) := (At.new' (w.alloc (.cells #[c.tg, c.pe, c.ty, c.mo, c.e, c.b, c.t, c.g, .int .u64 c.a] 25)) [d.tg, d.pe, d.ty, d.mo, d.e, d.b, d.t, d.g, .int .u64 d.a] 25 (by simp)).alloc _
  have F2 : At (w.heap.size + 1 + 1) [f.tg, f.pe, f.ty, f.mo, f.e, f.b, f.t, f.g, .int .u64 f.a] (((w.alloc (.cells #[c.tg, c.pe, c.ty, c.mo, c.e, c.b, c.t, c.g, .int .u64 c.a] 25)).alloc (.cells #[d.tg, d.pe, d.ty, d.mo, d.e, d.b, d.t, d.g, .int .u64 d.a] 25)).alloc (.cells #[f.tg, f.pe, f.ty, f.mo, f.e, f.b, f.t, f.g, .int .u64 f.a] 25)) := At.new' ((w.alloc (.cells #[c.tg, c.pe, c.ty, c.mo, c.e, c.b, c.t, c.g, .int .u64 c.a] 25)).alloc (.cells #[d.tg, d.pe, d.ty, d.mo, d.e, d.b, d.t, d.g, .int .u64 d.a] 25)) [f.tg, f.pe, f.ty, f.mo, f.e, f.b, f.t, f.g, .int .u64 f.a] 25 (by simp)
  have L2 : Bl w (w.heap.size + 1 + 1 + 1) (((w.alloc (.cells #[c.tg, c.pe, c.ty, c.mo, c.e, c.b, c.t, c.g, .int .u64 c.a] 25)).alloc (.cells #[d.tg, d.pe, d.ty, d.mo, d.e, d.b, d.t, d.g, .int .u64 d.a] 25)).alloc (.cells #[f.tg, f.pe, f.ty, f.mo, f.e, f.b, f.t, f.g, .int .u64 f.a] 25)) := ⟨(((Below.refl _ _).alloc (Nat.le_refl _) _).alloc (by simp) _).alloc (by simp; omega) _, by omega, by simp⟩
  clear h hraw rc rd rf n0 n1 m0 m1 hr1 hr2 hr1' hr2' hL hc hd hf hh1
  go_enter Try.func8, Try.ntmps8
  go_upto_region 1 with fail
  generalize hw0 : (((w.alloc (.cells #[c.tg, c.pe, c.ty, c.mo, c.e, c.b, c.t, c.g, .int .u64 c.a] 25)).alloc (.cells #[d.tg, d.pe, d.ty, d.mo, d.e, d.b, d.t, d.g, .int .u64 d.a] 25)).alloc (.cells #[f.tg, f.pe, f.ty, f.mo, f.e, f.b, f.t, f.g, .int .u64 f.a] 25)) = w0 at C2 D2 F2 L2 ⊢
  clear hw0
  have le0 := L2.le
  obtain ⟨_, _, _, _, _, _, _, _, _⟩ := C2.out9
  obtain ⟨_, _, _, _, _, _, _, _, _⟩ := D2.out9
  obtain ⟨_, _, _, _, _, _, _, _, _⟩ := F2.out9
  have HC2 := Lib.hid C2
  have HD2 := Lib.hid D2
  have HF2 := Lib.hid F2
  have HL2 := Lib.hid L2
  clear C2 D2 F2 L2
  go_wp2_with (first | (go_at_call 20; (with_reducible refine (HRL.out _ HL2.out.bl).mono ?_); rintro e' w1 ⟨rfl, qk⟩; have C3 := HC2.out.kp qk (by omega); have D3 := HD2.out.kp qk (by omega); have F3 := HF2.out.kp qk (by omega); have L3 := HL2.out.step qk.1; obtain ⟨_, _, _, _, _, _, _, _, _⟩ := C3.out9; obtain ⟨_, _, _, _, _, _, _, _, _⟩ := D3.out9; obtain ⟨_, _, _, _, _, _, _, _, _⟩ := F3.out9; have le1 := L3.le; have HC3 := Lib.hid C3; have HD3 := Lib.hid D3; have HF3 := Lib.hid F3; have HL3 := Lib.hid L3; clear qk C3 D3 F3 L3) | (go_at_call 20; (with_reducible refine (HR3.out _ _ _ (HN3.out w1)).mono ?_); rintro e' w2 ⟨rfl, qk⟩; have C4 := (HC3.out.alloc _).kp qk (by simp; omega); have D4 := (HD3.out.alloc _).kp qk (by simp; omega); have F4 := (HF3.out.alloc _).kp qk (by simp; omega); have L4 := (HL3.out.alloc _).step qk.1; obtain ⟨_, _, _, _, _, _, _, _, _⟩ := C4.out9; obtain ⟨_, _, _, _, _, _, _, _, _⟩ := D4.out9; obtain ⟨_, _, _, _, _, _, _, _, _⟩ := F4.out9; have le2 := L4.le; have HC4 := Lib.hid C4; have HD4 := Lib.hid D4; have HF4 := Lib.hid F4; have HL4 := Lib.hid L4; clear qk C4 D4 F4 L4) | (go_at_call 27; (with_reducible refine (HHC.out w2 HL4.out.bl).mono ?_); rintro e' w3 ⟨rfl, hb⟩; have C5 := HL4.out.at_ hb HC4.out (show w.heap.size < w.heap.size + 1 + 1 + 1 by omega); have D5 := HL4.out.at_ hb HD4.out (show w.heap.size + 1 < w.heap.size + 1 + 1 + 1 by omega); have F5 := HL4.out.at_ hb HF4.out (show w.heap.size + 1 + 1 < w.heap.size + 1 + 1 + 1 by omega); have L5 := HL4.out.step hb; obtain ⟨_, _, _, _, _, _, _, _, _⟩ := C5.out9; obtain ⟨_, _, _, _, _, _, _, _, _⟩ := D5.out9; obtain ⟨_, _, _, _, _, _, _, _, _⟩ := F5.out9; have le3 := L5.le; have HC5 := Lib.hid C5; have HD5 := Lib.hid D5; have HF5 := Lib.hid F5; have HL5 := Lib.hid L5; clear hb C5 D5 F5 L5) | (go_at_call 13; (with_reducible refine (works_w _).mono ?_); rintro e' wz ⟨rfl, hbz⟩; have BZ := Lib.hid (HL5.out.step hbz).bl; clear hbz))
  go_ret
  exact ⟨rfl, BZ.out⟩
set_option maxHeartbeats 2000000 in
set_option maxRecDepth 100000 in
theorem closed_r4 (l : List Cp) (A : Option Addr) (nn : Nat) (c d f : Cp) (n m k : Int) (w : World) (h : Rd w w.heap.size A l) (hraw : ∀ x ∈ l, Raw x) (hlen : l.length ≤ 9223372036854775807) (rc : Raw c) (rd : Raw d) (rf : Raw f) (n0 : 0 ≤ n) (n1 : n < 18446744073709551616) (m0 : 0 ≤ m) (m1 : m < 18446744073709551616) (hr1 : rightL l = true) (hr2 : rightL [c, d, f] = true) (hh1 : hasB l c = true) (hh2 : hasB l d = false) :
    Calls Try.prog 8 #[.slice A l.length nn, .agg #[c.tg, c.pe, c.ty, c.mo, c.e, c.b, c.t, c.g, .int .u64 c.a], .agg #[d.tg, d.pe, d.ty, d.mo, d.e, d.b, d.t, d.g, .int .u64 d.a], .agg #[f.tg, f.pe, f.ty, f.mo, f.e, f.b, f.t, f.g, .int .u64 f.a], .int .u64 n, .int .u64 m, .int .i64 k] w fun e' w' => e' = .returned (.bool true) ∧ Below w.heap.size w w' := by
  have hr1' := hr1
  rw [rightL, Bool.and_eq_true, List.all_eq_true] at hr1'
  have hlen40 : l.length ≤ 40 := by simpa using hr1'.2
  have hr2' := hr2
  rw [rightL, Bool.and_eq_true, List.all_eq_true] at hr2'
  have hL : ∀ x ∈ l, RC x := fun x hx => RC.of_right (hraw x hx) (hr1'.1 x hx)
  have hc := RR.of_right rc (hr2'.1 c (by simp))
  have hd := RR.of_right rd (hr2'.1 d (by simp))
  have hf := RR.of_right rf (hr2'.1 f (by simp))
  have HRL : Hid (∀ wx : World, Below w.heap.size w wx → Calls Try.prog 20 #[.slice A l.length nn] wx fun e' w' => e' = .returned (.bool true) ∧ Kp wx w') := Lib.hid (fun wx hb => rightl_b l A nn wx ((h.keep (w' := wx) fun p hp => hb.cell hp).more hb.size) hlen hraw true hr1)
  have HR3 : Hid (∀ (A : Option Addr) (n : Nat) (wx : World), Rd wx wx.heap.size A [c, d, f] → Calls Try.prog 20 #[.slice A 3 n] wx fun e' w' => e' = .returned (.bool true) ∧ Kp wx w') := Lib.hid (fun A n wx h => rightl_w [c, d, f] A n wx h (by simp) (by intro x hx; simp at hx; rcases hx with rfl | rfl | rfl; exact rc; exact rd; exact rf) true hr2)
  have HN3 : Hid (∀ wx : World, Rd (wx.alloc (.cells #[c.tg, c.pe, c.ty, c.mo, c.e, c.b, c.t, c.g, .int .u64 c.a, d.tg, d.pe, d.ty, d.mo, d.e, d.b, d.t, d.g, .int .u64 d.a, f.tg, f.pe, f.ty, f.mo, f.e, f.b, f.t, f.g, .int .u64 f.a] 25)) (wx.alloc (.cells #[c.tg, c.pe, c.ty, c.mo, c.e, c.b, c.t, c.g, .int .u64 c.a, d.tg, d.pe, d.ty, d.mo, d.e, d.b, d.t, d.g, .int .u64 d.a, f.tg, f.pe, f.ty, f.mo, f.e, f.b, f.t, f.g, .int .u64 f.a] 25)).heap.size (some ⟨wx.heap.size, 0, none⟩) [c, d, f]) := Lib.hid (fun wx => rd_new [c, d, f] wx)
  have HHC : Hid (∀ wx : World, Below w.heap.size w wx → Calls Try.prog 27 #[.slice A l.length nn, .agg #[c.tg, c.pe, c.ty, c.mo, c.e, c.b, c.t, c.g, .int .u64 c.a]] wx fun e' w' => e' = .returned (.bool true) ∧ Below wx.heap.size wx w') := Lib.hid (fun wx hb => has_w l A nn c hL (by omega) hc.rc true hh1 wx ((h.keep (w' := wx) fun p hp => hb.cell hp).more hb.size))
  have HHD : Hid (∀ wx : World, Below w.heap.size w wx → Calls Try.prog 27 #[.slice A l.length nn, .agg #[d.tg, d.pe, d.ty, d.mo, d.e, d.b, d.t, d.g, .int .u64 d.a]] wx fun e' w' => e' = .returned (.bool false) ∧ Below wx.heap.size wx w') := Lib.hid (fun wx hb => has_w l A nn d hL (by omega) hd.rc false hh2 wx ((h.keep (w' := wx) fun p hp => hb.cell hp).more hb.size))
  have C2 : At (w.heap.size) [c.tg, c.pe, c.ty, c.mo, c.e, c.b, c.t, c.g, .int .u64 c.a] (((w.alloc (.cells #[c.tg, c.pe, c.ty, c.mo, c.e, c.b, c.t, c.g, .int .u64 c.a] 25)).alloc (.cells #[d.tg, d.pe, d.ty, d.mo, d.e, d.b, d.t, d.g, .int .u64 d.a] 25)).alloc (.cells #[f.tg, f.pe, f.ty, f.mo, f.e, f.b, f.t, f.g, .int .u64 f.a] 25)) := ((At.new w [c.tg, c.pe, c.ty, c.mo, c.e, c.b, c.t, c.g, .int .u64 c.a] 25).alloc _).alloc _
  have D2 : At (w.heap.size + 1) [d.tg, d.pe, d.ty, d.mo, d.e, d.b, d.t, d.g, .int .u64 d.a] (((w.alloc (.cells #[c.tg, c.pe, c.ty, c.mo, c.e, c.b, c.t, c.g, .int .u64 c.a] 25)).alloc (.cells #[d.tg, d.pe, d.ty, d.mo, d.e, d.b, d.t, d.g, .int .u64 d.a] 25)).alloc (.cells #[f.tg, f.pe, f.ty, f.mo, f.e, f.b, f.t, f.g, .int .u64 f.a] 25)) := (At.new' (w.alloc (.cells #[c.tg, c.pe, c.ty, c.mo, c.e, c.b, c.t, c.g, .int .u64 c.a] 25)) [d.tg, d.pe, d.ty, d.mo, d.e, d.b, d.t, d.g, .int .u64 d.a] 25 (by simp)).alloc _
  have F2 : At (w.heap.size + 1 + 1) [f.tg, f.pe, f.ty, f.mo, f.e, f.b, f.t, f.g, .int .u64 f.a] (((w.alloc (.cells #[c.tg, c.pe, c.ty, c.mo, c.e, c.b, c.t, c.g, .int .u64 c.a] 25)).alloc (.cells #[d.tg, d.pe, d.ty, d.mo, d.e, d.b, d.t, d.g, .int .u64 d.a] 25)).alloc (.cells #[f.tg, f.pe, f.ty, f.mo, f.e, f.b, f.t, f.g, .int .u64 f.a] 25)) := At.new' ((w.alloc (.cells #[c.tg, c.pe, c.ty, c.mo, c.e, c.b, c.t, c.g, .int .u64 c.a] 25)).alloc (.cells #[d.tg, d.pe, d.ty, d.mo, d.e, d.b, d.t, d.g, .int .u64 d.a] 25)) [f.tg, f.pe, f.ty, f.mo, f.e, f.b, f.t, f.g, .int .u64 f.a] 25 (by simp)
  have L2 : Bl w (w.heap.size + 1 + 1 + 1) (((w.alloc (.cells #[c.tg, c.pe, c.ty, c.mo, c.e, c.b, c.t, c.g, .int .u64 c.a] 25)).alloc (.cells #[d.tg, d.pe, d.ty, d.mo, d.e, d.b, d.t, d.g, .int .u64 d.a] 25)).alloc (.cells #[f.tg, f.pe, f.ty, f.mo, f.e, f.b, f.t, f.g, .int .u64 f.a] 25)) := ⟨(((Below.refl _ _).alloc (Nat.le_refl _) _).alloc (by simp) _).alloc (by simp; omega) _, by omega, by simp⟩
  clear h hraw rc rd rf n0 n1 m0 m1 hr1 hr2 hr1' hr2' hL hc hd hf hh1 hh2
  go_enter Try.func8, Try.ntmps8
  go_upto_region 1 with fail
  generalize hw0 : (((w.alloc (.cells #[c.tg, c.pe, c.ty, c.mo, c.e, c.b, c.t, c.g, .int .u64 c.a] 25)).alloc (.cells #[d.tg, d.pe, d.ty, d.mo, d.e, d.b, d.t, d.g, .int .u64 d.a] 25)).alloc (.cells #[f.tg, f.pe, f.ty, f.mo, f.e, f.b, f.t, f.g, .int .u64 f.a] 25)) = w0 at C2 D2 F2 L2 ⊢
  clear hw0
  have le0 := L2.le
  obtain ⟨_, _, _, _, _, _, _, _, _⟩ := C2.out9
  obtain ⟨_, _, _, _, _, _, _, _, _⟩ := D2.out9
  obtain ⟨_, _, _, _, _, _, _, _, _⟩ := F2.out9
  have HC2 := Lib.hid C2
  have HD2 := Lib.hid D2
  have HF2 := Lib.hid F2
  have HL2 := Lib.hid L2
  clear C2 D2 F2 L2
  go_wp2_with (first | (go_at_call 20; (with_reducible refine (HRL.out _ HL2.out.bl).mono ?_); rintro e' w1 ⟨rfl, qk⟩; have C3 := HC2.out.kp qk (by omega); have D3 := HD2.out.kp qk (by omega); have F3 := HF2.out.kp qk (by omega); have L3 := HL2.out.step qk.1; obtain ⟨_, _, _, _, _, _, _, _, _⟩ := C3.out9; obtain ⟨_, _, _, _, _, _, _, _, _⟩ := D3.out9; obtain ⟨_, _, _, _, _, _, _, _, _⟩ := F3.out9; have le1 := L3.le; have HC3 := Lib.hid C3; have HD3 := Lib.hid D3; have HF3 := Lib.hid F3; have HL3 := Lib.hid L3; clear qk C3 D3 F3 L3) | (go_at_call 20; (with_reducible refine (HR3.out _ _ _ (HN3.out w1)).mono ?_); rintro e' w2 ⟨rfl, qk⟩; have C4 := (HC3.out.alloc _).kp qk (by simp; omega); have D4 := (HD3.out.alloc _).kp qk (by simp; omega); have F4 := (HF3.out.alloc _).kp qk (by simp; omega); have L4 := (HL3.out.alloc _).step qk.1; obtain ⟨_, _, _, _, _, _, _, _, _⟩ := C4.out9; obtain ⟨_, _, _, _, _, _, _, _, _⟩ := D4.out9; obtain ⟨_, _, _, _, _, _, _, _, _⟩ := F4.out9; have le2 := L4.le; have HC4 := Lib.hid C4; have HD4 := Lib.hid D4; have HF4 := Lib.hid F4; have HL4 := Lib.hid L4; clear qk C4 D4 F4 L4) | (go_at_call 27; (with_reducible refine (HHC.out w2 HL4.out.bl).mono ?_); rintro e' w3 ⟨rfl, hb⟩; have C5 := HL4.out.at_ hb HC4.out (show w.heap.size < w.heap.size + 1 + 1 + 1 by omega); have D5 := HL4.out.at_ hb HD4.out (show w.heap.size + 1 < w.heap.size + 1 + 1 + 1 by omega); have F5 := HL4.out.at_ hb HF4.out (show w.heap.size + 1 + 1 < w.heap.size + 1 + 1 + 1 by omega); have L5 := HL4.out.step hb; obtain ⟨_, _, _, _, _, _, _, _, _⟩ := C5.out9; obtain ⟨_, _, _, _, _, _, _, _, _⟩ := D5.out9; obtain ⟨_, _, _, _, _, _, _, _, _⟩ := F5.out9; have le3 := L5.le; have HC5 := Lib.hid C5; have HD5 := Lib.hid D5; have HF5 := Lib.hid F5; have HL5 := Lib.hid L5; clear hb C5 D5 F5 L5) | (go_at_call 27; (with_reducible refine (HHD.out w3 HL5.out.bl).mono ?_); rintro e' w4 ⟨rfl, hb⟩; have C6 := HL5.out.at_ hb HC5.out (show w.heap.size < w.heap.size + 1 + 1 + 1 by omega); have D6 := HL5.out.at_ hb HD5.out (show w.heap.size + 1 < w.heap.size + 1 + 1 + 1 by omega); have F6 := HL5.out.at_ hb HF5.out (show w.heap.size + 1 + 1 < w.heap.size + 1 + 1 + 1 by omega); have L6 := HL5.out.step hb; obtain ⟨_, _, _, _, _, _, _, _, _⟩ := C6.out9; obtain ⟨_, _, _, _, _, _, _, _, _⟩ := D6.out9; obtain ⟨_, _, _, _, _, _, _, _, _⟩ := F6.out9; have le4 := L6.le; have HC6 := Lib.hid C6; have HD6 := Lib.hid D6; have HF6 := Lib.hid F6; have HL6 := Lib.hid L6; clear hb C6 D6 F6 L6) | (go_at_call 13; (with_reducible refine (works_w _).mono ?_); rintro e' wz ⟨rfl, hbz⟩; have BZ := Lib.hid (HL6.out.step hbz).bl; clear hbz))
  go_ret
  exact ⟨rfl, BZ.out⟩
set_option maxHeartbeats 16000000 in
set_option maxRecDepth 100000 in
theorem closed_core (l : List Cp) (A : Option Addr) (nn : Nat) (c d f : Cp) (n m k : Int) (w : World) (h : Rd w w.heap.size A l) (hraw : ∀ x ∈ l, Raw x) (hlen : l.length ≤ 9223372036854775807) (rc : Raw c) (rd : Raw d) (rf : Raw f) (n0 : 0 ≤ n) (n1 : n < 18446744073709551616) (m0 : 0 ≤ m) (m1 : m < 18446744073709551616) (hr1 : rightL l = true) (hr2 : rightL [c, d, f] = true) (hh1 : hasB l c = true) (hh2 : hasB l d = true) :
    Calls Try.prog 8 #[.slice A l.length nn, .agg #[c.tg, c.pe, c.ty, c.mo, c.e, c.b, c.t, c.g, .int .u64 c.a], .agg #[d.tg, d.pe, d.ty, d.mo, d.e, d.b, d.t, d.g, .int .u64 d.a], .agg #[f.tg, f.pe, f.ty, f.mo, f.e, f.b, f.t, f.g, .int .u64 f.a], .int .u64 n, .int .u64 m, .int .i64 k] w fun e' w' => e' = .returned (.bool true) ∧ Below w.heap.size w w' := by
  have hr1' := hr1
  rw [rightL, Bool.and_eq_true, List.all_eq_true] at hr1'
  have hlen40 : l.length ≤ 40 := by simpa using hr1'.2
  have hr2' := hr2
  rw [rightL, Bool.and_eq_true, List.all_eq_true] at hr2'
  have hL : ∀ x ∈ l, RC x := fun x hx => RC.of_right (hraw x hx) (hr1'.1 x hx)
  have hc := RR.of_right rc (hr2'.1 c (by simp))
  have hd := RR.of_right rd (hr2'.1 d (by simp))
  have hf := RR.of_right rf (hr2'.1 f (by simp))
  have HRL : Hid (∀ wx : World, Below w.heap.size w wx → Calls Try.prog 20 #[.slice A l.length nn] wx fun e' w' => e' = .returned (.bool true) ∧ Kp wx w') := Lib.hid (fun wx hb => rightl_b l A nn wx ((h.keep (w' := wx) fun p hp => hb.cell hp).more hb.size) hlen hraw true hr1)
  have HR3 : Hid (∀ (A : Option Addr) (n : Nat) (wx : World), Rd wx wx.heap.size A [c, d, f] → Calls Try.prog 20 #[.slice A 3 n] wx fun e' w' => e' = .returned (.bool true) ∧ Kp wx w') := Lib.hid (fun A n wx h => rightl_w [c, d, f] A n wx h (by simp) (by intro x hx; simp at hx; rcases hx with rfl | rfl | rfl; exact rc; exact rd; exact rf) true hr2)
  have HN3 : Hid (∀ wx : World, Rd (wx.alloc (.cells #[c.tg, c.pe, c.ty, c.mo, c.e, c.b, c.t, c.g, .int .u64 c.a, d.tg, d.pe, d.ty, d.mo, d.e, d.b, d.t, d.g, .int .u64 d.a, f.tg, f.pe, f.ty, f.mo, f.e, f.b, f.t, f.g, .int .u64 f.a] 25)) (wx.alloc (.cells #[c.tg, c.pe, c.ty, c.mo, c.e, c.b, c.t, c.g, .int .u64 c.a, d.tg, d.pe, d.ty, d.mo, d.e, d.b, d.t, d.g, .int .u64 d.a, f.tg, f.pe, f.ty, f.mo, f.e, f.b, f.t, f.g, .int .u64 f.a] 25)).heap.size (some ⟨wx.heap.size, 0, none⟩) [c, d, f]) := Lib.hid (fun wx => rd_new [c, d, f] wx)
  have HHC : Hid (∀ wx : World, Below w.heap.size w wx → Calls Try.prog 27 #[.slice A l.length nn, .agg #[c.tg, c.pe, c.ty, c.mo, c.e, c.b, c.t, c.g, .int .u64 c.a]] wx fun e' w' => e' = .returned (.bool true) ∧ Below wx.heap.size wx w') := Lib.hid (fun wx hb => has_w l A nn c hL (by omega) hc.rc true hh1 wx ((h.keep (w' := wx) fun p hp => hb.cell hp).more hb.size))
  have HHD : Hid (∀ wx : World, Below w.heap.size w wx → Calls Try.prog 27 #[.slice A l.length nn, .agg #[d.tg, d.pe, d.ty, d.mo, d.e, d.b, d.t, d.g, .int .u64 d.a]] wx fun e' w' => e' = .returned (.bool true) ∧ Below wx.heap.size wx w') := Lib.hid (fun wx hb => has_w l A nn d hL (by omega) hd.rc true hh2 wx ((h.keep (w' := wx) fun p hp => hb.cell hp).more hb.size))
  have HHX : Hid (∀ (x : Cp) (wx : World), RR x ∧ hasB l x = true → Below w.heap.size w wx → Calls Try.prog 27 #[.slice A l.length nn, .agg #[x.tg, x.pe, x.ty, x.mo, x.e, x.b, x.t, x.g, .int .u64 x.a]] wx fun e' w' => e' = .returned (.bool true) ∧ Below wx.heap.size wx w') := Lib.hid (fun x wx hx hb => has_w l A nn x hL (by omega) hx.1.rc true hx.2 wx ((h.keep (w' := wx) fun p hp => hb.cell hp).more hb.size))
  have HRX : Hid (∀ (x : Cp) (wx : World), RR x ∧ hasB l x = true → Calls Try.prog 21 #[.agg #[x.tg, x.pe, x.ty, x.mo, x.e, x.b, x.t, x.g, .int .u64 x.a]] wx fun e' w' => e' = .returned (.bool true) ∧ Kp wx w') := Lib.hid (fun x wx hx => right_c x hx.1.rc.raw true hx.1.right wx)
  have HMA : Hid (∀ (x y z : Cp) (a b : Int) (wx : World), RR x ∧ hasB l x = true → RR y ∧ hasB l y = true → RR z → 0 ≤ a → a < 18446744073709551616 → Calls Try.prog 31 #[.agg #[x.tg, x.pe, x.ty, x.mo, x.e, x.b, x.t, x.g, .int .u64 x.a], .agg #[y.tg, y.pe, y.ty, y.mo, y.e, y.b, y.t, y.g, .int .u64 y.a], .agg #[z.tg, z.pe, z.ty, z.mo, z.e, z.b, z.t, z.g, .int .u64 z.a], .int .u64 a, .int .i64 b] wx fun e w' => ∃ g, e = .returned (.slice (some ⟨g, 0, none⟩) 12 12) ∧ ∃ L : List Cp, L.length = 12 ∧ Rd w' w'.heap.size (some ⟨g, 0, none⟩) L ∧ (∀ u ∈ L, RR u ∧ hasB l u = true) ∧ Below wx.heap.size wx w') := Lib.hid (fun x y z a b wx hx hy hz a0 a1 => (made_w x y z a b hx.1.rc hy.1.rc hz.rc a0 a1 wx).mono (by
    rintro e w' ⟨g, rfl, hr, hb⟩
    exact ⟨g, rfl, _, madeL_len x y z a b, hr, fun u hu => ⟨made_right hx.1 hy.1 hz a0 a1 b u hu, made_has hx.2 hy.2 z a b u hu⟩, hb⟩))
  have HC0 := Lib.hid (And.intro hc hh1)
  have HD0 := Lib.hid (And.intro hd hh2)
  have HF0 := Lib.hid hf
  have HNB := Lib.hid (And.intro n0 n1)
  have HMB := Lib.hid (And.intro m0 m1)
  have C2 : At (w.heap.size) [c.tg, c.pe, c.ty, c.mo, c.e, c.b, c.t, c.g, .int .u64 c.a] (((w.alloc (.cells #[c.tg, c.pe, c.ty, c.mo, c.e, c.b, c.t, c.g, .int .u64 c.a] 25)).alloc (.cells #[d.tg, d.pe, d.ty, d.mo, d.e, d.b, d.t, d.g, .int .u64 d.a] 25)).alloc (.cells #[f.tg, f.pe, f.ty, f.mo, f.e, f.b, f.t, f.g, .int .u64 f.a] 25)) := ((At.new w [c.tg, c.pe, c.ty, c.mo, c.e, c.b, c.t, c.g, .int .u64 c.a] 25).alloc _).alloc _
  have D2 : At (w.heap.size + 1) [d.tg, d.pe, d.ty, d.mo, d.e, d.b, d.t, d.g, .int .u64 d.a] (((w.alloc (.cells #[c.tg, c.pe, c.ty, c.mo, c.e, c.b, c.t, c.g, .int .u64 c.a] 25)).alloc (.cells #[d.tg, d.pe, d.ty, d.mo, d.e, d.b, d.t, d.g, .int .u64 d.a] 25)).alloc (.cells #[f.tg, f.pe, f.ty, f.mo, f.e, f.b, f.t, f.g, .int .u64 f.a] 25)) := (At.new' (w.alloc (.cells #[c.tg, c.pe, c.ty, c.mo, c.e, c.b, c.t, c.g, .int .u64 c.a] 25)) [d.tg, d.pe, d.ty, d.mo, d.e, d.b, d.t, d.g, .int .u64 d.a] 25 (by simp)).alloc _
  have F2 : At (w.heap.size + 1 + 1) [f.tg, f.pe, f.ty, f.mo, f.e, f.b, f.t, f.g, .int .u64 f.a] (((w.alloc (.cells #[c.tg, c.pe, c.ty, c.mo, c.e, c.b, c.t, c.g, .int .u64 c.a] 25)).alloc (.cells #[d.tg, d.pe, d.ty, d.mo, d.e, d.b, d.t, d.g, .int .u64 d.a] 25)).alloc (.cells #[f.tg, f.pe, f.ty, f.mo, f.e, f.b, f.t, f.g, .int .u64 f.a] 25)) := At.new' ((w.alloc (.cells #[c.tg, c.pe, c.ty, c.mo, c.e, c.b, c.t, c.g, .int .u64 c.a] 25)).alloc (.cells #[d.tg, d.pe, d.ty, d.mo, d.e, d.b, d.t, d.g, .int .u64 d.a] 25)) [f.tg, f.pe, f.ty, f.mo, f.e, f.b, f.t, f.g, .int .u64 f.a] 25 (by simp)
  have L2 : Bl w (w.heap.size + 1 + 1 + 1) (((w.alloc (.cells #[c.tg, c.pe, c.ty, c.mo, c.e, c.b, c.t, c.g, .int .u64 c.a] 25)).alloc (.cells #[d.tg, d.pe, d.ty, d.mo, d.e, d.b, d.t, d.g, .int .u64 d.a] 25)).alloc (.cells #[f.tg, f.pe, f.ty, f.mo, f.e, f.b, f.t, f.g, .int .u64 f.a] 25)) := ⟨(((Below.refl _ _).alloc (Nat.le_refl _) _).alloc (by simp) _).alloc (by simp; omega) _, by omega, by simp⟩
  clear h hr1 hr1' hr2 hr2' hraw hL hc hd hf rc rd rf hh1 hh2 n0 n1 m0 m1
  go_enter Try.func8, Try.ntmps8
  go_upto_region 1 with fail
  generalize hw0 : (((w.alloc (.cells #[c.tg, c.pe, c.ty, c.mo, c.e, c.b, c.t, c.g, .int .u64 c.a] 25)).alloc (.cells #[d.tg, d.pe, d.ty, d.mo, d.e, d.b, d.t, d.g, .int .u64 d.a] 25)).alloc (.cells #[f.tg, f.pe, f.ty, f.mo, f.e, f.b, f.t, f.g, .int .u64 f.a] 25)) = w0 at C2 D2 F2 L2 ⊢
  clear hw0
  have le0 := L2.le
  obtain ⟨_, _, _, _, _, _, _, _, _⟩ := C2.out9
  obtain ⟨_, _, _, _, _, _, _, _, _⟩ := D2.out9
  obtain ⟨_, _, _, _, _, _, _, _, _⟩ := F2.out9
  have HC2 := Lib.hid C2
  have HD2 := Lib.hid D2
  have HF2 := Lib.hid F2
  have HL2 := Lib.hid L2
  clear C2 D2 F2 L2
  go_wp2_with (first
    | (go_at_call 20; (with_reducible refine (HRL.out _ HL2.out.bl).mono ?_); rintro e' w1 ⟨rfl, qk⟩; have C3 := HC2.out.kp qk (by omega); have D3 := HD2.out.kp qk (by omega); have F3 := HF2.out.kp qk (by omega); have L3 := HL2.out.step qk.1; obtain ⟨_, _, _, _, _, _, _, _, _⟩ := C3.out9; obtain ⟨_, _, _, _, _, _, _, _, _⟩ := D3.out9; obtain ⟨_, _, _, _, _, _, _, _, _⟩ := F3.out9; have le1 := L3.le; have HC3 := Lib.hid C3; have HD3 := Lib.hid D3; have HF3 := Lib.hid F3; have HL3 := Lib.hid L3; clear qk C3 D3 F3 L3)
    | (go_at_call 20; (with_reducible refine (HR3.out _ _ _ (HN3.out w1)).mono ?_); rintro e' w2 ⟨rfl, qk⟩; have C4 := (HC3.out.alloc _).kp qk (by simp; omega); have D4 := (HD3.out.alloc _).kp qk (by simp; omega); have F4 := (HF3.out.alloc _).kp qk (by simp; omega); have L4 := (HL3.out.alloc _).step qk.1; obtain ⟨_, _, _, _, _, _, _, _, _⟩ := C4.out9; obtain ⟨_, _, _, _, _, _, _, _, _⟩ := D4.out9; obtain ⟨_, _, _, _, _, _, _, _, _⟩ := F4.out9; have le2 := L4.le; have HC4 := Lib.hid C4; have HD4 := Lib.hid D4; have HF4 := Lib.hid F4; have HL4 := Lib.hid L4; clear qk C4 D4 F4 L4)
    | (go_at_call 27; (with_reducible refine (HHC.out w2 HL4.out.bl).mono ?_); rintro e' w3 ⟨rfl, hb⟩; have C5 := HL4.out.at_ hb HC4.out (show w.heap.size < w.heap.size + 1 + 1 + 1 by omega); have D5 := HL4.out.at_ hb HD4.out (show w.heap.size + 1 < w.heap.size + 1 + 1 + 1 by omega); have F5 := HL4.out.at_ hb HF4.out (show w.heap.size + 1 + 1 < w.heap.size + 1 + 1 + 1 by omega); have L5 := HL4.out.step hb; obtain ⟨_, _, _, _, _, _, _, _, _⟩ := C5.out9; obtain ⟨_, _, _, _, _, _, _, _, _⟩ := D5.out9; obtain ⟨_, _, _, _, _, _, _, _, _⟩ := F5.out9; have le3 := L5.le; have HC5 := Lib.hid C5; have HD5 := Lib.hid D5; have HF5 := Lib.hid F5; have HL5 := Lib.hid L5; clear hb C5 D5 F5 L5)
    | (go_at_call 27; (with_reducible refine (HHD.out w3 HL5.out.bl).mono ?_); rintro e' w4 ⟨rfl, hb⟩; have C6 := HL5.out.at_ hb HC5.out (show w.heap.size < w.heap.size + 1 + 1 + 1 by omega); have D6 := HL5.out.at_ hb HD5.out (show w.heap.size + 1 < w.heap.size + 1 + 1 + 1 by omega); have F6 := HL5.out.at_ hb HF5.out (show w.heap.size + 1 + 1 < w.heap.size + 1 + 1 + 1 by omega); have L6 := HL5.out.step hb; obtain ⟨_, _, _, _, _, _, _, _, _⟩ := C6.out9; obtain ⟨_, _, _, _, _, _, _, _, _⟩ := D6.out9; obtain ⟨_, _, _, _, _, _, _, _, _⟩ := F6.out9; have le4 := L6.le; have HC6 := Lib.hid C6; have HD6 := Lib.hid D6; have HF6 := Lib.hid F6; have HL6 := Lib.hid L6; clear hb C6 D6 F6 L6)
    | (go_at_call 31; (with_reducible refine (HMA.out c d f n k w4 HC0.out HD0.out HF0.out HNB.out.1 HNB.out.2).mono ?_); rintro e' w5 ⟨gx, rfl, X, hX12, hrX, hX, hb⟩; have HRX5 := Lib.hid hrX; have HXA := Lib.hid hX; have HX12 := Lib.hid hX12; clear hrX hX hX12; have C7 := HL6.out.at_ hb HC6.out (show w.heap.size < w.heap.size + 1 + 1 + 1 by omega); have D7 := HL6.out.at_ hb HD6.out (show w.heap.size + 1 < w.heap.size + 1 + 1 + 1 by omega); have F7 := HL6.out.at_ hb HF6.out (show w.heap.size + 1 + 1 < w.heap.size + 1 + 1 + 1 by omega); have L7 := HL6.out.step hb; obtain ⟨_, _, _, _, _, _, _, _, _⟩ := C7.out9; obtain ⟨_, _, _, _, _, _, _, _, _⟩ := D7.out9; obtain ⟨_, _, _, _, _, _, _, _, _⟩ := F7.out9; have le5 := L7.le; have HC7 := Lib.hid C7; have HD7 := Lib.hid D7; have HF7 := Lib.hid F7; have HL7 := Lib.hid L7; clear hb C7 D7 F7 L7))
  go_loopw [16] (fun i wr => ∃ q : Nat, q ≤ 12 ∧ i = .int .i64 q ∧ Below w5.heap.size w5 wr) (fun i _ => 12 - (intOf i).toNat)
  case atStart => exact ⟨0, Nat.zero_le _, rfl, Below.refl _ _⟩
  case round =>
    obtain ⟨q, hq, rfl, hbw⟩ := hrel
    have HBW := Lib.hid hbw
    clear hbw
    by_cases hlt : q < 12
    · obtain ⟨hgx, x, hxk, hxm, hxr⟩ := (HRX5.out.below HBW.out (Nat.le_refl _)).row (k := q) (by rw [HX12.out]; exact hlt)
      obtain ⟨_, _, _, _, _, _, _, _, _⟩ := hxr.out
      have HXR := Lib.hid hxr
      have HXM := Lib.hid (HXA.out x hxm)
      have HGX := Lib.hid hgx
      have HWR := Lib.hid (HL7.out.bl.trans (HBW.out.mono (Nat.le_trans HL7.out.lo HL7.out.le)))
      have i0 : (q : Int) < 12 := by omega
      clear hxr hxm hxk hgx
      go_wp2_with (first
        | (go_at_call 21; (with_reducible refine (HRX.out x _ HXM.out).mono ?_); rintro e' u1 ⟨rfl, qk⟩; have hr2 := HXR.out.keep (w' := u1) (fun p hp => qk.1.cell (by rw [hp]; exact HGX.out)); obtain ⟨_, _, _, _, _, _, _, _, _⟩ := hr2.out; have HBW1 := Lib.hid (HBW.out.trans (qk.1.mono HBW.out.size)); have HWR1 := Lib.hid (HWR.out.trans (qk.1.mono HWR.out.size)); clear hr2 qk)
        | (go_at_call 27; (with_reducible refine (HHX.out x _ HXM.out HWR1.out).mono ?_); rintro e' u2 ⟨rfl, hb⟩; have HBW2 := Lib.hid (HBW1.out.trans (hb.mono HBW1.out.size)); clear hb))
      go_roundw
      case rel => exact ⟨q + 1, by omega, by go_num, HBW2.out⟩
      case measure => simp [intOf]; omega
    · have hq12 : q = 12 := by omega
      subst hq12
      have C8 := HL7.out.at_ HBW.out HC7.out (show w.heap.size < w.heap.size + 1 + 1 + 1 by omega)
      have D8 := HL7.out.at_ HBW.out HD7.out (show w.heap.size + 1 < w.heap.size + 1 + 1 + 1 by omega)
      have F8 := HL7.out.at_ HBW.out HF7.out (show w.heap.size + 1 + 1 < w.heap.size + 1 + 1 + 1 by omega)
      have L8 := HL7.out.step HBW.out
      have RX8 := HRX5.out.below HBW.out (Nat.le_refl _)
      have le8 := L8.le
      obtain ⟨_, _, _, _, _, _, _, _, _⟩ := C8.out9
      obtain ⟨_, _, _, _, _, _, _, _, _⟩ := D8.out9
      obtain ⟨_, _, _, _, _, _, _, _, _⟩ := F8.out9
      have nm0 : 0 ≤ n % 1000 := by omega
      have nm1 : n % 1000 < 1000 := by omega
      have HP := Lib.hid (pick_q (n % 1000) nm0 nm1)
      have nt : n.tmod 1000 = n % 1000 := Int.tmod_eq_emod_of_nonneg HNB.out.1
      have nw : IntKind.i64.wrap (n % 1000) = n % 1000 := by rw [IntKind.wrap_i64]; omega
      have nu : IntKind.u64.wrap (n % 1000) = n % 1000 := by rw [IntKind.wrap_u64]; omega
      have HC8 := Lib.hid C8
      have HD8 := Lib.hid D8
      have HF8 := Lib.hid F8
      have HL8 := Lib.hid L8
      have HRX8 := Lib.hid RX8
      clear C8 D8 F8 L8 RX8
      go_upto_region 10 with (first | (go_at_call 32; (with_reducible refine (HP.out _).mono ?_); rintro e' u1 ⟨q, hq, rfl, rfl⟩))
      clear nt nw nu nm0 nm1 hlt
      obtain ⟨hgx, x, hxk, hxm, hxr⟩ := HRX8.out.row (k := q) (by rw [HX12.out]; exact hq)
      have HXM := Lib.hid (HXA.out x hxm)
      clear hxm hxk
      have q1 : (q : Int) < 12 := by omega
      have q0 : (0 : Int) ≤ (q : Int) := by omega
      have hBl : Bl w wr.heap.size wr := ⟨HL8.out.bl, Nat.le_trans HL8.out.lo HL8.out.le, Nat.le_refl _⟩
      have hlo1 : w.heap.size + 1 < wr.heap.size := by omega
      have hlo2 : w.heap.size + 1 + 1 < wr.heap.size := by omega
      have D9 := HD8.out
      have F9 := HF8.out
      refine wp_region_held_drew (S := (fun w' => At (w.heap.size + 1) [d.tg, d.pe, d.ty, d.mo, d.e, d.b, d.t, d.g, .int .u64 d.a] w' ∧ At (w.heap.size + 1 + 1) [f.tg, f.pe, f.ty, f.mo, f.e, f.b, f.t, f.g, .int .u64 f.a] w' ∧ Row w' (gx) (q * 9) x ∧ Bl w (wr.heap.size) w')) (by kernel_rfl) ⟨At.drew (by with_reducible assumption), At.drew (by with_reducible assumption), Row.drew (by with_reducible assumption), Bl.drew (by with_reducible assumption)⟩ (fun hS => ?_)
      have rx := HRX8.out.drew
      change Rd wr.drew wr.drew.heap.size _ _ at rx
      clear hBl D9 F9 hxr
      generalize hgw : wr.drew = g0 at hS rx ⊢
      clear hgw
      try simp only [Act.put, zA, zB, zC]
      (refine tk 0 ?_ rfl (Or.inl ⟨by rfl, ?_⟩) hS ?_; rotate_left; focus (intro w' hSw; obtain ⟨s0, s1, s2, sb⟩ := hSw; go_simp <;> try with_reducible rfl))
      try simp only [Act.put, zA, zB, zC]
      (refine tk 1 ?_ rfl (Or.inl ⟨by rfl, ?_⟩) hS ?_; rotate_left; focus (intro w' hSw; obtain ⟨s0, s1, s2, sb⟩ := hSw; go_simp <;> try with_reducible rfl))
      try simp only [Act.put, zA, zB, zC]
      (refine tk 2 ?_ rfl (Or.inl ⟨by rfl, ?_⟩) hS ?_; rotate_left; focus (intro w' hSw; obtain ⟨s0, s1, s2, sb⟩ := hSw; go_simp <;> try with_reducible rfl))
      try simp only [Act.put, zA, zB, zC]
      (refine tk 3 ?_ rfl (Or.inl ⟨by rfl, ?_⟩) hS ?_; rotate_left; focus (intro w' hSw; obtain ⟨s0, s1, s2, sb⟩ := hSw; obtain ⟨_, _, _, _, _, _, _, _, _⟩ := s0.out9; obtain ⟨_, _, _, _, _, _, _, _, _⟩ := s1.out9; obtain ⟨_, _, _, _, _, _, _, _, _⟩ := s2.out; go_simp <;> try with_reducible rfl))
      try simp only [Act.put, zA, zB, zC]
      (refine tk 4 ?_ rfl (Or.inl ⟨by rfl, ?_⟩) hS ?_; rotate_left; focus (intro w' hSw; obtain ⟨s0, s1, s2, sb⟩ := hSw; obtain ⟨_, _, _, _, _, _, _, _, _⟩ := s0.out9; obtain ⟨_, _, _, _, _, _, _, _, _⟩ := s1.out9; obtain ⟨_, _, _, _, _, _, _, _, _⟩ := s2.out; go_simp <;> try with_reducible rfl))
      try simp only [Act.put, zA, zB, zC]
      (refine tk 5 ?_ rfl (Or.inl ⟨by rfl, ?_⟩) hS ?_; rotate_left; focus (intro w' hSw; obtain ⟨s0, s1, s2, sb⟩ := hSw; obtain ⟨_, _, _, _, _, _, _, _, _⟩ := s0.out9; obtain ⟨_, _, _, _, _, _, _, _, _⟩ := s1.out9; obtain ⟨_, _, _, _, _, _, _, _, _⟩ := s2.out; go_simp <;> try with_reducible rfl))
      try simp only [Act.put, zA, zB, zC]
      (refine tk 6 ?_ rfl (Or.inl ⟨by rfl, ?_⟩) hS ?_; rotate_left; focus (intro w' hSw; obtain ⟨s0, s1, s2, sb⟩ := hSw; go_simp <;> try with_reducible rfl))
      try simp only [Act.put, zA, zB, zC]
      (refine tk 7 ?_ rfl (Or.inl ⟨by rfl, ?_⟩) hS ?_; rotate_left; focus (intro w' hSw; obtain ⟨s0, s1, s2, sb⟩ := hSw; go_simp <;> try with_reducible rfl))
      try simp only [Act.put, zA, zB, zC]
      (refine tk 8 ?_ rfl (Or.inl ⟨by rfl, ?_⟩) hS ?_; rotate_left; focus (intro w' hSw; obtain ⟨s0, s1, s2, sb⟩ := hSw; go_simp <;> try with_reducible rfl))
      try simp only [Act.put, zA, zB, zC]
      refine rdy 9 rfl (fun K hK => ?_)
      refine take_if (by rfl) ?_
      obtain ⟨s0, s1, s2, sb⟩ := hS
      go_simp
      (with_reducible refine (HMA.out x d f m _ g0 HXM.out HD0.out HF0.out HMB.out.1 HMB.out.2).mono ?_)
      rintro e' g9 ⟨gy, rfl, Y, hY12, hrY, hY, hb⟩
      have t0 := sb.at_ hb s0 (show w.heap.size + 1 < wr.heap.size by omega)
      have t1 := sb.at_ hb s1 (show w.heap.size + 1 + 1 < wr.heap.size by omega)
      have t2 := s2.bl sb hb (show gx < wr.heap.size by omega)
      have rx := rx.below hb (Nat.le_refl _)
      refine hK.out _ _ ⟨t0, t1, t2, (sb.step hb)⟩ (fun hS => ?_)
      clear hK K hb s0 t0 s1 t1 s2 t2 sb
      try simp only [Act.put, zA, zB, zC]
      (refine tk 10 ?_ rfl (Or.inl ⟨by rfl, ?_⟩) hS ?_; rotate_left; focus (intro w' hSw; obtain ⟨s0, s1, s2, sb⟩ := hSw; go_simp <;> try with_reducible rfl))
      try simp only [Act.put, zA, zB, zC]
      refine wpAnyH_done (by kernel_rfl) ?_ _
      obtain ⟨s0, s1, s2, sb⟩ := hS
      have HY12 := Lib.hid hY12
      have HYA := Lib.hid hY
      clear hY12 hY
      go_upto_region 11 with fail
      obtain ⟨q2, hq2, e4⟩ : ∃ q2 : Nat, q2 < 12 ∧ ((q : Int) + 3).tmod 12 = (q2 : Int) := ⟨(q + 3) % 12, by omega, by rw [Int.tmod_eq_emod_of_nonneg (by omega)]; omega⟩
      have e3 : IntKind.i64.wrap ((q : Int) + 3) = (q : Int) + 3 := by rw [IntKind.wrap_i64]; omega
      have q20 : (0 : Int) ≤ (q2 : Int) := by omega
      have q21 : (q2 : Int) < 12 := by omega
      obtain ⟨hgx2, x2, hxk2, hxm2, hxr2⟩ := rx.row (k := q2) (by rw [HX12.out]; exact hq2)
      have HX2M := Lib.hid (HXA.out x2 hxm2)
      clear hxk2 hxm2 hgx2 s1
      refine wp_region_held_drew (S := (fun w' => At (w.heap.size + 1) [d.tg, d.pe, d.ty, d.mo, d.e, d.b, d.t, d.g, .int .u64 d.a] w' ∧ Row w' (gx) (q * 9) x ∧ Row w' (gx) (q2 * 9) x2 ∧ Bl w (wr.heap.size) w')) (by kernel_rfl) ⟨At.drew (by with_reducible assumption), Row.drew (by with_reducible assumption), Row.drew (by with_reducible assumption), Bl.drew (by with_reducible assumption)⟩ (fun hS => ?_)
      have ry := hrY.drew
      change Rd g9.drew g9.drew.heap.size _ _ at ry
      clear hrY rx s0 s2 hxr2 sb
      generalize hgw : g9.drew = k0 at hS ry ⊢
      clear hgw
      try simp only [Act.put, zA, zB, zC]
      (refine tk 0 ?_ rfl (Or.inl ⟨by rfl, ?_⟩) hS ?_; rotate_left; focus (intro w' hSw; obtain ⟨s0, s1, s2, sb⟩ := hSw; obtain ⟨_, _, _, _, _, _, _, _, _⟩ := s0.out9; obtain ⟨_, _, _, _, _, _, _, _, _⟩ := s1.out; obtain ⟨_, _, _, _, _, _, _, _, _⟩ := s2.out; go_simp <;> try with_reducible rfl))
      try simp only [Act.put, zA, zB, zC]
      (refine tk 1 ?_ rfl (Or.inl ⟨by rfl, ?_⟩) hS ?_; rotate_left; focus (intro w' hSw; obtain ⟨s0, s1, s2, sb⟩ := hSw; go_simp <;> try with_reducible rfl))
      try simp only [Act.put, zA, zB, zC]
      (refine tk 2 ?_ rfl (Or.inl ⟨by rfl, ?_⟩) hS ?_; rotate_left; focus (intro w' hSw; obtain ⟨s0, s1, s2, sb⟩ := hSw; go_simp <;> try with_reducible rfl))
      try simp only [Act.put, zA, zB, zC]
      (refine tk 3 ?_ rfl (Or.inl ⟨by rfl, ?_⟩) hS ?_; rotate_left; focus (intro w' hSw; obtain ⟨s0, s1, s2, sb⟩ := hSw; go_simp <;> try with_reducible rfl))
      try simp only [Act.put, zA, zB, zC]
      (refine tk 4 ?_ rfl (Or.inl ⟨by rfl, ?_⟩) hS ?_; rotate_left; focus (intro w' hSw; obtain ⟨s0, s1, s2, sb⟩ := hSw; obtain ⟨_, _, _, _, _, _, _, _, _⟩ := s0.out9; obtain ⟨_, _, _, _, _, _, _, _, _⟩ := s1.out; obtain ⟨_, _, _, _, _, _, _, _, _⟩ := s2.out; go_simp <;> try with_reducible rfl))
      try simp only [Act.put, zA, zB, zC]
      (refine tk 5 ?_ rfl (Or.inl ⟨by rfl, ?_⟩) hS ?_; rotate_left; focus (intro w' hSw; obtain ⟨s0, s1, s2, sb⟩ := hSw; go_simp <;> try with_reducible rfl))
      try simp only [Act.put, zA, zB, zC]
      (refine tk 6 ?_ rfl (Or.inl ⟨by rfl, ?_⟩) hS ?_; rotate_left; focus (intro w' hSw; obtain ⟨s0, s1, s2, sb⟩ := hSw; go_simp <;> try with_reducible rfl))
      try simp only [Act.put, zA, zB, zC]
      (refine tk 7 ?_ rfl (Or.inl ⟨by rfl, ?_⟩) hS ?_; rotate_left; focus (intro w' hSw; obtain ⟨s0, s1, s2, sb⟩ := hSw; go_simp <;> try with_reducible rfl))
      try simp only [Act.put, zA, zB, zC]
      (refine tk 8 ?_ rfl (Or.inl ⟨by rfl, ?_⟩) hS ?_; rotate_left; focus (intro w' hSw; obtain ⟨s0, s1, s2, sb⟩ := hSw; go_simp <;> try with_reducible rfl))
      try simp only [Act.put, zA, zB, zC]
      (refine tk 9 ?_ rfl (Or.inl ⟨by rfl, ?_⟩) hS ?_; rotate_left; focus (intro w' hSw; obtain ⟨s0, s1, s2, sb⟩ := hSw; go_simp <;> try with_reducible rfl))
      try simp only [Act.put, zA, zB, zC]
      (refine tk 10 ?_ rfl (Or.inl ⟨by rfl, ?_⟩) hS ?_; rotate_left; focus (intro w' hSw; obtain ⟨s0, s1, s2, sb⟩ := hSw; go_simp <;> try with_reducible rfl))
      try simp only [Act.put, zA, zB, zC]
      (refine tk 11 ?_ rfl (Or.inl ⟨by rfl, ?_⟩) hS ?_; rotate_left; focus (intro w' hSw; obtain ⟨s0, s1, s2, sb⟩ := hSw; go_simp <;> try with_reducible rfl))
      try simp only [Act.put, zA, zB, zC]
      (refine tk 12 ?_ rfl (Or.inl ⟨by rfl, ?_⟩) hS ?_; rotate_left; focus (intro w' hSw; obtain ⟨s0, s1, s2, sb⟩ := hSw; obtain ⟨_, _, _, _, _, _, _, _, _⟩ := s0.out9; obtain ⟨_, _, _, _, _, _, _, _, _⟩ := s1.out; obtain ⟨_, _, _, _, _, _, _, _, _⟩ := s2.out; go_simp <;> try with_reducible rfl))
      try simp only [Act.put, zA, zB, zC]
      (refine tk 13 ?_ rfl (Or.inl ⟨by rfl, ?_⟩) hS ?_; rotate_left; focus (intro w' hSw; obtain ⟨s0, s1, s2, sb⟩ := hSw; go_simp <;> try with_reducible rfl))
      try simp only [Act.put, zA, zB, zC]
      (refine tk 14 ?_ rfl (Or.inl ⟨by rfl, ?_⟩) hS ?_; rotate_left; focus (intro w' hSw; obtain ⟨s0, s1, s2, sb⟩ := hSw; go_simp <;> try with_reducible rfl))
      try simp only [Act.put, zA, zB, zC]
      (refine tk 15 ?_ rfl (Or.inl ⟨by rfl, ?_⟩) hS ?_; rotate_left; focus (intro w' hSw; obtain ⟨s0, s1, s2, sb⟩ := hSw; go_simp <;> try with_reducible rfl))
      try simp only [Act.put, zA, zB, zC]
      refine rdy 16 rfl (fun K hK => ?_)
      refine take_if (by rfl) ?_
      obtain ⟨s0, s1, s2, sb⟩ := hS
      go_simp
      (with_reducible refine (HMA.out d x x2 m _ k0 HD0.out HXM.out HX2M.out.1 HMB.out.1 HMB.out.2).mono ?_)
      rintro e' g16 ⟨gz, rfl, Z, hZ12, hrZ, hZ, hb⟩
      have t0 := sb.at_ hb s0 (show w.heap.size + 1 < wr.heap.size by omega)
      have t1 := s1.bl sb hb (show gx < wr.heap.size by omega)
      have t2 := s2.bl sb hb (show gx < wr.heap.size by omega)
      have ry := ry.below hb (Nat.le_refl _)
      refine hK.out _ _ ⟨t0, t1, t2, (sb.step hb)⟩ (fun hS => ?_)
      clear hK K hb s0 t0 s1 t1 s2 t2 sb
      try simp only [Act.put, zA, zB, zC]
      (refine tk 17 ?_ rfl (Or.inl ⟨by rfl, ?_⟩) hS ?_; rotate_left; focus (intro w' hSw; obtain ⟨s0, s1, s2, sb⟩ := hSw; go_simp <;> try with_reducible rfl))
      try simp only [Act.put, zA, zB, zC]
      refine wpAnyH_done (by kernel_rfl) ?_ _
      obtain ⟨s0, s1, s2, sb⟩ := hS
      have HSB := Lib.hid sb
      have HRY := Lib.hid ry
      have HRZ := Lib.hid hrZ
      have HZ12 := Lib.hid hZ12
      have HZA := Lib.hid hZ
      clear ry hrZ hZ12 hZ s0 s1 s2 sb hq q0 q1 hq2 q20 q21 e3 e4
      go_wp2
      generalize hgz : g16 = wa at HSB HRY HRZ ⊢
      clear hgz
      clear HBW HC8 HD8 HF8 HL8 HRX8 hlo1 hlo2
      go_loopw [20] (fun i wr => ∃ q : Nat, q ≤ 12 ∧ i = .int .i64 q ∧ Below wa.heap.size wa wr) (fun i _ => 12 - (intOf i).toNat)
      case atStart => exact ⟨0, Nat.zero_le _, rfl, Below.refl _ _⟩
      case round =>
        obtain ⟨p, hp, rfl, hbw⟩ := hrel
        have HBA := Lib.hid hbw
        have HWA := Lib.hid (HSB.out.step hbw).bl
        clear hbw
        by_cases hlt : p < 12
        · obtain ⟨hgy, y, hyk, hym, hyr⟩ := (HRY.out.below HBA.out (Nat.le_refl _)).row (k := p) (by rw [HY12.out]; exact hlt)
          obtain ⟨hgz, z, hzk, hzm, hzr⟩ := (HRZ.out.below HBA.out (Nat.le_refl _)).row (k := p) (by rw [HZ12.out]; exact hlt)
          obtain ⟨_, _, _, _, _, _, _, _, _⟩ := hyr.out
          obtain ⟨_, _, _, _, _, _, _, _, _⟩ := hzr.out
          have HZR := Lib.hid hzr
          have HyM := Lib.hid (HYA.out y hym)
          have HzM := Lib.hid (HZA.out z hzm)
          have HGZ := Lib.hid hgz
          have i0 : (p : Int) < 12 := by omega
          clear hyr hym hyk hgy hzr hzm hzk hgz
          go_wp2_with (first
            | (go_at_call 27; (with_reducible refine (HHX.out y _ HyM.out HWA.out).mono ?_); rintro e' u1 ⟨rfl, hb⟩; have hr2 := HZR.out.keep (w' := u1) (fun p hp => hb.cell (by rw [hp]; exact HGZ.out)); obtain ⟨_, _, _, _, _, _, _, _, _⟩ := hr2.out; have HBA1 := Lib.hid (HBA.out.trans (hb.mono HBA.out.size)); have HWA1 := Lib.hid (HWA.out.trans (hb.mono HWA.out.size)); clear hr2 hb)
            | (go_at_call 27; (with_reducible refine (HHX.out z _ HzM.out HWA1.out).mono ?_); rintro e' u2 ⟨rfl, hb⟩; have HBA2 := Lib.hid (HBA1.out.trans (hb.mono HBA1.out.size)); clear hb))
          go_roundw
          case rel => exact ⟨p + 1, by omega, by go_num, HBA2.out⟩
          case measure => simp [intOf]; omega
        · have hp12 : p = 12 := by omega
          subst hp12
          go_wp2_with (go_at_call 13; (with_reducible refine (works_w _).mono ?_); rintro e' wz ⟨rfl, hbz⟩; have BZ := Lib.hid (HWA.out.trans (hbz.mono HWA.out.size)); clear hbz)
          go_ret
          exact ⟨rfl, BZ.out⟩
theorem closed_all (l : List Cp) (A : Option Addr) (nn : Nat) (c d f : Cp) (n m k : Int) (w : World) (h : Rd w w.heap.size A l) (hraw : ∀ x ∈ l, Raw x) (hlen : l.length ≤ 9223372036854775807) (rc : Raw c) (rd : Raw d) (rf : Raw f) (n0 : 0 ≤ n) (n1 : n < 18446744073709551616) (m0 : 0 ≤ m) (m1 : m < 18446744073709551616) :
    Calls Try.prog 8 #[.slice A l.length nn, .agg #[c.tg, c.pe, c.ty, c.mo, c.e, c.b, c.t, c.g, .int .u64 c.a], .agg #[d.tg, d.pe, d.ty, d.mo, d.e, d.b, d.t, d.g, .int .u64 d.a], .agg #[f.tg, f.pe, f.ty, f.mo, f.e, f.b, f.t, f.g, .int .u64 f.a], .int .u64 n, .int .u64 m, .int .i64 k] w fun e' w' => e' = .returned (.bool true) ∧ Below w.heap.size w w' := by
  cases hr1 : rightL l
  · exact closed_r1 l A nn c d f n m k w h hraw hlen rc rd rf n0 n1 m0 m1 hr1
  · cases hr2 : rightL [c, d, f]
    · exact closed_r2 l A nn c d f n m k w h hraw hlen rc rd rf n0 n1 m0 m1 hr1 hr2
    · cases hh1 : hasB l c
      · exact closed_r3 l A nn c d f n m k w h hraw hlen rc rd rf n0 n1 m0 m1 hr1 hr2 hh1
      · cases hh2 : hasB l d
        · exact closed_r4 l A nn c d f n m k w h hraw hlen rc rd rf n0 n1 m0 m1 hr1 hr2 hh1 hh2
        · exact closed_core l A nn c d f n m k w h hraw hlen rc rd rf n0 n1 m0 m1 hr1 hr2 hh1 hh2
end Go.Proofs.Ytkddgjaflcjhiaa
