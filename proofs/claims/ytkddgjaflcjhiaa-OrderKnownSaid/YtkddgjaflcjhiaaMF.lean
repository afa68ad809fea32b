/-
  The closure of some capabilities, as lists: grown in rounds till nothing new comes. Plain mathematics over capabilities' fields.
  A map of capabilities as a set: made, asked, written. No condition but that capabilities' numbers are in their places.
  Rows of capabilities, of ranges and of places that a call owns; what else of a world has turned. No condition.
  What a closing call leaves; what holds of the closure's lists on the way. Plain mathematics, and rows that are kept. No condition.
-/
import Derived.Test.YtkddgjaflcjhiaaODef
import Derived.Test.YtkddgjaflcjhiaaAgg9
import Derived.Maps.OwnSet
import Derived.DeepKeys4
import Derived.Deep.AppendLies
import Derived.Laws.OwnMore
namespace Go.Proofs.Ytkddgjaflcjhiaa
open Go.ChangeShapes Go.WideShapes Go.ChangeAt Go.RowKit
set_option linter.unusedVariables false
set_option linter.unusedSimpArgs false

def addC (out : List Cp) (c : Cp) : List Cp := if c ∈ out then out else out ++ [c]
theorem mem_addC (out : List Cp) (c x : Cp) : x ∈ addC out c ↔ x ∈ out ∨ x = c := by
  unfold addC; split
  · rename_i h; exact ⟨Or.inl, fun hx => hx.elim id (fun e => e ▸ h)⟩
  · simp
theorem addC_pre (out : List Cp) (c : Cp) : ∃ u, addC out c = out ++ u ∧ u.length ≤ 1 := by
  unfold addC; split
  · exact ⟨[], by simp, by simp⟩
  · exact ⟨[c], rfl, by simp⟩
/-- Those with a tag, each once. -/
def baseL (l : List Cp) : List Cp := l.foldl (fun out c => if c.tg then addC out c else out) []
theorem foldl_take {α β : Type} (f : β → α → β) (b : β) (l : List α) (k : Nat) (c : α) (h : l[k]? = some c) : (l.take (k + 1)).foldl f b = f ((l.take k).foldl f b) c := by
  rw [List.take_add_one, h]; simp
theorem base_step (l : List Cp) (k : Nat) (c : Cp) (h : l[k]? = some c) : baseL (l.take (k + 1)) = if c.tg then addC (baseL (l.take k)) c else baseL (l.take k) := foldl_take _ _ _ _ _ h
theorem fold_inv {α β : Type} (f : β → α → β) (P : β → Prop) (l : List α) (b : β) (hb : P b) (h : ∀ b a, a ∈ l → P b → P (f b a)) : P (l.foldl f b) := by
  induction l generalizing b with
  | nil => exact hb
  | cons a l ih => exact ih _ (h _ _ (by simp) hb) (fun b x hx => h b x (by simp [hx]))
theorem base_mem (l : List Cp) (x : Cp) : x ∈ baseL l ↔ x ∈ l ∧ x.tg = true := by
  have key : ∀ (l out : List Cp), x ∈ l.foldl (fun out c => if c.tg then addC out c else out) out ↔ x ∈ out ∨ (x ∈ l ∧ x.tg = true) := by
    intro l
    induction l with
    | nil => simp
    | cons c l ih =>
      intro out
      rw [List.foldl_cons, ih]
      cases hc : c.tg
      · simp only [Bool.false_eq_true, if_false, List.mem_cons]
        constructor
        · rintro (h | ⟨h, t⟩)
          · exact Or.inl h
          · exact Or.inr ⟨Or.inr h, t⟩
        · rintro (h | ⟨h | h, t⟩)
          · exact Or.inl h
          · subst h; rw [hc] at t; cases t
          · exact Or.inr ⟨h, t⟩
      · simp only [if_true, mem_addC, List.mem_cons]
        constructor
        · rintro ((h | h) | ⟨h, t⟩)
          · exact Or.inl h
          · exact Or.inr ⟨Or.inl h, h ▸ hc⟩
          · exact Or.inr ⟨Or.inr h, t⟩
        · rintro (h | ⟨h | h, t⟩)
          · exact Or.inl (Or.inl h)
          · exact Or.inl (Or.inr h)
          · exact Or.inr ⟨h, t⟩
  rw [baseL, key]; simp
theorem base_len (l : List Cp) : (baseL l).length ≤ l.length := by
  have key : ∀ (l out : List Cp), (l.foldl (fun out c => if c.tg then addC out c else out) out).length ≤ out.length + l.length := by
    intro l
    induction l with
    | nil => simp
    | cons c l ih =>
      intro out
      rw [List.foldl_cons]
      have h2 : (if c.tg then addC out c else out).length ≤ out.length + 1 := by
        split
        · obtain ⟨u, e, hu⟩ := addC_pre out c; rw [e, List.length_append]; omega
        · omega
      have := ih (if c.tg then addC out c else out)
      simp only [List.length_cons]; omega
  simpa [baseL] using key l []
/-- Is there one that is not sealed, unseals, and has a type in its bounds? -/
def keyB (out : List Cp) (k : Int) : Bool := out.any (fun x => canD x 256 k)
def opensB (out : List Cp) (c : Cp) : Bool := (c.ty == 262142) || keyB out c.ty
def stepC (out : List Cp) (c : Cp) : List Cp := if opensB out c then addC out (uns c) else out
theorem canD_none (x : Cp) (p : Int) : canD x p 262143 = false := by simp [canD, rngIn, namesB]
theorem opens_unsealed (out : List Cp) (c : Cp) (h : c.sealed = false) : opensB out c = false := by
  have e : c.ty = 262143 := by simpa [Cp.sealed, sealedB] using h
  simp [opensB, keyB, e, canD_none]
theorem step_unsealed (out : List Cp) (c : Cp) (h : c.sealed = false) : stepC out c = out := by simp [stepC, opens_unsealed out c h]
theorem step_there (out : List Cp) (c : Cp) (h : uns c ∈ out) : stepC out c = out := by
  unfold stepC addC; split <;> simp [h]
theorem mem_step (out : List Cp) (c x : Cp) (h : x ∈ out) : x ∈ stepC out c := by
  unfold stepC; split
  · exact (mem_addC _ _ _).2 (Or.inl h)
  · exact h
theorem step_pre (out : List Cp) (c : Cp) : ∃ u, stepC out c = out ++ u ∧ u.length ≤ 1 ∧ ∀ x ∈ u, x = uns c := by
  unfold stepC addC; split
  · split
    · exact ⟨[], by simp, by simp, by simp⟩
    · exact ⟨[uns c], rfl, by simp, by simp⟩
  · exact ⟨[], by simp, by simp, by simp⟩
theorem uns_unsealed (c : Cp) : (uns c).sealed = false := by simp [uns, Cp.sealed, sealedB]
/-- One round. -/
def roundC (bs out : List Cp) : List Cp := bs.foldl stepC out
theorem fold_pre (bs out : List Cp) : ∃ u, roundC bs out = out ++ u ∧ u.length ≤ bs.length ∧ ∀ x ∈ u, x.sealed = false ∧ ∃ c ∈ bs, x = uns c := by
  induction bs generalizing out with
  | nil => exact ⟨[], by simp [roundC], by simp, by simp⟩
  | cons c bs ih =>
    obtain ⟨u, e, hl, hu⟩ := step_pre out c
    obtain ⟨u', e', hl', hu'⟩ := ih (stepC out c)
    refine ⟨u ++ u', ?_, by simp only [List.length_append, List.length_cons]; omega, fun x hx => ?_⟩
    · show roundC bs (stepC out c) = _
      rw [e', e, List.append_assoc]
    · rcases List.mem_append.1 hx with hx | hx
      · rw [hu x hx]; exact ⟨uns_unsealed c, c, by simp, rfl⟩
      · obtain ⟨h1, d, hd, h2⟩ := hu' x hx
        exact ⟨h1, d, by simp [hd], h2⟩
theorem fold_unsealed (bs out : List Cp) (h : ∀ x ∈ bs, x.sealed = false) : roundC bs out = out := by
  induction bs generalizing out with
  | nil => rfl
  | cons c bs ih =>
    show roundC bs (stepC out c) = _
    rw [step_unsealed _ _ (h c (by simp))]; exact ih _ (fun x hx => h x (by simp [hx]))
theorem round_append (ps bs out : List Cp) : roundC (ps ++ bs) out = roundC bs (roundC ps out) := by simp [roundC]
/-- How many of some are not opened yet. -/
def cntU (bs out : List Cp) : Nat := bs.countP (fun c => decide (uns c ∉ out))
theorem countP_le {α : Type} (p q : α → Bool) (l : List α) (h : ∀ x ∈ l, p x = true → q x = true) : l.countP p ≤ l.countP q := by
  induction l with
  | nil => simp
  | cons a l ih =>
    have := ih (fun x hx => h x (by simp [hx]))
    rw [List.countP_cons, List.countP_cons]
    have h2 := h a (by simp)
    cases hp : p a <;> cases hq : q a <;> simp_all <;> omega
theorem countP_lt {α : Type} (p q : α → Bool) (l : List α) (h : ∀ x ∈ l, p x = true → q x = true) (a : α) (ha : a ∈ l) (h1 : q a = true) (h2 : p a = false) : l.countP p < l.countP q := by
  induction l with
  | nil => simp at ha
  | cons b l ih =>
    rw [List.countP_cons, List.countP_cons]
    have hl := countP_le p q l (fun x hx => h x (by simp [hx]))
    rcases List.mem_cons.1 ha with rfl | ha
    · simp [h1, h2]; omega
    · have := ih (fun x hx => h x (by simp [hx])) ha
      have hb := h b (by simp)
      cases hp : p b <;> cases hq : q b <;> simp_all <;> omega
theorem cnt_sub (bs out out' : List Cp) (h : ∀ x ∈ out, x ∈ out') : cntU bs out' ≤ cntU bs out :=
  countP_le _ _ _ (fun x _ hx => by simp only [decide_eq_true_eq] at hx ⊢; exact fun hh => hx (h _ hh))
theorem cnt_new (bs out : List Cp) (c : Cp) (hc : c ∈ bs) (h : uns c ∉ out) : cntU bs (out ++ [uns c]) < cntU bs out :=
  countP_lt _ _ _ (fun x _ hx => by simp only [decide_eq_true_eq] at hx ⊢; exact fun hh => hx (by simp [hh])) c hc (by simpa using h) (by simp)
theorem step_cnt (bs out : List Cp) (c : Cp) (hc : c ∈ bs) : stepC out c = out ∨ (stepC out c).length = out.length + 1 ∧ cntU bs (stepC out c) < cntU bs out := by
  unfold stepC addC; split
  · split
    · exact Or.inl rfl
    · rename_i h; exact Or.inr ⟨by simp, cnt_new bs out c hc h⟩
  · exact Or.inl rfl
theorem round_cnt (bs cs out : List Cp) (hc : ∀ c ∈ cs, c ∈ bs) : roundC cs out = out ∨ (roundC cs out).length + cntU bs (roundC cs out) ≤ out.length + cntU bs out ∧ out.length < (roundC cs out).length ∧ cntU bs (roundC cs out) < cntU bs out := by
  induction cs generalizing out with
  | nil => exact Or.inl rfl
  | cons c cs ih =>
    have hs := step_cnt bs out c (hc c (by simp))
    have hi := ih (stepC out c) (fun x hx => hc x (by simp [hx]))
    show roundC cs (stepC out c) = out ∨ _ 
    change _ ∨ (roundC cs (stepC out c)).length + cntU bs (roundC cs (stepC out c)) ≤ out.length + cntU bs out ∧ out.length < (roundC cs (stepC out c)).length ∧ cntU bs (roundC cs (stepC out c)) < cntU bs out
    rcases hs with e | ⟨h1, h2⟩
    · rw [e] at hi ⊢; exact hi
    · right
      rcases hi with e | ⟨h3, h4, h5⟩
      · rw [e]; omega
      · omega
/-- So many rounds. -/
def rounds (bs : List Cp) : Nat → List Cp
  | 0 => bs
  | n + 1 => roundC bs (rounds bs n)
/-- The closure: what the first round that brings nothing new leaves. -/
def IsClo (l out : List Cp) : Prop := (∃ n, out = rounds (baseL l) n) ∧ roundC (baseL l) out = out
theorem rounds_stay (bs : List Cp) (n : Nat) (h : roundC bs (rounds bs n) = rounds bs n) (k : Nat) : rounds bs (n + k) = rounds bs n := by
  induction k with
  | zero => rfl
  | succ k ih => show roundC bs (rounds bs (n + k)) = _; rw [ih, h]
theorem IsClo.one {l a b : List Cp} (ha : IsClo l a) (hb : IsClo l b) : a = b := by
  obtain ⟨⟨n, rfl⟩, h1⟩ := ha
  obtain ⟨⟨m, rfl⟩, h2⟩ := hb
  rcases Nat.le_total n m with h | h
  · obtain ⟨k, rfl⟩ := Nat.exists_eq_add_of_le h; exact (rounds_stay _ _ h1 k).symm
  · obtain ⟨k, rfl⟩ := Nat.exists_eq_add_of_le h; exact rounds_stay _ _ h2 k
/-- What holds of every list on the way: the base, and unsealed forms of it; each with a tag; no longer than twice the base. -/
structure Grown6 (bs out : List Cp) : Prop where
  pre : ∃ u, out = bs ++ u ∧ ∀ x ∈ u, x.sealed = false ∧ ∃ c ∈ bs, x = uns c
  len : out.length + cntU bs out ≤ bs.length + bs.length
theorem cnt_le (bs out : List Cp) : cntU bs out ≤ bs.length := List.countP_le_length
theorem Grown6.refl (bs : List Cp) : Grown6 bs bs := ⟨⟨[], by simp, by simp⟩, by have := cnt_le bs bs; omega⟩
theorem Grown6.round {bs out : List Cp} (h : Grown6 bs out) (cs : List Cp) (hc : ∀ c ∈ cs, c ∈ bs) : Grown6 bs (roundC cs out) := by
  obtain ⟨⟨u, e, hu⟩, hl⟩ := h
  obtain ⟨u', e', _, hu'⟩ := fold_pre cs out
  refine ⟨⟨u ++ u', by rw [e', e, List.append_assoc], fun x hx => ?_⟩, ?_⟩
  · rcases List.mem_append.1 hx with hx | hx
    · exact hu x hx
    · obtain ⟨h1, d, hd, h2⟩ := hu' x hx; exact ⟨h1, d, hc d hd, h2⟩
  · rcases round_cnt bs cs out hc with e | ⟨h, _⟩
    · rw [e]; exact hl
    · omega
theorem Grown6.step {bs out : List Cp} (h : Grown6 bs out) (c : Cp) (hc : c ∈ bs) : Grown6 bs (stepC out c) := h.round [c] (by simpa using hc)
theorem Grown6.rounds (bs : List Cp) (n : Nat) : Grown6 bs (rounds bs n) := by
  induction n with
  | zero => exact Grown6.refl bs
  | succ n ih => exact ih.round bs (fun _ h => h)
theorem Grown6.mem {bs out : List Cp} (h : Grown6 bs out) (x : Cp) (hx : x ∈ out) : x ∈ bs ∨ (x.sealed = false ∧ ∃ c ∈ bs, x = uns c) := by
  obtain ⟨⟨u, e, hu⟩, _⟩ := h
  rw [e] at hx
  exact (List.mem_append.1 hx).imp id (hu x)
/-- A round through all there is is a round through the base. -/
theorem Grown6.all {bs out : List Cp} (h : Grown6 bs out) (X : List Cp) : roundC out X = roundC bs X := by
  obtain ⟨⟨u, e, hu⟩, _⟩ := h
  rw [e, round_append, fold_unsealed _ _ (fun x hx => (hu x hx).1)]
/-- Of a base some may be left out: what is not sealed, and what has been opened. -/
inductive Skip (out : List Cp) : List Cp → List Cp → Prop
  | nil : Skip out [] []
  | keep (c : Cp) {bs cs : List Cp} : Skip out bs cs → Skip out (c :: bs) (c :: cs)
  | drop (c : Cp) {bs cs : List Cp} : (c.sealed = false ∨ uns c ∈ out) → Skip out bs cs → Skip out (c :: bs) cs
theorem Skip.mono {out out' bs cs : List Cp} (h : Skip out bs cs) (k : ∀ x ∈ out, x ∈ out') : Skip out' bs cs := by
  induction h with
  | nil => exact .nil
  | keep c _ ih => exact .keep c ih
  | drop c h _ ih => exact .drop c (h.imp id (k _)) ih
theorem Skip.round {out bs cs : List Cp} (h : Skip out bs cs) (X : List Cp) (k : ∀ x ∈ out, x ∈ X) : roundC bs X = roundC cs X := by
  induction h generalizing X with
  | nil => rfl
  | keep c _ ih => exact ih _ (fun x hx => mem_step _ _ _ (k x hx))
  | @drop c bs cs h _ ih =>
    show roundC bs (stepC X c) = _
    have e : stepC X c = X := by
      rcases h with h | h
      · exact step_unsealed _ _ h
      · exact step_there _ _ (k _ h)
    rw [e]; exact ih X k
theorem Skip.out_ {out bs : List Cp} (ps : List Cp) (c : Cp) (cs : List Cp) (h : Skip out bs (ps ++ c :: cs)) (k : uns c ∈ out) : Skip out bs (ps ++ cs) := by
  generalize hl : ps ++ c :: cs = l at h
  induction h generalizing ps with
  | nil => simp at hl
  | keep d h ih =>
    cases ps with
    | nil => simp only [List.nil_append, List.cons.injEq] at hl; obtain ⟨rfl, rfl⟩ := hl; exact .drop _ (Or.inr k) h
    | cons a ps => simp only [List.cons_append, List.cons.injEq] at hl; obtain ⟨rfl, rfl⟩ := hl; exact .keep _ (ih ps rfl)
  | drop d hd h ih => exact .drop d hd (ih ps hl)
theorem Skip.mem {out bs cs : List Cp} (h : Skip out bs cs) : ∀ c ∈ cs, c ∈ bs := by
  induction h with
  | nil => simp
  | keep c _ ih => intro x hx; rcases List.mem_cons.1 hx with rfl | hx; simp; simp [ih x hx]
  | drop c _ _ ih => intro x hx; simp [ih x hx]
theorem Skip.sealed (out bs : List Cp) : Skip out bs (bs.filter Cp.sealed) := by
  induction bs with
  | nil => exact .nil
  | cons c bs ih =>
    cases h : c.sealed
    · rw [List.filter_cons_of_neg (by simp [h])]; exact .drop c (Or.inl h) ih
    · rw [List.filter_cons_of_pos h]; exact .keep c ih
end Go.Proofs.Ytkddgjaflcjhiaa
namespace Go.Proofs.Ytkddgjaflcjhiaa
open Go.ChangeShapes Go.WideShapes Go.ChangeAt Go.RowKit Go.Maps
set_option linter.unusedVariables false
set_option linter.unusedSimpArgs false

theorem capKeyed : Keyed Try.prog 25 :=
  Keyed.of_law (deep_law_laid (m := 3) (by kernel_rfl) (by omega) (of_decide_eq_true (by kernel_rfl)) (by kernel_rfl) (by rw [Try.underlying25]))
theorem capCells : Try.prog.cellsOf 25 = 9 := by kernel_rfl
/-- What a capability reads as. -/
def capD (c : Cp) : DataW Unit := .agg [.lit (.bool c.tg), .lit (.int .i64 c.pe), .lit (.int .i64 c.ty), .lit (.int .i64 c.mo), .lit (.int .i64 c.e), .lit (.int .i64 c.b), .lit (.int .i64 c.t), .lit (.bool c.g), .lit (.int .u64 c.a)]
def kl (c : Cp) : Lit := (capD c).asKey
theorem wf_i {x : Int} (h : -9223372036854775808 ≤ x) (h2 : x < 9223372036854775808) : (Lit.int .i64 x).wf = true := by
  have hm0 : IntKind.i64.min = -9223372036854775808 := rfl
  have hm1 : IntKind.i64.max = 9223372036854775807 := rfl
  simp only [Lit.wf, Bool.and_eq_true, decide_eq_true_eq, hm0, hm1]; omega
theorem wf_u {x : Int} (h : 0 ≤ x) (h2 : x < 18446744073709551616) : (Lit.int .u64 x).wf = true := by
  have hm0 : IntKind.u64.min = 0 := rfl
  have hm1 : IntKind.u64.max = 18446744073709551615 := rfl
  simp only [Lit.wf, Bool.and_eq_true, decide_eq_true_eq, hm0, hm1]; omega
theorem keyCap (w : World) (c : Cp) (h : RC c) : keyOf Try.prog 25 (.agg #[c.tg, c.pe, c.ty, c.mo, c.e, c.b, c.t, c.g, .int .u64 c.a]) = some (kl c) := by
  have f := h.f
  have w1 := wf_i (x := c.pe) (by have := h.p0; omega) (by have := h.p1; omega)
  have w2 := wf_i (x := c.ty) (by have := h.y0; omega) (by have := h.y1; omega)
  have w3 := wf_i (x := c.mo) (by have := h.o0; omega) (by have := h.o1; omega)
  have w4 := wf_i (x := c.e) (by have := f.e0; omega) (by have := f.e1; omega)
  have w5 := wf_i (x := c.b) (by have := f.b0; omega) (by have := f.b1; omega)
  have w6 := wf_i (x := c.t) (by have := f.t0; omega) (by have := f.t1; omega)
  have w8 := wf_u (x := c.a) f.a0 f.a1
  have hr : DataW.Trod (fun _ => ()) Try.prog w 0 (fun _ => true) true 25 (.agg #[c.tg, c.pe, c.ty, c.mo, c.e, c.b, c.t, c.g, .int .u64 c.a]) (capD c) [] := by
    exact shut_agg9 (y0 := (.lit (.bool c.tg), [])) (y1 := (.lit (.int .i64 c.pe), [])) (y2 := (.lit (.int .i64 c.ty), [])) (y3 := (.lit (.int .i64 c.mo), [])) (y4 := (.lit (.int .i64 c.e), [])) (y5 := (.lit (.int .i64 c.b), [])) (y6 := (.lit (.int .i64 c.t), [])) (y7 := (.lit (.bool c.g), [])) (y8 := (.lit (.int .u64 c.a), []))
      Try.underlying25 (by kernel_rfl) capCells ⟨1, by simp [DataW.trod, Try.underlying4]⟩ ⟨1, by simp [DataW.trod, Try.underlying3, w1]⟩ ⟨1, by simp [DataW.trod, Try.underlying3, w2]⟩ ⟨1, by simp [DataW.trod, Try.underlying3, w3]⟩ ⟨1, by simp [DataW.trod, Try.underlying3, w4]⟩ ⟨1, by simp [DataW.trod, Try.underlying3, w5]⟩ ⟨1, by simp [DataW.trod, Try.underlying3, w6]⟩ ⟨1, by simp [DataW.trod, Try.underlying4]⟩ ⟨1, by simp [DataW.trod, Try.underlying23, w8]⟩
  exact (keyOf_asKey (by kernel_rfl) (by rw [Try.underlying25]) (by simp [Value.formed, Try.underlying25, capCells]) hr).1
theorem kl_inj (w : World) (x y : Cp) (hx : RC x) (hy : RC y) (h : kl x = kl y) : x = y := by
  have e := capKeyed.inj (keyCap w x hx) (h ▸ keyCap w y hy)
  rw [Cp.ext_iff']
  simpa [and_assoc] using e
/-- The map in block mb holds just these capabilities. -/
def MS (w : World) (mb : Nat) (L : List Cp) : Prop := ∃ n D, w.ownsMap Try.prog 25 (unitElem (H := Unit)) mb n D ∧ n ≤ L.length ∧ ∀ x, RC x → Maps.has D (kl x) = decide (x ∈ L)
theorem MS.made (w : World) : MS (w.alloc (.map #[] 0)) w.heap.size [] := ⟨0, _, World.ownsMap_made w _ _ _, Nat.le_refl _, fun x _ => by simp [Maps.has]⟩
theorem MS.lt {w : World} {mb : Nat} {L : List Cp} (h : MS w mb L) : mb < w.heap.size := by obtain ⟨n, D, o, _⟩ := h; exact o.lt
theorem MS.block {w w' : World} {mb : Nat} {L : List Cp} (h : MS w mb L) (e : w'.heap[mb]? = w.heap[mb]?) : MS w' mb L := by
  obtain ⟨n, D, ⟨es, clock, hb, r⟩, k⟩ := h
  exact ⟨n, D, ⟨es, clock, e.trans hb, r⟩, k⟩
theorem MS.drew {w : World} {mb : Nat} {L : List Cp} (h : MS w mb L) : MS w.drew mb L := h
theorem MS.alloc {w : World} {mb : Nat} {L : List Cp} (h : MS w mb L) (o : Obj) : MS (w.alloc o) mb L := h.block (heap_alloc_old w o h.lt)
theorem MS.setCell {w : World} {mb : Nat} {L : List Cp} (h : MS w mb L) {p : Addr} (hp : mb ≠ p.block) (u : Value) : MS (w.setCell p u) mb L := h.block (Below.heap_setCell w p u mb hp)
/-- Whether it has one. -/
theorem MS.look {w : World} {mb : Nat} {L : List Cp} (h : MS w mb L) (x : Cp) (hx : RC x) (v : Bool) (hv : decide (x ∈ L) = v) :
    (Instr.lookup 53 (.map (some mb)) (.agg #[x.tg, x.pe, x.ty, x.mo, x.e, x.b, x.t, x.g, .int .u64 x.a]) true).run Try.prog w = .ok (.tuple #[.agg #[], v]) w := by
  obtain ⟨n, D, o, _, hh⟩ := h
  obtain ⟨u, ps, hr, hu⟩ := o.look_ok capKeyed Try.underlying53 (z := .agg #[]) (by kernel_rfl) (unitElem_mk) (keyCap w x hx)
  obtain ⟨rfl, _⟩ := unitElem_inv hu
  rw [hr, hh x hx, hv]
/-- One more. -/
theorem MS.put {w : World} {mb : Nat} {L : List Cp} (h : MS w mb L) (x : Cp) (hx : RC x) (hl : L.length < 1000000) :
    ∃ w', (Instr.mapUpdate 53 (.map (some mb)) (.agg #[x.tg, x.pe, x.ty, x.mo, x.e, x.b, x.t, x.g, .int .u64 x.a]) (.agg #[])).run Try.prog w = .ok () w' ∧ MS w' mb (L ++ [x]) ∧ w.mapTurned w' mb := by
  obtain ⟨n, D, o, hn, hh⟩ := h
  obtain ⟨w', hr, o', ht⟩ := o.store capKeyed Try.underlying53 (by unfold maxLen; omega) (keyCap w x hx) (unitElem_mk)
  refine ⟨w', hr, ⟨n + 1, _, o', by simp; omega, fun y hy => ?_⟩, ht⟩
  by_cases e : y = x
  · subst e
    rw [has_put_same o.isMap (capKeyed.key (keyCap w y hy))]; simp
  · rw [has_put_other (fun h => e (kl_inj w _ _ hy hx h)), hh y hy]; simp [e]
end Go.Proofs.Ytkddgjaflcjhiaa
namespace Go.Proofs.Ytkddgjaflcjhiaa
open Go.ChangeShapes Go.WideShapes Go.ChangeAt Go.RowKit
set_option linter.unusedVariables false
set_option linter.unusedSimpArgs false

/-- Nothing has turned but blocks of a set, and what is new. -/
structure Fr (w w' : World) (S : Nat → Prop) : Prop where
  os : w'.os = w.os
  tape : w'.tape = w.tape
  output : w'.output = w.output
  size : w.heap.size ≤ w'.heap.size
  block : ∀ k, k < w.heap.size → ¬ S k → w'.heap[k]? = w.heap[k]?
theorem Fr.refl (w : World) (S : Nat → Prop) : Fr w w S := ⟨rfl, rfl, rfl, Nat.le_refl _, fun _ _ _ => rfl⟩
theorem Fr.trans {a b c : World} {S T : Nat → Prop} (h : Fr a b S) (k : Fr b c T) (hT : ∀ i, i < a.heap.size → T i → S i) : Fr a c S :=
  ⟨k.os.trans h.os, k.tape.trans h.tape, k.output.trans h.output, Nat.le_trans h.size k.size, fun i hi hS =>
    (k.block i (Nat.lt_of_lt_of_le hi h.size) (fun ht => hS (hT i hi ht))).trans (h.block i hi hS)⟩
theorem Fr.mono {a b : World} {S T : Nat → Prop} (h : Fr a b S) (hT : ∀ i, i < a.heap.size → S i → T i) : Fr a b T :=
  ⟨h.os, h.tape, h.output, h.size, fun i hi ht => h.block i hi (fun hs => ht (hT i hi hs))⟩
theorem Fr.drew {a b : World} {S : Nat → Prop} (h : Fr a b S) : Fr a b.drew S := ⟨h.os, h.tape, h.output, h.size, h.block⟩
theorem Fr.drewN {a b : World} {S : Nat → Prop} (h : Fr a b S) (n : Nat) : Fr a (b.drewN n) S := ⟨h.os, h.tape, h.output, h.size, h.block⟩
theorem Fr.alloc {a b : World} {S : Nat → Prop} (h : Fr a b S) (o : Obj) : Fr a (b.alloc o) S :=
  ⟨h.os, h.tape, h.output, by simpa using Nat.le_succ_of_le h.size, fun i hi hs => (heap_alloc_old b o (Nat.lt_of_lt_of_le hi h.size)).trans (h.block i hi hs)⟩
theorem Fr.setCell {a b : World} {S : Nat → Prop} (h : Fr a b S) {p : Addr} (hp : a.heap.size ≤ p.block ∨ S p.block) (u : Value) : Fr a (b.setCell p u) S :=
  ⟨h.os, h.tape, h.output, by simpa [World.setCell] using h.size, fun i hi hs => by
    rw [Below.heap_setCell b p u i (by rintro rfl; rcases hp with q | q; omega; exact hs q)]; exact h.block i hi hs⟩
theorem Fr.below {a b c : World} {S : Nat → Prop} {n : Nat} (h : Fr a b S) (k : Below n b c) (hn : ∀ i, i < a.heap.size → ¬ S i → i < n) : Fr a c S :=
  ⟨k.os.trans h.os, k.tape.trans h.tape, k.output.trans h.output, Nat.le_trans h.size k.size, fun i hi hs => (k.block i (hn i hi hs)).trans (h.block i hi hs)⟩
theorem Fr.kp {a b c : World} {S : Nat → Prop} (h : Fr a b S) (k : Kp b c) : Fr a c S := h.below k.1 (fun i hi _ => Nat.lt_of_lt_of_le hi h.size)
theorem Fr.grown {a b c : World} {S : Nat → Prop} {row : Option Nat} (h : Fr a b S) (k : b.grownBy c row) (hr : ∀ g, row = some g → a.heap.size ≤ g ∨ S g) : Fr a c S :=
  ⟨k.os.trans h.os, k.tape.trans h.tape, k.output.trans h.output, Nat.le_trans h.size k.size, fun i hi hs =>
    (k.block i (Nat.lt_of_lt_of_le hi h.size) (fun e => by rcases hr i e.symm with q | q; omega; exact hs q)).trans (h.block i hi hs)⟩
theorem Fr.turned {a b c : World} {S : Nat → Prop} {m : Nat} (h : Fr a b S) (k : b.mapTurned c m) (hr : a.heap.size ≤ m ∨ S m) : Fr a c S := h.grown k.grown (fun g e => by cases e; exact hr)
theorem Fr.of_kp {a b : World} (k : Kp a b) (S : Nat → Prop) : Fr a b S := (Fr.refl a S).kp k
/-- Nothing that was there has turned. -/
theorem Fr.bl {a b : World} {S : Nat → Prop} {n : Nat} (h : Fr a b S) (hn : n ≤ a.heap.size) (hS : ∀ i, S i → n ≤ i) : Below n a b :=
  ⟨h.os, h.tape, h.output, h.size, fun i hi => h.block i (Nat.lt_of_lt_of_le hi hn) (fun s => by have := hS i s; omega)⟩

/-- A block that is known whole. -/
def Blk (w : World) (g : Nat) (t : TypeId) (cs : List Value) : Prop := w.heap[g]? = some (.cells cs.toArray t (0, 0))
theorem Blk.lt {w : World} {g : Nat} {t : TypeId} {cs : List Value} (h : Blk w g t cs) : g < w.heap.size := by
  rcases Nat.lt_or_ge g w.heap.size with hlt | hge
  · exact hlt
  · unfold Blk at h; rw [Array.getElem?_eq_none hge] at h; cases h
theorem Blk.at_ {w : World} {g : Nat} {t : TypeId} {cs : List Value} (h : Blk w g t cs) : At g cs w := fun i v hi => by
  rw [cell_of_row w g i _ t (0, 0) h]; simpa using hi
theorem Blk.frozen {w : World} {g : Nat} {t : TypeId} {cs : List Value} (h : Blk w g t cs) (i : Nat) : w.frozen? ⟨g, i, none⟩ = false := by
  unfold Blk at h
  simp [World.frozen?, h]
theorem Blk.new (w : World) (t : TypeId) (cs : List Value) : Blk (w.alloc (.cells cs.toArray t)) w.heap.size t cs := heap_alloc_new w _
theorem Blk.block {w w' : World} {g : Nat} {t : TypeId} {cs : List Value} (h : Blk w g t cs) (e : w'.heap[g]? = w.heap[g]?) : Blk w' g t cs := e.trans h
theorem Blk.fr {w w' : World} {S : Nat → Prop} {g : Nat} {t : TypeId} {cs : List Value} (h : Blk w g t cs) (k : Fr w w' S) (hg : ¬ S g) : Blk w' g t cs := h.block (k.block g h.lt hg)
theorem Blk.drew {w : World} {g : Nat} {t : TypeId} {cs : List Value} (h : Blk w g t cs) : Blk w.drew g t cs := h
theorem Blk.alloc {w : World} {g : Nat} {t : TypeId} {cs : List Value} (h : Blk w g t cs) (o : Obj) : Blk (w.alloc o) g t cs := h.block (heap_alloc_old w o h.lt)
theorem Blk.set_ {w : World} {g : Nat} {t : TypeId} {cs : List Value} (h : Blk w g t cs) (i : Nat) (u : Value) : Blk (w.setCell ⟨g, i, none⟩ u) g t (cs.set i u) := by
  unfold Blk at h ⊢
  simp [World.setCell, Array.getElem?_modify, h]
theorem Blk.far {w : World} {g : Nat} {t : TypeId} {cs : List Value} (h : Blk w g t cs) {p : Addr} (hp : g ≠ p.block) (u : Value) : Blk (w.setCell p u) g t cs := h.block (Below.heap_setCell w p u g hp)
theorem Blk.ne_ {w : World} {g g' : Nat} {t t' : TypeId} {cs cs' : List Value} (h : Blk w g t cs) (h' : Blk w g' t' cs') (hne : t ≠ t') : g ≠ g' := by
  rintro rfl
  unfold Blk at h h'
  rw [h] at h'
  injection h' with h'
  injection h' with _ ht
  exact hne ht
theorem MS.blk_ne {w : World} {g mb : Nat} {t : TypeId} {cs : List Value} {L : List Cp} (h : Blk w g t cs) (m : MS w mb L) : g ≠ mb := by
  rintro rfl
  obtain ⟨n, D, ⟨es, clock, hb, _⟩, _⟩ := m
  unfold Blk at h
  rw [h] at hb; cases hb
section
variable {w w' : World} {B : Nat} {e e' : TypeId} {size n n' : Nat} {v v' : Value} {xs xs' : List Value}
theorem own_blk {g : Nat} {t : TypeId} {cs : List Value} (h : w.ownsRow B e size v n xs) (hg : Blk w g t cs) (hne : e ≠ t) : v.ownBlock ≠ some g := by
  rcases h.2 with ⟨rfl, _⟩ | ⟨g', cap, cur, rfl, _, hh, _⟩
  · simp [Value.ownBlock]
  · intro he
    have : g' = g := by simpa [Value.ownBlock] using he
    subst this
    have hh' : Blk w g' e cur.toList := hh
    exact Blk.ne_ hh' hg hne rfl
theorem own_map {mb : Nat} {L : List Cp} (h : w.ownsRow B e size v n xs) (hm : MS w mb L) : v.ownBlock ≠ some mb := by
  rcases h.2 with ⟨rfl, _⟩ | ⟨g', cap, cur, rfl, _, hh, _⟩
  · simp [Value.ownBlock]
  · intro he
    have : g' = mb := by simpa [Value.ownBlock] using he
    subst this
    have hh' : Blk w g' e cur.toList := hh
    exact MS.blk_ne hh' hm rfl
theorem own_own (h : w.ownsRow B e size v n xs) {g : Nat} (hg : v.ownBlock = some g) {B' size' : Nat} (h' : w.ownsRow B' e' size' v' n' xs') (hne : e ≠ e') : v'.ownBlock ≠ some g := by
  rcases h.2 with ⟨rfl, _⟩ | ⟨g', cap, cur, rfl, _, hh, _⟩
  · simp [Value.ownBlock] at hg
  · have : g' = g := by simpa [Value.ownBlock] using hg
    subst this
    have hh' : Blk w g' e cur.toList := hh
    exact own_blk h' hh' (Ne.symm hne)
theorem own_fr {S : Nat → Prop} (h : w.ownsRow B e size v n xs) (k : Fr w w' S) (hS : ∀ g, v.ownBlock = some g → ¬ S g) : w'.ownsRow B e size v n xs := by
  refine ⟨h.1, ?_⟩
  rcases h.2 with hn | ⟨g, cap, cur, rfl, hb, hgg, rest⟩
  · exact .inl hn
  · refine .inr ⟨g, cap, cur, rfl, hb, ?_, rest⟩
    rw [k.block g (Array.getElem?_eq_some_iff.1 hgg).1 (hS g rfl)]
    exact hgg
end
theorem MS.fr {w w' : World} {S : Nat → Prop} {mb : Nat} {L : List Cp} (h : MS w mb L) (k : Fr w w' S) (hS : ¬ S mb) : MS w' mb L := h.block (k.block mb h.lt hS)

def vsL (L : List Cp) : List Value := L.flatMap Cp.vs
theorem vsL_len (L : List Cp) : (vsL L).length = L.length * 9 := by
  induction L with
  | nil => rfl
  | cons c L ih => simp only [vsL, List.flatMap_cons, List.length_append, List.length_cons] at ih ⊢; rw [ih, Cp.vs_len]; omega
theorem vsL_snoc (L : List Cp) (c : Cp) : vsL (L ++ [c]) = vsL L ++ c.vs := by simp [vsL]
theorem vsL_at (L : List Cp) (i : Nat) (c : Cp) (h : L[i]? = some c) (k : Nat) (v : Value) (hk : c.vs[k]? = some v) : (vsL L)[i * 9 + k]? = some v := by
  induction L generalizing i with
  | nil => simp at h
  | cons d L ih =>
    have e : vsL (d :: L) = d.vs ++ vsL L := rfl
    rw [e]
    cases i with
    | zero =>
      simp only [List.getElem?_cons_zero, Option.some.injEq] at h
      subst h
      have hl : k < d.vs.length := (List.getElem?_eq_some_iff.1 hk).1
      rw [List.getElem?_append_left (by omega)]; simpa using hk
    | succ i =>
      rw [List.getElem?_append_right (by rw [Cp.vs_len]; omega), Cp.vs_len]
      have := ih i (by simpa using h)
      rw [show (i + 1) * 9 + k - 9 = i * 9 + k by omega]; exact this
/-- A slice of capabilities of the call's own. -/
abbrev OwnC (w : World) (B : Nat) (v : Value) (L : List Cp) : Prop := w.ownsRow B 25 9 v L.length (vsL L)
theorem OwnC.nil (w : World) (B : Nat) : OwnC w B (.slice none 0 0) [] := World.ownsRow_nil w B _ 9
theorem OwnC.rd {w : World} {B : Nat} {v : Value} {L : List Cp} (h : OwnC w B v L) : ∃ A cap, v = .slice A L.length cap ∧ L.length ≤ cap ∧ Rd w w.heap.size A L ∧ (∀ b o s, A = some ⟨b, o, s⟩ → v.ownBlock = some b ∧ o = 0 ∧ s = none) := by
  rcases h.2 with ⟨rfl, h0⟩ | ⟨g, cap, cur, rfl, hb, hg, hc, _⟩
  · have : L = [] := List.eq_nil_of_length_eq_zero h0
    subst this
    exact ⟨none, 0, rfl, Nat.le_refl _, Rd.nil _ _ _, fun b o s e => by cases e⟩
  · refine ⟨_, cap, rfl, hc, fun hn => ⟨g, 0, rfl, ?_, fun i c hi k v hk => ?_⟩, fun b o s e => by cases e; exact ⟨rfl, rfl, rfl⟩⟩
    · rcases Nat.lt_or_ge g w.heap.size with hlt | hge
      · exact hlt
      · rw [Array.getElem?_eq_none hge] at hg; cases hg
    · have := h.cells (g := g) rfl _ _ (vsL_at L i c hi k v hk)
      rw [Addr.add_lit] at this
      rw [← this]; congr 2; omega
theorem cap_info : (Try.prog.info? 25).map (fun i => (i.zero, i.size, i.bytes)) = some (some (.agg #[false, (), (), (), (), (), (), false, .int .u64 0]), 9, 72) := by kernel_rfl
theorem vs_one (c : Cp) : ∀ u ∈ c.vs, u.oneCell' = true := by
  intro u hu
  simp only [Cp.vs, List.mem_cons, List.not_mem_nil, or_false] at hu
  rcases hu with rfl | rfl | rfl | rfl | rfl | rfl | rfl | rfl | rfl <;> rfl
/-- append of one capability: in a plain region. -/
theorem app_c {w : World} {ops : Array Oper} {rest : List Oper} {o : Oper} {a : Act} {Q : Exit → Act → World → Prop} (hgd : o.guard = none) (s x : Operand)
    (ho : o.op = .call { callee := .builtin .append, args := #[s, x], argTypes := #[29, 29] }) (B : Nat) (v : Value) (L : List Cp) (hs : a.eval s = v) (hown : OwnC w B v L)
    (ad : Addr) (c : Nat) (d : Cp) (hx : a.eval x = .slice (some ad) 1 c) (hnews : ∀ j u, d.vs[j]? = some u → w.cell? (ad.add j) = some u) (hl : L.length < 1000000) (hbase : B ≤ w.heap.size) (H : Nat) (hH : w.heap.size = H)
    (h : ∀ g cap w', OwnC w' B (.slice (some ⟨g, 0, none⟩) (L.length + 1) cap) (L ++ [d]) → w.grownBy w' v.ownBlock → (v.ownBlock = some g ∨ g = H) → g < w'.heap.size → wpList Try.prog ops Q rest (a.put o.dst (.slice (some ⟨g, 0, none⟩) (L.length + 1) cap)) w') :
    wpList Try.prog ops Q (o :: rest) a w := by
  obtain ⟨i0, hi, hz0, hz1, hz2⟩ := info_parts cap_info
  refine wpList_append_lies w hgd s x _ ho B _ i0 _ 9 72 Try.underlying29 hi hz0 hz1 hz2 rfl (by omega) v L.length (vsL L) hs hown ad 1 c d.vs hx rfl hnews (vs_one d) (by omega) (by unfold maxLen; omega) (by omega) hbase H hH ?_
  intro g cap w1 hown1 hg h1 h2
  exact h g cap w1 (by unfold OwnC; rw [vsL_snoc, List.length_append]; exact hown1) hg h1 h2
/-- The same at a step of a region that draws its order. -/
theorem app_cs {w : World} {ops : Array Oper} {o : Oper} {a : Act} {K : Act → World → Prop} {Q : Exit → Act → World → Prop} {E : Prop} (hgd : o.guard = none) (s x : Operand)
    (ho : o.op = .call { callee := .builtin .append, args := #[s, x], argTypes := #[29, 29] }) (B : Nat) (v : Value) (L : List Cp) (hs : a.eval s = v) (hown : OwnC w B v L)
    (ad : Addr) (c : Nat) (d : Cp) (hx : a.eval x = .slice (some ad) 1 c) (hnews : ∀ j u, d.vs[j]? = some u → w.cell? (ad.add j) = some u) (hl : L.length < 1000000) (hbase : B ≤ w.heap.size) (H : Nat) (hH : w.heap.size = H)
    (h : ∀ g cap w', OwnC w' B (.slice (some ⟨g, 0, none⟩) (L.length + 1) cap) (L ++ [d]) → w.grownBy w' v.ownBlock → (v.ownBlock = some g ∨ g = H) → g < w'.heap.size → K (a.put o.dst (.slice (some ⟨g, 0, none⟩) (L.length + 1) cap)) w') :
    if Region.wanted o (yielded ops a.tmps) = true then Oper.wp Try.prog o a w K Q else E := by
  obtain ⟨i0, hi, hz0, hz1, hz2⟩ := info_parts cap_info
  refine step_append_lies w hgd s x _ ho B _ i0 _ 9 72 Try.underlying29 hi hz0 hz1 hz2 rfl (by omega) v L.length (vsL L) hs hown ad 1 c d.vs hx rfl hnews (vs_one d) (by omega) (by unfold maxLen; omega) (by omega) hbase H hH ?_
  intro g cap w1 hown1 hg h1 h2
  exact h g cap w1 (by unfold OwnC; rw [vsL_snoc, List.length_append]; exact hown1) hg h1 h2
end Go.Proofs.Ytkddgjaflcjhiaa
namespace Go.Proofs.Ytkddgjaflcjhiaa
open Go.ChangeShapes Go.WideShapes Go.ChangeAt Go.RowKit
set_option linter.unusedVariables false
set_option linter.unusedSimpArgs false

/-- What a closing call leaves: the closure, in new memory; nothing that was there has turned. -/
def CloPost (l : List Cp) (w : World) (e : Ending) (w' : World) : Prop := ∃ v out, e = .returned v ∧ IsClo l out ∧ OwnC w' w.heap.size v out ∧ Below w.heap.size w w'
def sliceLen : Value → Nat
  | .slice _ n _ => n
  | _ => 0
theorem Grown6.part {bs out : List Cp} (h : Grown6 bs out) (k : Nat) : Grown6 bs (roundC (out.take k) out) := by
  obtain ⟨⟨u, e, hu⟩, _⟩ := id h
  have e2 : roundC (out.take k) out = roundC (bs.take k) out := by
    have : out.take k = bs.take k ++ u.take (k - bs.length) := by rw [e, List.take_append]
    rw [this, round_append, fold_unsealed _ _ (fun x hx => (hu x (List.mem_of_mem_take hx)).1)]
  rw [e2]
  exact h.round _ (fun c hc => List.mem_of_mem_take hc)
theorem inner_step {bs out cur : List Cp} (h : Grown6 bs out) (k : Nat) (c : Cp) (hcur : cur = roundC (out.take k) out) (hc : cur[k]? = some c) : roundC (out.take (k + 1)) out = stepC cur c := by
  obtain ⟨u, e, _, hu⟩ := fold_pre (out.take k) out
  by_cases hk : k < out.length
  · have h1 : out[k]? = some c := by
      rw [hcur, e, List.getElem?_append_left hk] at hc; exact hc
    rw [hcur]; exact foldl_take _ _ _ _ _ h1
  · have h1 : out.take (k + 1) = out.take k := by rw [List.take_of_length_le (by omega), List.take_of_length_le (by omega)]
    rw [h1, ← hcur]
    rw [hcur, e, List.getElem?_append_right (by omega)] at hc
    exact (step_unsealed _ _ (hu c (List.mem_of_getElem? hc)).1).symm
/-- Right ones, each with a tag. -/
def AllT (L : List Cp) : Prop := ∀ c ∈ L, RC c ∧ c.tg = true
theorem base_all (l : List Cp) (h : ∀ c ∈ l, RC c) : AllT (baseL l) := fun c hc => by
  obtain ⟨h1, h2⟩ := (base_mem l c).1 hc; exact ⟨h c h1, h2⟩
theorem Grown6.all_ {bs out : List Cp} (h : Grown6 bs out) (hb : AllT bs) : AllT out := fun x hx => by
  rcases h.mem x hx with hx | ⟨_, c, hc, e⟩
  · exact hb x hx
  · subst e; exact ⟨(hb c hc).1.uns, (hb c hc).2⟩
theorem key_with (L : List Cp) (h : AllT L) (p k : Int) : L.any (fun x => x.tg && canD x p k) = L.any (fun x => canD x p k) := by
  rw [Bool.eq_iff_iff, List.any_eq_true, List.any_eq_true]
  exact ⟨fun ⟨x, hx, e⟩ => ⟨x, hx, by simpa [(h x hx).2] using e⟩, fun ⟨x, hx, e⟩ => ⟨x, hx, by simp [(h x hx).2, e]⟩⟩
theorem OwnC.fr {w w' : World} {B : Nat} {v : Value} {L : List Cp} {S : Nat → Prop} (h : OwnC w B v L) (k : Fr w w' S) (hS : ∀ g, v.ownBlock = some g → ¬ S g) : OwnC w' B v L := own_fr h k hS
theorem OwnC.kp {w w' : World} {B : Nat} {v : Value} {L : List Cp} (h : OwnC w B v L) (k : Kp w w') : OwnC w' B v L := own_fr h (Fr.of_kp k (fun _ => False)) (fun _ _ h => h)
theorem OwnC.set {w : World} {B : Nat} {v : Value} {L : List Cp} (h : OwnC w B v L) (p : Addr) (u : Value) (hp : ∀ g, v.ownBlock = some g → g ≠ p.block) : OwnC (w.setCell p u) B v L :=
  own_fr h ((Fr.refl w (fun k => k = p.block)).setCell (Or.inr rfl) u) (fun g hg e => hp g hg e)
theorem below_grown {W w w' : World} {B : Nat} {v : Value} {L : List Cp} (h : Below B W w) (hg : w.grownBy w' v.ownBlock) (hB : B ≤ w.heap.size) (ho : OwnC w B v L) : Below B W w' :=
  h.grown hg hB (fun k hk => (ho.lt k hk).1)
theorem rclose_last {l prev out : List Cp} (h : out = roundC (baseL l) prev) (hl : out.length = prev.length) (hm : ∃ m, out = rounds (baseL l) m) : IsClo l out := by
  refine ⟨hm, ?_⟩
  obtain ⟨u, e, _⟩ := fold_pre (baseL l) prev
  rw [← h] at e
  have hu : u = [] := List.eq_nil_of_length_eq_zero (by have := congrArg List.length e; rw [List.length_append] at this; omega)
  rw [hu, List.append_nil] at e
  rw [e] at h ⊢; exact h.symm
end Go.Proofs.Ytkddgjaflcjhiaa
