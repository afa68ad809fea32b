/-
  The closure of some capabilities, as lists: grown in rounds till nothing new comes. Plain mathematics over capabilities' fields.
-/
import Derived.Test.YtmehbildddlgaaaODef
namespace Go.Proofs.Ytmehbildddlgaaa
open Go.ChangeShapes Go.WideShapes Go.ChangeAt Go.RowKit
set_option linter.unusedVariables false
set_option linter.unusedSimpArgs false

def addC (out : List Cp) (c : Cp) : List Cp := if c ∈ out then out else out ++ [c]
theorem mem_addC (out : List Cp) (c x : Cp) : x ∈ addC out c ↔ x ∈ out ∨ x = c := by
  unfold addC; split
  · rename_i h; exact ⟨Or.inl, fun hx => hx.elim id (fun e => e ▸ h)⟩
  · simp
theorem addC_pre (out : List Cp) (c : Cp) : ∃ u, addC out c = out ++ u ∧ u.length ≤ 1 := by
  unfold addC; split
  · exact ⟨[], by simp, by simp⟩
  · exact ⟨[c], rfl, by simp⟩
/-- Those with a tag, each once. -/
def baseL (l : List Cp) : List Cp := l.foldl (fun out c => if c.tg then addC out c else out) []
theorem foldl_take {α β : Type} (f : β → α → β) (b : β) (l : List α) (k : Nat) (c : α) (h : l[k]? = some c) : (l.take (k + 1)).foldl f b = f ((l.take k).foldl f b) c := by
  rw [List.take_add_one, h]; simp
theorem base_step (l : List Cp) (k : Nat) (c : Cp) (h : l[k]? = some c) : baseL (l.take (k + 1)) = if c.tg then addC (baseL (l.take k)) c else baseL (l.take k) := foldl_take _ _ _ _ _ h
theorem fold_inv {α β : Type} (f : β → α → β) (P : β → Prop) (l : List α) (b : β) (hb : P b) (h : ∀ b a, a ∈ l → P b → P (f b a)) : P (l.foldl f b) := by
  induction l generalizing b with
  | nil => exact hb
  | cons a l ih => exact ih _ (h _ _ (by simp) hb) (fun b x hx => h b x (by simp [hx]))
theorem base_mem (l : List Cp) (x : Cp) : x ∈ baseL l ↔ x ∈ l ∧ x.tg = true := by
  have key : ∀ (l out : List Cp), x ∈ l.foldl (fun out c => if c.tg then addC out c else out) out ↔ x ∈ out ∨ (x ∈ l ∧ x.tg = true) := by
    intro l
    induction l with
    | nil => simp
    | cons c l ih =>
      intro out
      rw [List.foldl_cons, ih]
      cases hc : c.tg
      · simp only [Bool.false_eq_true, if_false, List.mem_cons]
        constructor
        · rintro (h | ⟨h, t⟩)
          · exact Or.inl h
          · exact Or.inr ⟨Or.inr h, t⟩
        · rintro (h | ⟨h | h, t⟩)
          · exact Or.inl h
          · subst h; rw [hc] at t; cases t
          · exact Or.inr ⟨h, t⟩
      · simp only [if_true, mem_addC, List.mem_cons]
        constructor
        · rintro ((h | h) | ⟨h, t⟩)
          · exact Or.inl h
          · exact Or.inr ⟨Or.inl h, h ▸ hc⟩
          · exact Or.inr ⟨Or.inr h, t⟩
        · rintro (h | ⟨h | h, t⟩)
          · exact Or.inl (Or.inl h)
          · exact Or.inl (Or.inr h)
          · exact Or.inr ⟨h, t⟩
  rw [baseL, key]; simp
theorem base_len (l : List Cp) : (baseL l).length ≤ l.length := by
  have key : ∀ (l out : List Cp), (l.foldl (fun out c => if c.tg then addC out c else out) out).length ≤ out.length + l.length := by
    intro l
    induction l with
    | nil => simp
    | cons c l ih =>
      intro out
      rw [List.foldl_cons]
      have h2 : (if c.tg then addC out c else out).length ≤ out.length + 1 := by
        split
        · obtain ⟨u, e, hu⟩ := addC_pre out c; rw [e, List.length_append]; omega
        · omega
      have := ih (if c.tg then addC out c else out)
      simp only [List.length_cons]; omega
  simpa [baseL] using key l []
/-- Is there one that is not sealed, unseals, and has a type in its bounds? -/
def keyB (out : List Cp) (k : Int) : Bool := out.any (fun x => canD x 256 k)
def opensB (out : List Cp) (c : Cp) : Bool := (c.ty == 262142) || keyB out c.ty
def stepC (out : List Cp) (c : Cp) : List Cp := if opensB out c then addC out (uns c) else out
theorem canD_none (x : Cp) (p : Int) : canD x p 262143 = false := by simp [canD, rngIn, namesB]
theorem opens_unsealed (out : List Cp) (c : Cp) (h : c.sealed = false) : opensB out c = false := by
  have e : c.ty = 262143 := by simpa [Cp.sealed, sealedB] using h
  simp [opensB, keyB, e, canD_none]
theorem step_unsealed (out : List Cp) (c : Cp) (h : c.sealed = false) : stepC out c = out := by simp [stepC, opens_unsealed out c h]
theorem step_there (out : List Cp) (c : Cp) (h : uns c ∈ out) : stepC out c = out := by
  unfold stepC addC; split <;> simp [h]
theorem mem_step (out : List Cp) (c x : Cp) (h : x ∈ out) : x ∈ stepC out c := by
  unfold stepC; split
  · exact (mem_addC _ _ _).2 (Or.inl h)
  · exact h
theorem step_pre (out : List Cp) (c : Cp) : ∃ u, stepC out c = out ++ u ∧ u.length ≤ 1 ∧ ∀ x ∈ u, x = uns c := by
  unfold stepC addC; split
  · split
    · exact ⟨[], by simp, by simp, by simp⟩
    · exact ⟨[uns c], rfl, by simp, by simp⟩
  · exact ⟨[], by simp, by simp, by simp⟩
theorem uns_unsealed (c : Cp) : (uns c).sealed = false := by simp [uns, Cp.sealed, sealedB]
/-- One round. -/
def roundC (bs out : List Cp) : List Cp := bs.foldl stepC out
theorem fold_pre (bs out : List Cp) : ∃ u, roundC bs out = out ++ u ∧ u.length ≤ bs.length ∧ ∀ x ∈ u, x.sealed = false ∧ ∃ c ∈ bs, x = uns c := by
  induction bs generalizing out with
  | nil => exact ⟨[], by simp [roundC], by simp, by simp⟩
  | cons c bs ih =>
    obtain ⟨u, e, hl, hu⟩ := step_pre out c
    obtain ⟨u', e', hl', hu'⟩ := ih (stepC out c)
    refine ⟨u ++ u', ?_, by simp only [List.length_append, List.length_cons]; omega, fun x hx => ?_⟩
    · show roundC bs (stepC out c) = _
      rw [e', e, List.append_assoc]
    · rcases List.mem_append.1 hx with hx | hx
      · rw [hu x hx]; exact ⟨uns_unsealed c, c, by simp, rfl⟩
      · obtain ⟨h1, d, hd, h2⟩ := hu' x hx
        exact ⟨h1, d, by simp [hd], h2⟩
theorem fold_unsealed (bs out : List Cp) (h : ∀ x ∈ bs, x.sealed = false) : roundC bs out = out := by
  induction bs generalizing out with
  | nil => rfl
  | cons c bs ih =>
    show roundC bs (stepC out c) = _
    rw [step_unsealed _ _ (h c (by simp))]; exact ih _ (fun x hx => h x (by simp [hx]))
theorem round_append (ps bs out : List Cp) : roundC (ps ++ bs) out = roundC bs (roundC ps out) := by simp [roundC]
/-- How many of some are not opened yet. -/
def cntU (bs out : List Cp) : Nat := bs.countP (fun c => decide (uns c ∉ out))
theorem countP_le {α : Type} (p q : α → Bool) (l : List α) (h : ∀ x ∈ l, p x = true → q x = true) : l.countP p ≤ l.countP q := by
  induction l with
  | nil => simp
  | cons a l ih =>
    have := ih (fun x hx => h x (by simp [hx]))
    rw [List.countP_cons, List.countP_cons]
    have h2 := h a (by simp)
    cases hp : p a <;> cases hq : q a <;> simp_all <;> omega
theorem countP_lt {α : Type} (p q : α → Bool) (l : List α) (h : ∀ x ∈ l, p x = true → q x = true) (a : α) (ha : a ∈ l) (h1 : q a = true) (h2 : p a = false) : l.countP p < l.countP q := by
  induction l with
  | nil => simp at ha
  | cons b l ih =>
    rw [List.countP_cons, List.countP_cons]
    have hl := countP_le p q l (fun x hx => h x (by simp [hx]))
    rcases List.mem_cons.1 ha with rfl | ha
    · simp [h1, h2]; omega
    · have := ih (fun x hx => h x (by simp [hx])) ha
      have hb := h b (by simp)
      cases hp : p b <;> cases hq : q b <;> simp_all <;> omega
theorem cnt_sub (bs out out' : List Cp) (h : ∀ x ∈ out, x ∈ out') : cntU bs out' ≤ cntU bs out :=
  countP_le _ _ _ (fun x _ hx => by simp only [decide_eq_true_eq] at hx ⊢; exact fun hh => hx (h _ hh))
theorem cnt_new (bs out : List Cp) (c : Cp) (hc : c ∈ bs) (h : uns c ∉ out) : cntU bs (out ++ [uns c]) < cntU bs out :=
  countP_lt _ _ _ (fun x _ hx => by simp only [decide_eq_true_eq] at hx ⊢; exact fun hh => hx (by simp [hh])) c hc (by simpa using h) (by simp)
theorem step_cnt (bs out : List Cp) (c : Cp) (hc : c ∈ bs) : stepC out c = out ∨ (stepC out c).length = out.length + 1 ∧ cntU bs (stepC out c) < cntU bs out := by
  unfold stepC addC; split
  · split
    · exact Or.inl rfl
    · rename_i h; exact Or.inr ⟨by simp, cnt_new bs out c hc h⟩
  · exact Or.inl rfl
theorem round_cnt (bs cs out : List Cp) (hc : ∀ c ∈ cs, c ∈ bs) : roundC cs out = out ∨ (roundC cs out).length + cntU bs (roundC cs out) ≤ out.length + cntU bs out ∧ out.length < (roundC cs out).length ∧ cntU bs (roundC cs out) < cntU bs out := by
  induction cs generalizing out with
  | nil => exact Or.inl rfl
  | cons c cs ih =>
    have hs := step_cnt bs out c (hc c (by simp))
    have hi := ih (stepC out c) (fun x hx => hc x (by simp [hx]))
    show roundC cs (stepC out c) = out ∨ _ 
    change _ ∨ (roundC cs (stepC out c)).length + cntU bs (roundC cs (stepC out c)) ≤ out.length + cntU bs out ∧ out.length < (roundC cs (stepC out c)).length ∧ cntU bs (roundC cs (stepC out c)) < cntU bs out
    rcases hs with e | ⟨h1, h2⟩
    · rw [e] at hi ⊢; exact hi
    · right
      rcases hi with e | ⟨h3, h4, h5⟩
      · rw [e]; omega
      · omega
/-- So many rounds. -/
def rounds (bs : List Cp) : Nat → List Cp
  | 0 => bs
  | n + 1 => roundC bs (rounds bs n)
/-- The closure: what the first round that brings nothing new leaves. -/
def IsClo (l out : List Cp) : Prop := (∃ n, out = rounds (baseL l) n) ∧ roundC (baseL l) out = out
theorem rounds_stay (bs : List Cp) (n : Nat) (h : roundC bs (rounds bs n) = rounds bs n) (k : Nat) : rounds bs (n + k) = rounds bs n := by
  induction k with
  | zero => rfl
  | succ k ih => show roundC bs (rounds bs (n + k)) = _; rw [ih, h]
theorem IsClo.one {l a b : List Cp} (ha : IsClo l a) (hb : IsClo l b) : a = b := by
  obtain ⟨⟨n, rfl⟩, h1⟩ := ha
  obtain ⟨⟨m, rfl⟩, h2⟩ := hb
  rcases Nat.le_total n m with h | h
  · obtain ⟨k, rfl⟩ := Nat.exists_eq_add_of_le h; exact (rounds_stay _ _ h1 k).symm
  · obtain ⟨k, rfl⟩ := Nat.exists_eq_add_of_le h; exact rounds_stay _ _ h2 k
/-- What holds of every list on the way: the base, and unsealed forms of it; each with a tag; no longer than twice the base. -/
structure Grown6 (bs out : List Cp) : Prop where
  pre : ∃ u, out = bs ++ u ∧ ∀ x ∈ u, x.sealed = false ∧ ∃ c ∈ bs, x = uns c
  len : out.length + cntU bs out ≤ bs.length + bs.length
theorem cnt_le (bs out : List Cp) : cntU bs out ≤ bs.length := List.countP_le_length
theorem Grown6.refl (bs : List Cp) : Grown6 bs bs := ⟨⟨[], by simp, by simp⟩, by have := cnt_le bs bs; omega⟩
theorem Grown6.round {bs out : List Cp} (h : Grown6 bs out) (cs : List Cp) (hc : ∀ c ∈ cs, c ∈ bs) : Grown6 bs (roundC cs out) := by
  obtain ⟨⟨u, e, hu⟩, hl⟩ := h
  obtain ⟨u', e', _, hu'⟩ := fold_pre cs out
  refine ⟨⟨u ++ u', by rw [e', e, List.append_assoc], fun x hx => ?_⟩, ?_⟩
  · rcases List.mem_append.1 hx with hx | hx
    · exact hu x hx
    · obtain ⟨h1, d, hd, h2⟩ := hu' x hx; exact ⟨h1, d, hc d hd, h2⟩
  · rcases round_cnt bs cs out hc with e | ⟨h, _⟩
    · rw [e]; exact hl
    · omega
theorem Grown6.step {bs out : List Cp} (h : Grown6 bs out) (c : Cp) (hc : c ∈ bs) : Grown6 bs (stepC out c) := h.round [c] (by simpa using hc)
theorem Grown6.rounds (bs : List Cp) (n : Nat) : Grown6 bs (rounds bs n) := by
  induction n with
  | zero => exact Grown6.refl bs
  | succ n ih => exact ih.round bs (fun _ h => h)
theorem Grown6.mem {bs out : List Cp} (h : Grown6 bs out) (x : Cp) (hx : x ∈ out) : x ∈ bs ∨ (x.sealed = false ∧ ∃ c ∈ bs, x = uns c) := by
  obtain ⟨⟨u, e, hu⟩, _⟩ := h
  rw [e] at hx
  exact (List.mem_append.1 hx).imp id (hu x)
/-- A round through all there is is a round through the base. -/
theorem Grown6.all {bs out : List Cp} (h : Grown6 bs out) (X : List Cp) : roundC out X = roundC bs X := by
  obtain ⟨⟨u, e, hu⟩, _⟩ := h
  rw [e, round_append, fold_unsealed _ _ (fun x hx => (hu x hx).1)]
/-- Of a base some may be left out: what is not sealed, and what has been opened. -/
inductive Skip (out : List Cp) : List Cp → List Cp → Prop
  | nil : Skip out [] []
  | keep (c : Cp) {bs cs : List Cp} : Skip out bs cs → Skip out (c :: bs) (c :: cs)
  | drop (c : Cp) {bs cs : List Cp} : (c.sealed = false ∨ uns c ∈ out) → Skip out bs cs → Skip out (c :: bs) cs
theorem Skip.mono {out out' bs cs : List Cp} (h : Skip out bs cs) (k : ∀ x ∈ out, x ∈ out') : Skip out' bs cs := by
  induction h with
  | nil => exact .nil
  | keep c _ ih => exact .keep c ih
  | drop c h _ ih => exact .drop c (h.imp id (k _)) ih
theorem Skip.round {out bs cs : List Cp} (h : Skip out bs cs) (X : List Cp) (k : ∀ x ∈ out, x ∈ X) : roundC bs X = roundC cs X := by
  induction h generalizing X with
  | nil => rfl
  | keep c _ ih => exact ih _ (fun x hx => mem_step _ _ _ (k x hx))
  | @drop c bs cs h _ ih =>
    show roundC bs (stepC X c) = _
    have e : stepC X c = X := by
      rcases h with h | h
      · exact step_unsealed _ _ h
      · exact step_there _ _ (k _ h)
    rw [e]; exact ih X k
theorem Skip.out_ {out bs : List Cp} (ps : List Cp) (c : Cp) (cs : List Cp) (h : Skip out bs (ps ++ c :: cs)) (k : uns c ∈ out) : Skip out bs (ps ++ cs) := by
  generalize hl : ps ++ c :: cs = l at h
  induction h generalizing ps with
  | nil => simp at hl
  | keep d h ih =>
    cases ps with
    | nil => simp only [List.nil_append, List.cons.injEq] at hl; obtain ⟨rfl, rfl⟩ := hl; exact .drop _ (Or.inr k) h
    | cons a ps => simp only [List.cons_append, List.cons.injEq] at hl; obtain ⟨rfl, rfl⟩ := hl; exact .keep _ (ih ps rfl)
  | drop d hd h ih => exact .drop d hd (ih ps hl)
theorem Skip.mem {out bs cs : List Cp} (h : Skip out bs cs) : ∀ c ∈ cs, c ∈ bs := by
  induction h with
  | nil => simp
  | keep c _ ih => intro x hx; rcases List.mem_cons.1 hx with rfl | hx; simp; simp [ih x hx]
  | drop c _ _ ih => intro x hx; simp [ih x hx]
theorem Skip.sealed (out bs : List Cp) : Skip out bs (bs.filter Cp.sealed) := by
  induction bs with
  | nil => exact .nil
  | cons c bs ih =>
    cases h : c.sealed
    · rw [List.filter_cons_of_neg (by simp [h])]; exact .drop c (Or.inl h) ih
    · rw [List.filter_cons_of_pos h]; exact .keep c ih
end Go.Proofs.Ytmehbildddlgaaa
