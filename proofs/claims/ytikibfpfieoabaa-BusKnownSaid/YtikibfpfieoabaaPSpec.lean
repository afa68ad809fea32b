/-
  The interrupt controller's state, source by source: what its calls answer and leave. No condition.
-/
import Derived.Test.YtikibfpfieoabaaKp
import Derived.Laws.BitsAllLaws
import Derived.Laws.Bits64b
namespace Go.Proofs.Ytikibfpfieoabaa
set_option linter.unusedVariables false
set_option linter.unusedSimpArgs false
/-- Which sources are pending, in service, enabled (by context); priorities; thresholds. -/
structure PS where
  pe : Nat → Bool
  se : Nat → Bool
  en : Nat → Nat → Bool
  pr : Nat → Int
  th : Nat → Int
/-- It may be. -/
structure PS.Ok (S : PS) : Prop where
  p0 : S.pe 0 = false
  e0 : ∀ c, S.en c 0 = false
  r0 : S.pr 0 = 0
  rl : ∀ i, 0 ≤ S.pr i
  rh : ∀ i, S.pr i < 8
  tl : ∀ c, 0 ≤ S.th c
  th8 : ∀ c, S.th c < 8
/-- Alike, as far as there are sources and contexts. -/
structure PS.Like (S S' : PS) : Prop where
  pe : ∀ i, i < 32 → S.pe i = S'.pe i
  se : ∀ i, 1 ≤ i → i < 32 → S.se i = S'.se i
  en : ∀ c i, c < 2 → i < 32 → S.en c i = S'.en c i
  pr : ∀ i, i < 32 → S.pr i = S'.pr i
  th : ∀ c, c < 2 → S.th c = S'.th c
theorem PS.Like.refl (S : PS) : S.Like S := ⟨fun _ _ => rfl, fun _ _ _ => rfl, fun _ _ _ _ => rfl, fun _ _ => rfl, fun _ _ => rfl⟩
/-- The number's bit. -/
def bitI (v : Int) (i : Nat) : Bool := v / 2 ^ i % 2 == 1
theorem bitI_nat (x i : Nat) : bitI (x : Int) i = x.testBit i := by
  unfold bitI
  rw [Nat.testBit_eq_decide_div_mod_eq, show ((2 : Int) ^ i) = ((2 ^ i : Nat) : Int) by simp, ← Int.natCast_ediv]
  generalize x / 2 ^ i = y
  rw [Bool.eq_iff_iff]; simp; omega
/-- The number whose bits these are, from one on, so many. -/
def bwN (f : Nat → Bool) : Nat → Nat → Nat
  | _, 0 => 0
  | s, n + 1 => (f s).toNat + 2 * bwN f (s + 1) n
theorem bwN_lt (f : Nat → Bool) (s n : Nat) : bwN f s n < 2 ^ n := by
  induction n generalizing s with
  | zero => simp [bwN]
  | succ n ih => have := ih (s + 1); have := Bool.toNat_lt (f s); rw [bwN, Nat.pow_succ]; omega
theorem bwN_bit (f : Nat → Bool) (s n i : Nat) : (bwN f s n).testBit i = (decide (i < n) && f (s + i)) := by
  induction n generalizing s i with
  | zero => simp [bwN]
  | succ n ih =>
    rw [bwN]
    cases i with
    | zero =>
      rw [Nat.testBit_zero]
      cases h : f s <;> simp [h] <;> omega
    | succ i =>
      rw [Nat.testBit_succ]
      have : ((f s).toNat + 2 * bwN f (s + 1) n) / 2 = bwN f (s + 1) n := by have := Bool.toNat_lt (f s); omega
      rw [this, ih, show s + 1 + i = s + (i + 1) by omega]
      by_cases h : i < n
      · simp [h]
      · simp [h]
theorem bwN_ext (f g : Nat → Bool) (s n : Nat) (h : ∀ i, s ≤ i → i < s + n → f i = g i) : bwN f s n = bwN g s n := by
  induction n generalizing s with
  | zero => rfl
  | succ n ih => rw [bwN, bwN, h s (by omega) (by omega), ih (s + 1) (fun i a b => h i (by omega) (by omega))]
/-- The number of a register of bits. -/
def bw (f : Nat → Bool) : Nat := bwN f 0 32
theorem bw_lt (f : Nat → Bool) : bw f < 4294967296 := bwN_lt f 0 32
theorem bw_bit (f : Nat → Bool) (i : Nat) : (bw f).testBit i = (decide (i < 32) && f i) := by rw [bw, bwN_bit, Nat.zero_add]
theorem bw_ext (f g : Nat → Bool) (h : ∀ i, i < 32 → f i = g i) : bw f = bw g := bwN_ext f g 0 32 (fun i _ h2 => h i (by omega))
theorem bw_of (x : Nat) (h : x < 4294967296) (f : Nat → Bool) (hf : ∀ i, i < 32 → f i = x.testBit i) : bw f = x := by
  apply Nat.eq_of_testBit_eq
  intro i
  rw [bw_bit]
  by_cases c : i < 32
  · simp [c, hf i c]
  · have : x.testBit i = false := Nat.testBit_lt_two_pow (Nat.lt_of_lt_of_le h (Nat.pow_le_pow_right (show 0 < 2 by decide) (show 32 ≤ i by omega)))
    simp [c, this]
/-- Who may be claimed. -/
def PS.can (S : PS) (c i : Nat) : Bool := S.pe i && S.en c i && decide (0 < S.pr i)
/-- The best of so many from one on: of the greatest priority, of equal ones the first. -/
def bstN (C : Nat → Bool) (pr : Nat → Int) : Nat → Nat → Nat
  | _, 0 => 0
  | s, n + 1 => if C s && decide (pr (bstN C pr (s + 1) n) ≤ pr s) then s else bstN C pr (s + 1) n
def PS.bst (S : PS) (c : Nat) : Nat := bstN (S.can c) S.pr 1 31
/-- Who is the best between. -/
structure IsBest (C : Nat → Bool) (pr : Nat → Int) (lo hi b : Nat) : Prop where
  at_ : b = 0 ∨ (lo ≤ b ∧ b < hi ∧ C b = true)
  all : ∀ i, lo ≤ i → i < hi → C i = true → pr i < pr b ∨ (pr i = pr b ∧ b ≤ i)
theorem IsBest.uniq {C : Nat → Bool} {pr : Nat → Int} {lo hi b b' : Nat} (h0 : pr 0 = 0) (hp : ∀ i, C i = true → 0 < pr i) (h : IsBest C pr lo hi b) (h' : IsBest C pr lo hi b') : b = b' := by
  rcases h.at_ with e | ⟨a1, a2, a3⟩ <;> rcases h'.at_ with e' | ⟨c1, c2, c3⟩
  · rw [e, e']
  · have := h.all b' c1 c2 c3; have := hp b' c3; rw [e, h0] at *; omega
  · have := h'.all b a1 a2 a3; have := hp b a3; rw [e', h0] at *; omega
  · have := h.all b' c1 c2 c3; have := h'.all b a1 a2 a3; omega
theorem bstN_is (C : Nat → Bool) (pr : Nat → Int) (h0 : pr 0 = 0) (hp : ∀ i, C i = true → 0 < pr i) (s n : Nat) : IsBest C pr s (s + n) (bstN C pr s n) := by
  induction n generalizing s with
  | zero => exact ⟨.inl rfl, fun i a b => by omega⟩
  | succ n ih =>
    have h := ih (s + 1)
    rw [bstN]
    generalize bstN C pr (s + 1) n = b at h
    by_cases c : C s = true ∧ pr b ≤ pr s
    · rw [if_pos (by simp [c.1, c.2])]
      refine ⟨.inr ⟨Nat.le_refl _, by omega, c.1⟩, fun i a1 a2 a3 => ?_⟩
      by_cases e : i = s
      · subst e; exact .inr ⟨rfl, Nat.le_refl _⟩
      · have := h.all i (by omega) (by omega) a3
        omega
    · rw [if_neg (by simp only [Bool.and_eq_true, decide_eq_true_eq]; exact c)]
      refine ⟨?_, fun i a1 a2 a3 => ?_⟩
      · rcases h.at_ with e | ⟨a1, a2, a3⟩
        · exact .inl e
        · exact .inr ⟨by omega, by omega, a3⟩
      · by_cases e : i = s
        · subst e
          left
          have : ¬ pr b ≤ pr i := fun x => c ⟨a3, x⟩
          omega
        · exact h.all i (by omega) (by omega) a3
theorem PS.Ok.can_pos {S : PS} (h : S.Ok) (c i : Nat) (hc : S.can c i = true) : 0 < S.pr i := by
  simp only [PS.can, Bool.and_eq_true, decide_eq_true_eq] at hc; exact hc.2
theorem PS.Ok.bst_is {S : PS} (h : S.Ok) (c : Nat) : IsBest (S.can c) S.pr 1 32 (S.bst c) := bstN_is _ _ h.r0 (fun i hi => h.can_pos c i hi) 1 31
theorem PS.Ok.bst_eq {S : PS} (h : S.Ok) (c b : Nat) (hb : IsBest (S.can c) S.pr 1 32 b) : S.bst c = b := (h.bst_is c).uniq h.r0 (fun i hi => h.can_pos c i hi) hb
theorem PS.Ok.bst_lt {S : PS} (h : S.Ok) (c : Nat) : S.bst c < 32 := by rcases (h.bst_is c).at_ with e | e <;> omega
/-- One that has no source is claimed. -/
def PS.claim (S : PS) (c : Nat) : PS := if S.bst c = 0 then S else { S with pe := fun i => if i = S.bst c then false else S.pe i, se := fun i => if i = S.bst c then true else S.se i }
/-- Is a context interrupted? -/
def PS.pend (S : PS) (c : Int) : Bool := (c == 0 || c == 1) && decide (S.th c.toNat < S.pr (S.bst c.toNat))
def PS.lines (S : PS) (m : Int) : PS := { S with pe := fun i => decide (0 < i) && bitI m i && !S.se i }
/-- Is that a priority's place? -/
def isPr (off : Int) : Bool := decide (0 ≤ off) && decide (off < 128) && (off % 4 == 0)
def isRg (off : Int) : Bool := isPr off || off == 4096 || off == 8192 || off == 8320 || off == 2097152 || off == 2101248 || off == 2097156 || off == 2101252
def rgO (off size : Int) : Bool := size == 4 && isRg off
/-- What a register has. -/
def PS.val (S : PS) (off : Int) : Int :=
  if isPr off = true then S.pr (off.toNat / 4) else if off = 4096 then (bw S.pe : Nat) else if off = 8192 then (bw (S.en 0) : Nat) else if off = 8320 then (bw (S.en 1) : Nat)
  else if off = 2097152 then S.th 0 else if off = 2101248 then S.th 1 else if off = 2097156 then (S.bst 0 : Nat) else if off = 2101252 then (S.bst 1 : Nat) else 0
def PS.ldV (S : PS) (off size : Int) : Int := if rgO off size = true then S.val off else 0
def PS.ldS (S : PS) (off size : Int) : PS := if size = 4 ∧ off = 2097156 then S.claim 0 else if size = 4 ∧ off = 2101252 then S.claim 1 else S
def PS.enab (S : PS) (c : Nat) (v : Int) : PS := { S with en := fun d i => if d = c then decide (0 < i) && bitI v i else S.en d i }
def PS.comp (S : PS) (c : Nat) (v : Int) : PS := if v % 4294967296 < 32 ∧ S.en c (v % 4294967296).toNat = true then { S with se := fun i => if i = (v % 4294967296).toNat then false else S.se i } else S
def PS.prio (S : PS) (k : Nat) (v : Int) : PS := if k = 0 then S else { S with pr := fun i => if i = k then v % 8 else S.pr i }
def PS.thrs (S : PS) (c : Nat) (v : Int) : PS := { S with th := fun d => if d = c then v % 8 else S.th d }
/-- What a store leaves. -/
def PS.put (S : PS) (off v : Int) : PS :=
  if isPr off = true then S.prio (off.toNat / 4) v else if off = 8192 then S.enab 0 v else if off = 8320 then S.enab 1 v
  else if off = 2097152 then S.thrs 0 v else if off = 2101248 then S.thrs 1 v else if off = 2097156 then S.comp 0 v else if off = 2101252 then S.comp 1 v else S
def PS.stS (S : PS) (off size v : Int) : PS := if size = 4 then S.put off v else S
/-- At first. -/
def PS.new : PS := ⟨fun _ => false, fun _ => false, fun _ _ => false, fun _ => 0, fun _ => 0⟩
theorem PS.new_ok : PS.new.Ok := ⟨rfl, fun _ => rfl, rfl, fun _ => Int.le_refl 0, fun _ => show (0 : Int) < 8 by decide, fun _ => Int.le_refl 0, fun _ => show (0 : Int) < 8 by decide⟩
theorem PS.Ok.claim {S : PS} (h : S.Ok) (c : Nat) : (S.claim c).Ok := by
  unfold PS.claim
  split
  · exact h
  · refine ⟨?_, h.e0, h.r0, h.rl, h.rh, h.tl, h.th8⟩
    show (if 0 = S.bst c then false else S.pe 0) = false
    rw [h.p0]; simp
theorem PS.Ok.lines {S : PS} (h : S.Ok) (m : Int) : (S.lines m).Ok := ⟨by simp [PS.lines], h.e0, h.r0, h.rl, h.rh, h.tl, h.th8⟩
theorem PS.Ok.ldS {S : PS} (h : S.Ok) (off size : Int) : (S.ldS off size).Ok := by
  unfold PS.ldS
  split
  · exact h.claim 0
  · split
    · exact h.claim 1
    · exact h
theorem PS.Ok.enab {S : PS} (h : S.Ok) (c : Nat) (v : Int) : (S.enab c v).Ok := by
  refine ⟨h.p0, fun d => ?_, h.r0, h.rl, h.rh, h.tl, h.th8⟩
  show (if d = c then decide (0 < 0) && bitI v 0 else S.en d 0) = false
  split
  · simp
  · exact h.e0 d
theorem PS.Ok.comp {S : PS} (h : S.Ok) (c : Nat) (v : Int) : (S.comp c v).Ok := by
  unfold PS.comp
  split
  · exact ⟨h.p0, h.e0, h.r0, h.rl, h.rh, h.tl, h.th8⟩
  · exact h
theorem PS.Ok.prio {S : PS} (h : S.Ok) (k : Nat) (v : Int) : (S.prio k v).Ok := by
  unfold PS.prio
  split
  · exact h
  · rename_i hk
    refine ⟨h.p0, h.e0, ?_, fun i => ?_, fun i => ?_, h.tl, h.th8⟩
    · show (if 0 = k then v % 8 else S.pr 0) = 0
      rw [if_neg (by omega)]; exact h.r0
    · show 0 ≤ (if i = k then v % 8 else S.pr i)
      have := h.rl i; split <;> omega
    · show (if i = k then v % 8 else S.pr i) < 8
      have := h.rh i; split <;> omega
theorem PS.Ok.thrs {S : PS} (h : S.Ok) (c : Nat) (v : Int) : (S.thrs c v).Ok := by
  refine ⟨h.p0, h.e0, h.r0, h.rl, h.rh, fun d => ?_, fun d => ?_⟩
  · show 0 ≤ (if d = c then v % 8 else S.th d)
    have := h.tl d; split <;> omega
  · show (if d = c then v % 8 else S.th d) < 8
    have := h.th8 d; split <;> omega
theorem PS.Ok.put {S : PS} (h : S.Ok) (off v : Int) : (S.put off v).Ok := by
  unfold PS.put
  repeat' split
  all_goals first | exact h.prio _ _ | exact h.enab _ _ | exact h.thrs _ _ | exact h.comp _ _ | exact h
theorem PS.Ok.stS {S : PS} (h : S.Ok) (off size v : Int) : (S.stS off size v).Ok := by
  unfold PS.stS
  split
  · exact h.put _ _
  · exact h
theorem PS.Ok.val_bd {S : PS} (h : S.Ok) (off : Int) : 0 ≤ S.val off ∧ S.val off < 4294967296 := by
  have b := bw_lt
  have l0 := h.bst_lt 0
  have l1 := h.bst_lt 1
  unfold PS.val
  repeat' split
  · have := h.rl (off.toNat / 4); have := h.rh (off.toNat / 4); omega
  · have := b S.pe; omega
  · have := b (S.en 0); omega
  · have := b (S.en 1); omega
  · have := h.tl 0; have := h.th8 0; omega
  · have := h.tl 1; have := h.th8 1; omega
  · omega
  · omega
  · omega
theorem PS.Ok.ldV_bd {S : PS} (h : S.Ok) (off size : Int) : 0 ≤ S.ldV off size ∧ S.ldV off size < 4294967296 := by
  unfold PS.ldV
  split
  · exact h.val_bd off
  · decide
end Go.Proofs.Ytikibfpfieoabaa
