/-
  The program's interrupt controller: what is claimed, what is completed. No condition.
-/
import Derived.Test.YtamhhdhoeghafaaPWord
namespace Go.Proofs.Ytamhhdhoeghafaa
open Go.ChangeShapes Go.WideShapes Go.ChangeAt Go.RowKit
set_option linter.unusedVariables false
set_option linter.unusedSimpArgs false
theorem shl_word (s : Nat) (h : s < 32) : IntKind.u32.wrap (2 ^ s) = ((2 ^ s : Nat) : Int) := by
  have := pow_lt s h
  rw [IntKind.wrap_u32', show ((2 : Int) ^ s) = ((2 ^ s : Nat) : Int) by simp]
  generalize 2 ^ s = y at *
  omega
theorem max_word : (if IntKind.u32.signed = true then (-1 : Int) else IntKind.u32.max) = 4294967295 := by rfl
set_option maxHeartbeats 4000000 in
theorem cclaim_w {w : World} {g : Nat} {S : PS} {Q : Nat} (m : CP w g S Q) (ok : S.Ok) (c : Nat) (hc : c < 2) (o : Nat) (ho : o = 34 + 2 * c) :
    Calls Try.prog 33 #[.pointer (some ⟨g, 0, none⟩), .pointer (some ⟨g, o, none⟩)] w fun e w' => e = .returned (.int .u32 (S.bst c : Nat)) ∧ (∃ Q', CP w' g (S.claim c) Q') ∧ Fr w w' (fun i => i = g) := by
  have hcall := Lib.hid (fun w' (k : Kp w w') => cfirst_w (m.kp k) ok c hc o ho)
  have HM := Lib.hid m
  have hlt := ok.bst_lt c
  have hcl : S.claim c = if S.bst c = 0 then S else { S with pe := fun i => if i = S.bst c then false else S.pe i, se := fun i => if i = S.bst c then true else S.se i } := rfl
  rw [hcl]
  clear m hcl ho
  generalize S.bst c = s at *
  by_cases h : s = 0
  · subst h
    simp only [if_true]
    go_enter Try.func33, Try.ntmps33
    go_wp2_with (go_at_call 30; (with_reducible refine (hcall.out _ (Kp.refl _)).mono ?_); rintro e' w1 ⟨rfl, qk⟩; have HK := Lib.hid qk; clear qk)
    go_ret
    exact ⟨rfl, ⟨Q, HM.out.kp HK.out⟩, Fr.of_kp HK.out _⟩
  · simp only [if_neg h]
    have hb : ((s : Int) != 0) = true := by simpa using h
    have hsh := shl_word s hlt
    have hP : bits .and .u32 ((bw S.pe : Nat) : Int) (bits .xor .u32 (if IntKind.u32.signed = true then -1 else IntKind.u32.max) (2 ^ s)) = ((bw (fun i => if i = s then false else S.pe i) : Nat) : Int) := by
      rw [max_word, show ((2 : Int) ^ s) = ((2 ^ s : Nat) : Int) by simp]; exact clr_bw S.pe s hlt
    have hq := HM.out.hq
    have hQ : bits .or .u32 (Q : Int) (2 ^ s) = ((Q ||| 2 ^ s : Nat) : Int) := by rw [show ((2 : Int) ^ s) = ((2 ^ s : Nat) : Int) by simp]; exact set_eq Q s hq hlt
    have HQL := Lib.hid (set_lt Q s hq hlt)
    obtain ⟨h', hh⟩ : ∃ h' : Nat → Bool, (fun i => if i = s then true else S.se i) = h' := ⟨_, rfl⟩
    have HQS := Lib.hid (fun i (a : 1 ≤ i) (b : i < 32) => show h' i = (Q ||| 2 ^ s).testBit i by rw [← hh, set_bit, ← HM.out.hs i a b])
    rw [hh]
    clear hh
    have HH := Lib.hid h
    clear h
    generalize (fun i => if i = s then false else S.pe i) = f at *
    obtain ⟨x, hx⟩ : ∃ x : Int, x = ((bw f : Nat) : Int) := ⟨_, rfl⟩
    rw [← hx] at hP
    have HX := Lib.hid hx
    clear hx
    generalize Q ||| 2 ^ s = Q' at *
    go_enter Try.func33, Try.ntmps33
    go_upto_region 2 with (go_at_call 30; (with_reducible refine (hcall.out _ (Kp.refl _)).mono ?_); rintro e' w1 ⟨rfl, qk⟩; have HK := Lib.hid qk; clear qk)
    have HM1 := Lib.hid (HM.out.kp HK.out)
    have c0 := HM1.out.c0
    have c1 := HM1.out.c1
    have z0 := HM1.out.fz 0
    have z1 := HM1.out.fz 1
    go_wp2_with (first | (go_at_call 37; (with_reducible refine (aand_w c0 z0 hP).mono ?_); rintro e' w2 ⟨⟨v2, rfl⟩, hw2⟩; have HM2 := Lib.hid (hw2 ▸ HM1.out.setP f _ HX.out : CP w2 g { S with pe := f } Q); have HF2 := Lib.hid (hw2 ▸ (Fr.of_kp HK.out (fun i => i = g)).setCell (p := ⟨g, 0, none⟩) (.inr rfl) _ : Fr w w2 (fun i => i = g)); clear hw2) | (go_at_call 38; (with_reducible refine (aor_w HM2.out.c1 (HM2.out.fz 1) hQ).mono ?_); rintro e' w3 ⟨⟨v3, rfl⟩, hw3⟩; have HM3 := Lib.hid (hw3 ▸ HM2.out.setQ _ Q' _ rfl HQL.out HQS.out : CP w3 g { S with pe := f, se := h' } Q'); have HF3 := Lib.hid (hw3 ▸ HF2.out.setCell (p := ⟨g, 1, none⟩) (.inr rfl) _ : Fr w w3 (fun i => i = g)); clear hw3))
    go_ret
    exact ⟨rfl, ⟨Q', HM3.out⟩, HF3.out⟩
/-- One bit, if it is enabled. -/
theorem comp_word (s E : Nat) (hE : E < 4294967296) : bits .and .u32 (IntKind.u32.wrap (2 ^ s)) (E : Int) = (((if s < 32 ∧ E.testBit s = true then 2 ^ s else 0) : Nat) : Int) := by
  rw [IntKind.wrap_u32', show ((2 : Int) ^ s) % 4294967296 = ((2 ^ s % 2 ^ 32 : Nat) : Int) by rw [Int.natCast_emod]; simp, u32_and_nat _ _ (Nat.mod_lt _ (by decide)) hE]
  refine congrArg (fun n : Nat => (n : Int)) ?_
  apply Nat.eq_of_testBit_eq
  intro i
  rw [Nat.testBit_and, show (4294967296 : Nat) = 2 ^ 32 from rfl, Nat.testBit_mod_two_pow, Nat.testBit_two_pow]
  by_cases h : s < 32 ∧ E.testBit s = true
  · rw [if_pos h, Nat.testBit_two_pow]
    by_cases e : s = i
    · subst e; simp [h.1, h.2]
    · simp [e]
  · rw [if_neg h, Nat.zero_testBit]
    by_cases e : s = i
    · subst e
      by_cases a : s < 32
      · have : E.testBit s = false := by simpa using fun x => h ⟨a, x⟩
        simp [this]
      · simp [a]
    · simp [e]
/-- What completing leaves: by the number's lowest 32 bits. -/
def PS.compN (S : PS) (c u : Nat) : PS := if u < 32 ∧ S.en c u = true then { S with se := fun i => if i = u then false else S.se i } else S
set_option maxHeartbeats 4000000 in
theorem ccomp_w {w : World} {g : Nat} {S : PS} {Q : Nat} (m : CP w g S Q) (ok : S.Ok) (c : Nat) (hc : c < 2) (o : Nat) (ho : o = 34 + 2 * c) (u : Nat) (hu : u < 4294967296) :
    Calls Try.prog 36 #[.pointer (some ⟨g, 0, none⟩), .pointer (some ⟨g, o, none⟩), .int .u32 (u : Int)] w fun e w' => e = .returned (.tuple #[]) ∧ (∃ Q', CP w' g (S.compN c u) Q') ∧ Fr w w' (fun i => i = g) := by
  have ce := m.en c hc
  rw [← ho] at ce
  have c1 := m.c1
  have hE := bw_lt (S.en c)
  have hw := comp_word (min u 32) (bw (S.en c)) hE
  have hmin : (if min u 32 < 32 ∧ (bw (S.en c)).testBit (min u 32) = true then 2 ^ min u 32 else 0) = (if u < 32 ∧ (bw (S.en c)).testBit u = true then 2 ^ u else 0) := by
    by_cases h : u < 32
    · rw [show min u 32 = u by omega]
    · rw [if_neg (fun x => h (by omega)), if_neg (fun x => h x.1)]
  rw [hmin] at hw
  clear hmin
  obtain ⟨Y, hY⟩ : ∃ Y, Y = (if u < 32 ∧ (bw (S.en c)).testBit u = true then 2 ^ u else 0) := ⟨_, rfl⟩
  rw [← hY] at hw
  have hYl : Y < 4294967296 := by rw [hY]; split; exact pow_lt u (by omega); decide
  have hcl : bits .and .u32 (Q : Int) (bits .xor .u32 (if IntKind.u32.signed = true then -1 else IntKind.u32.max) (Y : Int)) = ((Q &&& (4294967295 ^^^ Y) : Nat) : Int) := by rw [max_word]; exact clr_eq Q Y m.hq hYl
  have HQL := Lib.hid (clr_lt Q Y m.hq)
  have HR : Hid (∀ w', w' = w.setCell ⟨g, 1, none⟩ (.int .u32 ((Q &&& (4294967295 ^^^ Y) : Nat) : Int)) → CP w' g (S.compN c u) (Q &&& (4294967295 ^^^ Y))) := Lib.hid (fun w' e => by
    subst e
    unfold PS.compN
    by_cases h : u < 32 ∧ S.en c u = true
    · rw [if_pos h]
      refine m.setQ _ _ _ rfl HQL.out (fun i a b => ?_)
      have : Y = 2 ^ u := by rw [hY, bw_bit, if_pos ⟨h.1, by simp [h.1, h.2]⟩]
      rw [clr_bit _ _ _ b, this, Nat.testBit_two_pow, ← m.hs i a b]
      by_cases e : i = u
      · subst e; simp
      · have : ¬ u = i := fun x => e x.symm
        simp [e, this]
    · rw [if_neg h]
      have : Y = 0 := by rw [hY, bw_bit, if_neg (fun x => h ⟨x.1, by simpa [x.1] using x.2⟩)]
      have hs := m.setQ S.se (Q &&& (4294967295 ^^^ Y)) _ rfl HQL.out (fun i a b => by rw [clr_bit _ _ _ b, this, Nat.zero_testBit, m.hs i a b]; simp)
      exact hs)
  have HM := Lib.hid m
  have HU := Lib.hid hu
  clear m ho hY hE hu
  generalize bw (S.en c) = E at *
  generalize Q &&& (4294967295 ^^^ Y) = Q' at *
  go_enter Try.func36, Try.ntmps36
  refine wp_region_still_tail 11 (by kernel_rfl) (by kernel_rfl) ?_
  simp only [List.take_succ_cons, List.take_zero, List.drop_succ_cons, List.drop_zero]
  repeat (with_reducible refine wpStill_step (fun K hK => ?_); go_simp; with_reducible refine hK _ ?_; clear hK K)
  with_reducible refine wpStill_nil ?_
  change wpList _ _ _ _ _ w.drew
  have z1 : w.drew.frozen? ⟨g, 1, none⟩ = false := HM.out.fz 1
  have c1' : w.drew.cell? ⟨g, 1, none⟩ = some (.int .u32 (Q : Int)) := c1
  generalize bits .xor .u32 (if IntKind.u32.signed = true then -1 else IntKind.u32.max) (Y : Int) = z at hcl ⊢
  clear hw
  go_wp2_with (go_at_call 37; (with_reducible refine (aand_w c1' z1 hcl).mono ?_); rintro e' w2 ⟨⟨v2, rfl⟩, hw2⟩)
  refine bodyPost_end (v := .tuple #[]) (by simp [results, Try.results36, go_sem]) rfl ⟨rfl, ⟨Q', ?_⟩, ?_⟩
  · exact (HR.out _ rfl).drew
  · exact ((Fr.refl w (fun i => i = g)).setCell (p := ⟨g, 1, none⟩) (.inr rfl) _).drew
end Go.Proofs.Ytamhhdhoeghafaa
