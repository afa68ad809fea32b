/-
  The document's interrupt controller: loads, stores, new. No condition.
-/
import Derived.Test.YtamhhdhoeghafaaPMem
namespace Go.Proofs.Ytamhhdhoeghafaa
open Go.ChangeShapes Go.WideShapes Go.ChangeAt Go.RowKit
set_option linter.unusedVariables false
set_option linter.unusedSimpArgs false
theorem isPr_nat {off : Int} (h : isPr off = true) : ∃ k : Nat, off = ((4 * k : Nat) : Int) ∧ k < 32 := by
  simp only [isPr, Bool.and_eq_true, decide_eq_true_eq, beq_iff_eq] at h
  obtain ⟨⟨h1, h2⟩, h3⟩ := h
  obtain ⟨o, rfl⟩ := Int.eq_ofNat_of_zero_le h1
  exact ⟨o / 4, by omega, by omega⟩
theorem isPr_mk (k : Nat) (h : k < 32) : isPr ((4 * k : Nat) : Int) = true := by simp [isPr]; omega
theorem tmod_zero' (off : Int) (n : Int) (hn : 0 < n) : (off.tmod n == 0) = (off % n == 0) := by
  rw [Int.tmod_eq_emod]
  by_cases c : 0 ≤ off ∨ n ∣ off
  · rw [if_pos c]; simp
  · rw [if_neg c]
    have h0 := Int.emod_nonneg off (show n ≠ 0 by omega)
    have h1 := Int.emod_lt_of_pos off hn
    have h2 : off % n ≠ 0 := fun e => c (.inr (Int.dvd_of_emod_eq_zero e))
    have a : (off % n == 0) = false := by simpa using h2
    have b : (off % n - (n.natAbs : Int) == 0) = false := by simp; omega
    rw [a]; exact b
/-- A place that is no priority's, told as the test tells it. -/
theorem isPr_no {off : Int} (h : isPr off = false) : decide (0 ≤ off) = false ∨ (decide (0 ≤ off) = true ∧ decide (off < 128) = false) ∨ (decide (0 ≤ off) = true ∧ decide (off < 128) = true ∧ (off.tmod 4 == 0) = false) := by
  rw [tmod_zero' _ _ (by decide)]
  unfold isPr at h
  cases a : decide (0 ≤ off) <;> cases b : decide (off < 128) <;> cases c : (off % 4 == 0) <;> simp_all
/-- The kinds of places. -/
theorem rg_ways (off : Int) : isPr off = true ∨ off = 4096 ∨ off = 8192 ∨ off = 8320 ∨ off = 2097152 ∨ off = 2101248 ∨ off = 2097156 ∨ off = 2101252 ∨ (isPr off = false ∧ (off == 4096) = false ∧ (off == 8192) = false ∧ (off == 8320) = false ∧ (off == 2097152) = false ∧ (off == 2101248) = false ∧ (off == 2097156) = false ∧ (off == 2101252) = false) := by
  cases h : isPr off
  · by_cases a1 : off = 4096
    · exact .inr (.inl a1)
    by_cases a2 : off = 8192
    · exact .inr (.inr (.inl a2))
    by_cases a3 : off = 8320
    · exact .inr (.inr (.inr (.inl a3)))
    by_cases a4 : off = 2097152
    · exact .inr (.inr (.inr (.inr (.inl a4))))
    by_cases a5 : off = 2101248
    · exact .inr (.inr (.inr (.inr (.inr (.inl a5)))))
    by_cases a6 : off = 2097156
    · exact .inr (.inr (.inr (.inr (.inr (.inr (.inl a6))))))
    by_cases a7 : off = 2101252
    · exact .inr (.inr (.inr (.inr (.inr (.inr (.inr (.inl a7)))))))
    · exact .inr (.inr (.inr (.inr (.inr (.inr (.inr (.inr ⟨rfl, by simpa using a1, by simpa using a2, by simpa using a3, by simpa using a4, by simpa using a5, by simpa using a6, by simpa using a7⟩)))))))
  · exact .inl rfl
theorem rgO_no {off : Int} (h : isPr off = false ∧ (off == 4096) = false ∧ (off == 8192) = false ∧ (off == 8320) = false ∧ (off == 2097152) = false ∧ (off == 2101248) = false ∧ (off == 2097156) = false ∧ (off == 2101252) = false) : rgO off 4 = false := by
  obtain ⟨h0, h1, h2, h3, h4, h5, h6, h7⟩ := h
  unfold rgO isRg
  rw [h0, h1, h2, h3, h4, h5, h6, h7]; rfl
theorem val_pr (S : PS) (k : Nat) (h : k < 32) : S.val ((4 * k : Nat) : Int) = S.pr k := by
  unfold PS.val
  rw [if_pos (isPr_mk k h), Int.toNat_natCast]
  congr 1; omega
theorem rgO_pr (k : Nat) (h : k < 32) : rgO ((4 * k : Nat) : Int) 4 = true := by
  unfold rgO isRg
  rw [isPr_mk k h]; simp
theorem ldS_oth (S : PS) (off size : Int) (h1 : off ≠ 2097156) (h2 : off ≠ 2101252) : S.ldS off size = S := by
  unfold PS.ldS
  rw [if_neg (fun x => h1 x.2), if_neg (fun x => h2 x.2)]
theorem ldS_size (S : PS) (off size : Int) (h : size ≠ 4) : S.ldS off size = S := by
  unfold PS.ldS
  rw [if_neg (fun x => h x.1), if_neg (fun x => h x.1)]
theorem stS_size (S : PS) (off size v : Int) (h : size ≠ 4) : S.stS off size v = S := by unfold PS.stS; rw [if_neg h]
theorem stS_4 (S : PS) (off v : Int) : S.stS off 4 v = S.put off v := by unfold PS.stS; rw [if_pos rfl]
theorem put_pr (S : PS) (k : Nat) (h : k < 32) (v : Int) : S.put ((4 * k : Nat) : Int) v = S.prio k v := by
  unfold PS.put
  rw [if_pos (isPr_mk k h), Int.toNat_natCast]
  congr 1; omega
theorem put_no (S : PS) {off : Int} (v : Int) (h : isPr off = false ∧ (off == 4096) = false ∧ (off == 8192) = false ∧ (off == 8320) = false ∧ (off == 2097152) = false ∧ (off == 2101248) = false ∧ (off == 2097156) = false ∧ (off == 2101252) = false) : S.put off v = S := by
  obtain ⟨h0, h1, h2, h3, h4, h5, h6, h7⟩ := h
  simp only [beq_eq_false_iff_ne] at h1 h2 h3 h4 h5 h6 h7
  unfold PS.put
  rw [if_neg (by rw [h0]; simp), if_neg h2, if_neg h3, if_neg h4, if_neg h5, if_neg h6, if_neg h7]
theorem val_4096 (S : PS) : S.val 4096 = (bw S.pe : Nat) := by
  unfold PS.val
  rw [if_neg (by decide), if_pos rfl]
theorem val_8192 (S : PS) : S.val 8192 = (bw (S.en 0) : Nat) := by
  unfold PS.val
  rw [if_neg (by decide), if_neg (by decide), if_pos rfl]
theorem val_8320 (S : PS) : S.val 8320 = (bw (S.en 1) : Nat) := by
  unfold PS.val
  rw [if_neg (by decide), if_neg (by decide), if_neg (by decide), if_pos rfl]
theorem val_2097152 (S : PS) : S.val 2097152 = S.th 0 := by
  unfold PS.val
  rw [if_neg (by decide), if_neg (by decide), if_neg (by decide), if_neg (by decide), if_pos rfl]
theorem val_2101248 (S : PS) : S.val 2101248 = S.th 1 := by
  unfold PS.val
  rw [if_neg (by decide), if_neg (by decide), if_neg (by decide), if_neg (by decide), if_neg (by decide), if_pos rfl]
theorem val_2097156 (S : PS) : S.val 2097156 = (S.bst 0 : Nat) := by
  unfold PS.val
  rw [if_neg (by decide), if_neg (by decide), if_neg (by decide), if_neg (by decide), if_neg (by decide), if_neg (by decide), if_pos rfl]
theorem val_2101252 (S : PS) : S.val 2101252 = (S.bst 1 : Nat) := by
  unfold PS.val
  rw [if_neg (by decide), if_neg (by decide), if_neg (by decide), if_neg (by decide), if_neg (by decide), if_neg (by decide), if_neg (by decide), if_pos rfl]
theorem put_8192 (S : PS) (v : Int) : S.put 8192 v = S.enab 0 v := by
  unfold PS.put
  rw [if_neg (by decide), if_pos rfl]
theorem put_8320 (S : PS) (v : Int) : S.put 8320 v = S.enab 1 v := by
  unfold PS.put
  rw [if_neg (by decide), if_neg (by decide), if_pos rfl]
theorem put_2097152 (S : PS) (v : Int) : S.put 2097152 v = S.thrs 0 v := by
  unfold PS.put
  rw [if_neg (by decide), if_neg (by decide), if_neg (by decide), if_pos rfl]
theorem put_2101248 (S : PS) (v : Int) : S.put 2101248 v = S.thrs 1 v := by
  unfold PS.put
  rw [if_neg (by decide), if_neg (by decide), if_neg (by decide), if_neg (by decide), if_pos rfl]
theorem put_2097156 (S : PS) (v : Int) : S.put 2097156 v = S.comp 0 v := by
  unfold PS.put
  rw [if_neg (by decide), if_neg (by decide), if_neg (by decide), if_neg (by decide), if_neg (by decide), if_pos rfl]
theorem put_2101252 (S : PS) (v : Int) : S.put 2101252 v = S.comp 1 v := by
  unfold PS.put
  rw [if_neg (by decide), if_neg (by decide), if_neg (by decide), if_neg (by decide), if_neg (by decide), if_neg (by decide), if_pos rfl]
theorem put_4096 (S : PS) (v : Int) : S.put 4096 v = S := by
  unfold PS.put
  rw [if_neg (by decide), if_neg (by decide), if_neg (by decide), if_neg (by decide), if_neg (by decide), if_neg (by decide), if_neg (by decide)]
set_option maxHeartbeats 4000000 in
theorem rload_4096 {w : World} {g : Nat} {S : PS} (m : RP w g S) (ok : S.Ok) : Calls Try.prog 14 #[.pointer (some ⟨g, 0, none⟩), .int .i64 4096, .int .i64 4] w fun e w' => e = .returned (.tuple #[.int .u64 (S.ldV 4096 4), .bool true]) ∧ RP w' g (S.ldS 4096 4) ∧ Fr w w' (fun i => i = g) := by
  have hr : rgO 4096 4 = true := by decide
  have hv : S.ldV 4096 4 = (bw S.pe : Nat) := by unfold PS.ldV; rw [if_pos hr, val_4096]
  rw [hv]
  clear hv hr
  rw [ldS_oth S _ _ (by decide) (by decide)]
  have HM := Lib.hid m
  clear m ok
  go_enter Try.func14, Try.ntmps14
  go_wp2_with (go_at_call 25; (with_reducible refine (rbits_p HM.out).mono ?_); rintro e' w1 ⟨rfl, rfl⟩)
  go_ret2
  exact ⟨rfl, HM.out, Fr.refl _ _⟩
set_option maxHeartbeats 4000000 in
theorem rload_8192 {w : World} {g : Nat} {S : PS} (m : RP w g S) (ok : S.Ok) : Calls Try.prog 14 #[.pointer (some ⟨g, 0, none⟩), .int .i64 8192, .int .i64 4] w fun e w' => e = .returned (.tuple #[.int .u64 (S.ldV 8192 4), .bool true]) ∧ RP w' g (S.ldS 8192 4) ∧ Fr w w' (fun i => i = g) := by
  have hr : rgO 8192 4 = true := by decide
  have hv : S.ldV 8192 4 = (bw (S.en 0) : Nat) := by unfold PS.ldV; rw [if_pos hr, val_8192]
  rw [hv]
  clear hv hr
  rw [ldS_oth S _ _ (by decide) (by decide)]
  have HM := Lib.hid m
  clear m ok
  go_enter Try.func14, Try.ntmps14
  go_wp2_with (go_at_call 25; (with_reducible refine (rbits_0 HM.out).mono ?_); rintro e' w1 ⟨rfl, rfl⟩)
  go_ret2
  exact ⟨rfl, HM.out, Fr.refl _ _⟩
set_option maxHeartbeats 4000000 in
theorem rload_8320 {w : World} {g : Nat} {S : PS} (m : RP w g S) (ok : S.Ok) : Calls Try.prog 14 #[.pointer (some ⟨g, 0, none⟩), .int .i64 8320, .int .i64 4] w fun e w' => e = .returned (.tuple #[.int .u64 (S.ldV 8320 4), .bool true]) ∧ RP w' g (S.ldS 8320 4) ∧ Fr w w' (fun i => i = g) := by
  have hr : rgO 8320 4 = true := by decide
  have hv : S.ldV 8320 4 = (bw (S.en 1) : Nat) := by unfold PS.ldV; rw [if_pos hr, val_8320]
  rw [hv]
  clear hv hr
  rw [ldS_oth S _ _ (by decide) (by decide)]
  have HM := Lib.hid m
  clear m ok
  go_enter Try.func14, Try.ntmps14
  go_wp2_with (go_at_call 25; (with_reducible refine (rbits_1 HM.out).mono ?_); rintro e' w1 ⟨rfl, rfl⟩)
  go_ret2
  exact ⟨rfl, HM.out, Fr.refl _ _⟩
set_option maxHeartbeats 4000000 in
theorem rload_2097152 {w : World} {g : Nat} {S : PS} (m : RP w g S) (ok : S.Ok) : Calls Try.prog 14 #[.pointer (some ⟨g, 0, none⟩), .int .i64 2097152, .int .i64 4] w fun e w' => e = .returned (.tuple #[.int .u64 (S.ldV 2097152 4), .bool true]) ∧ RP w' g (S.ldS 2097152 4) ∧ Fr w w' (fun i => i = g) := by
  have hr : rgO 2097152 4 = true := by decide
  have hv : S.ldV 2097152 4 = S.th 0 := by unfold PS.ldV; rw [if_pos hr, val_2097152]
  rw [hv]
  clear hv hr
  rw [ldS_oth S _ _ (by decide) (by decide)]
  have ct := m.t0
  have h0 := ok.tl 0
  have h1 := ok.th8 0
  have HM := Lib.hid m
  clear m ok
  generalize S.th 0 = t at ct h0 h1 ⊢
  go_enter Try.func14, Try.ntmps14
  go_wp2
  go_ret2
  exact ⟨rfl, HM.out, Fr.refl _ _⟩
set_option maxHeartbeats 4000000 in
theorem rload_2101248 {w : World} {g : Nat} {S : PS} (m : RP w g S) (ok : S.Ok) : Calls Try.prog 14 #[.pointer (some ⟨g, 0, none⟩), .int .i64 2101248, .int .i64 4] w fun e w' => e = .returned (.tuple #[.int .u64 (S.ldV 2101248 4), .bool true]) ∧ RP w' g (S.ldS 2101248 4) ∧ Fr w w' (fun i => i = g) := by
  have hr : rgO 2101248 4 = true := by decide
  have hv : S.ldV 2101248 4 = S.th 1 := by unfold PS.ldV; rw [if_pos hr, val_2101248]
  rw [hv]
  clear hv hr
  rw [ldS_oth S _ _ (by decide) (by decide)]
  have ct := m.t1
  have h0 := ok.tl 1
  have h1 := ok.th8 1
  have HM := Lib.hid m
  clear m ok
  generalize S.th 1 = t at ct h0 h1 ⊢
  go_enter Try.func14, Try.ntmps14
  go_wp2
  go_ret2
  exact ⟨rfl, HM.out, Fr.refl _ _⟩
set_option maxHeartbeats 4000000 in
theorem rload_2097156 {w : World} {g : Nat} {S : PS} (m : RP w g S) (ok : S.Ok) : Calls Try.prog 14 #[.pointer (some ⟨g, 0, none⟩), .int .i64 2097156, .int .i64 4] w fun e w' => e = .returned (.tuple #[.int .u64 (S.ldV 2097156 4), .bool true]) ∧ RP w' g (S.ldS 2097156 4) ∧ Fr w w' (fun i => i = g) := by
  have hr : rgO 2097156 4 = true := by decide
  have hv : S.ldV 2097156 4 = (S.bst 0 : Nat) := by unfold PS.ldV; rw [if_pos hr, val_2097156]
  rw [hv]
  clear hv hr
  have hs : S.ldS 2097156 4 = S.claim 0 := by unfold PS.ldS; rw [if_pos ⟨rfl, rfl⟩]
  rw [hs]
  have HC := Lib.hid (rclaim_w m ok 0 (by decide) 0 rfl)
  have hl := ok.bst_lt 0
  clear m ok hs
  generalize S.bst 0 = b at HC hl ⊢
  go_enter Try.func14, Try.ntmps14
  go_wp2_with (go_at_call 26; (with_reducible refine (HC.out).mono ?_); rintro e' w1 ⟨rfl, m1, f1⟩; have HM1 := Lib.hid m1; have HF1 := Lib.hid f1; clear m1 f1)
  go_ret2
  exact ⟨rfl, HM1.out, HF1.out⟩
set_option maxHeartbeats 4000000 in
theorem rload_2101252 {w : World} {g : Nat} {S : PS} (m : RP w g S) (ok : S.Ok) : Calls Try.prog 14 #[.pointer (some ⟨g, 0, none⟩), .int .i64 2101252, .int .i64 4] w fun e w' => e = .returned (.tuple #[.int .u64 (S.ldV 2101252 4), .bool true]) ∧ RP w' g (S.ldS 2101252 4) ∧ Fr w w' (fun i => i = g) := by
  have hr : rgO 2101252 4 = true := by decide
  have hv : S.ldV 2101252 4 = (S.bst 1 : Nat) := by unfold PS.ldV; rw [if_pos hr, val_2101252]
  rw [hv]
  clear hv hr
  have hs : S.ldS 2101252 4 = S.claim 1 := by unfold PS.ldS; rw [if_neg (by decide), if_pos ⟨rfl, rfl⟩]
  rw [hs]
  have HC := Lib.hid (rclaim_w m ok 1 (by decide) 1 rfl)
  have hl := ok.bst_lt 1
  clear m ok hs
  generalize S.bst 1 = b at HC hl ⊢
  go_enter Try.func14, Try.ntmps14
  go_wp2_with (go_at_call 26; (with_reducible refine (HC.out).mono ?_); rintro e' w1 ⟨rfl, m1, f1⟩; have HM1 := Lib.hid m1; have HF1 := Lib.hid f1; clear m1 f1)
  go_ret2
  exact ⟨rfl, HM1.out, HF1.out⟩
set_option maxHeartbeats 4000000 in
theorem rload_pr {w : World} {g : Nat} {S : PS} (m : RP w g S) (ok : S.Ok) (k : Nat) (h : k < 32) : Calls Try.prog 14 #[.pointer (some ⟨g, 0, none⟩), .int .i64 ((4 * k : Nat) : Int), .int .i64 4] w fun e w' => e = .returned (.tuple #[.int .u64 (S.pr k), .bool true]) ∧ w = w' := by
  have c := m.pr k h
  have h0 := ok.rl k
  have h1 := ok.rh k
  have t0 : decide (0 ≤ ((4 * k : Nat) : Int)) = true := by simp; omega
  have t1 : decide (((4 * k : Nat) : Int) < 128) = true := by simp; omega
  have t2 : (((4 * k : Nat) : Int).tmod 4 == 0) = true := by rw [tmod_zero' _ _ (by decide)]; simp
  have t3 : ((4 * k : Nat) : Int).tdiv 4 = (k : Int) := by rw [Int.tdiv_eq_ediv_of_nonneg (by omega)]; omega
  have t4 : IntKind.i64.wrap (k : Int) = (k : Int) := IntWalk.i64_in _ (by omega)
  have t5 : (k : Int) < 32 := by omega
  have t6 : (0 : Int) ≤ (k : Int) := by omega
  clear m ok
  generalize S.pr k = p at c h0 h1 ⊢
  obtain ⟨o, ho⟩ : ∃ o : Int, ((4 * k : Nat) : Int) = o := ⟨_, rfl⟩
  rw [ho] at t0 t1 t2 t3 ⊢
  have HO := Lib.hid ho
  clear ho
  have HT := Lib.hid t0
  go_enter Try.func14, Try.ntmps14
  go_wp2
  go_ret2
  exact ⟨rfl, rfl⟩
set_option maxHeartbeats 4000000 in
theorem rload_none (w : World) (g : Nat) (off : Int) (h : isPr off = false ∧ (off == 4096) = false ∧ (off == 8192) = false ∧ (off == 8320) = false ∧ (off == 2097152) = false ∧ (off == 2101248) = false ∧ (off == 2097156) = false ∧ (off == 2101252) = false) : Calls Try.prog 14 #[.pointer (some ⟨g, 0, none⟩), .int .i64 off, .int .i64 4] w fun e w' => e = .returned (.tuple #[.int .u64 0, .bool false]) ∧ w = w' := by
  obtain ⟨h0, h1, h2, h3, h4, h5, h6, h7⟩ := h
  rcases isPr_no h0 with t0 | ⟨t0, t1⟩ | ⟨t0, t1, t2⟩
  all_goals
    clear h0
    go_enter Try.func14, Try.ntmps14
    go_wp2
    go_ret2
    exact ⟨rfl, rfl⟩
theorem rload_size (w : World) (g : Nat) (off size : Int) (h : (size == 4) = false) : Calls Try.prog 14 #[.pointer (some ⟨g, 0, none⟩), .int .i64 off, .int .i64 size] w fun e w' => e = .returned (.tuple #[.int .u64 0, .bool false]) ∧ w = w' := by
  have t : (size != 4) = true := by simpa using h
  go_enter Try.func14, Try.ntmps14
  go_wp2
  go_ret2
  exact ⟨rfl, rfl⟩
/-- Load, of anything. -/
theorem rload_w {w : World} {g : Nat} {S : PS} (m : RP w g S) (ok : S.Ok) (off size : Int) :
    Calls Try.prog 14 #[.pointer (some ⟨g, 0, none⟩), .int .i64 off, .int .i64 size] w fun e w' => e = .returned (.tuple #[.int .u64 (S.ldV off size), .bool (rgO off size)]) ∧ RP w' g (S.ldS off size) ∧ Fr w w' (fun i => i = g) := by
  by_cases hs : size = 4
  · subst hs
    rcases rg_ways off with h | h | h | h | h | h | h | h | h
    · obtain ⟨k, rfl, hk⟩ := isPr_nat h
      rw [ldS_oth S _ _ (by omega) (by omega), PS.ldV, rgO_pr k hk, if_pos rfl, val_pr S k hk]
      exact (rload_pr m ok k hk).mono fun e w' x => by obtain ⟨rfl, rfl⟩ := x; exact ⟨rfl, m, Fr.refl _ _⟩
    · subst h; exact rload_4096 m ok
    · subst h; exact rload_8192 m ok
    · subst h; exact rload_8320 m ok
    · subst h; exact rload_2097152 m ok
    · subst h; exact rload_2101248 m ok
    · subst h; exact rload_2097156 m ok
    · subst h; exact rload_2101252 m ok
    · rw [ldS_oth S _ _ (by simpa using h.2.2.2.2.2.2.1) (by simpa using h.2.2.2.2.2.2.2), PS.ldV, rgO_no h, if_neg (by simp)]
      exact (rload_none w g off h).mono fun e w' x => by obtain ⟨rfl, rfl⟩ := x; exact ⟨rfl, m, Fr.refl _ _⟩
  · have hr : rgO off size = false := by unfold rgO; rw [show (size == 4) = false by simpa using hs]; rfl
    rw [ldS_size S off size hs, PS.ldV, hr, if_neg (by simp)]
    exact (rload_size w g off size (by simpa using hs)).mono fun e w' x => by obtain ⟨rfl, rfl⟩ := x; exact ⟨rfl, m, Fr.refl _ _⟩
set_option maxHeartbeats 4000000 in
theorem rstore_4096 {w : World} {g : Nat} {S : PS} (m : RP w g S) (ok : S.Ok) (v : Int) (v0 : 0 ≤ v) (v1 : v < 18446744073709551616) : Calls Try.prog 16 #[.pointer (some ⟨g, 0, none⟩), .int .i64 4096, .int .i64 4, .int .u64 v] w fun e w' => e = .returned (.bool true) ∧ RP w' g (S.put 4096 v) ∧ Fr w w' (fun i => i = g) := by
  rw [put_4096]
  have HM := Lib.hid m
  clear m ok
  go_enter Try.func16, Try.ntmps16
  go_wp2
  go_ret
  exact ⟨rfl, HM.out, Fr.refl _ _⟩
set_option maxHeartbeats 4000000 in
theorem rstore_8192 {w : World} {g : Nat} {S : PS} (m : RP w g S) (ok : S.Ok) (v : Int) (v0 : 0 ≤ v) (v1 : v < 18446744073709551616) : Calls Try.prog 16 #[.pointer (some ⟨g, 0, none⟩), .int .i64 8192, .int .i64 4, .int .u64 v] w fun e w' => e = .returned (.bool true) ∧ RP w' g (S.put 8192 v) ∧ Fr w w' (fun i => i = g) := by
  rw [put_8192]
  have HM := Lib.hid m
  clear m
  go_enter Try.func16, Try.ntmps16
  go_wp2_with (go_at_call 28; (with_reducible refine (renable_0 HM.out ok v v0 v1).mono ?_); rintro e' w1 ⟨rfl, m1, f1⟩; have HM1 := Lib.hid m1; have HF1 := Lib.hid f1; clear m1 f1)
  go_ret
  exact ⟨rfl, HM1.out, HF1.out⟩
set_option maxHeartbeats 4000000 in
theorem rstore_8320 {w : World} {g : Nat} {S : PS} (m : RP w g S) (ok : S.Ok) (v : Int) (v0 : 0 ≤ v) (v1 : v < 18446744073709551616) : Calls Try.prog 16 #[.pointer (some ⟨g, 0, none⟩), .int .i64 8320, .int .i64 4, .int .u64 v] w fun e w' => e = .returned (.bool true) ∧ RP w' g (S.put 8320 v) ∧ Fr w w' (fun i => i = g) := by
  rw [put_8320]
  have HM := Lib.hid m
  clear m
  go_enter Try.func16, Try.ntmps16
  go_wp2_with (go_at_call 28; (with_reducible refine (renable_1 HM.out ok v v0 v1).mono ?_); rintro e' w1 ⟨rfl, m1, f1⟩; have HM1 := Lib.hid m1; have HF1 := Lib.hid f1; clear m1 f1)
  go_ret
  exact ⟨rfl, HM1.out, HF1.out⟩
set_option maxHeartbeats 4000000 in
theorem rstore_2097152 {w : World} {g : Nat} {S : PS} (m : RP w g S) (ok : S.Ok) (v : Int) (v0 : 0 ≤ v) (v1 : v < 18446744073709551616) : Calls Try.prog 16 #[.pointer (some ⟨g, 0, none⟩), .int .i64 2097152, .int .i64 4, .int .u64 v] w fun e w' => e = .returned (.bool true) ∧ RP w' g (S.put 2097152 v) ∧ Fr w w' (fun i => i = g) := by
  rw [put_2097152]
  have ct := m.t0
  have z := m.fz 160
  have HM := Lib.hid (m.setTh 0 (by decide) (v % 8))
  have t : v.tmod 8 = v % 8 := Int.tmod_eq_emod_of_nonneg v0
  have hb0 := Int.emod_nonneg v (show (8 : Int) ≠ 0 by decide)
  have hb1 := Int.emod_lt_of_pos v (show (0 : Int) < 8 by decide)
  have t4 : IntKind.i64.wrap (v % 8) = v % 8 := IntWalk.i64_in _ (by omega)
  clear m ok
  go_enter Try.func16, Try.ntmps16
  go_wp2
  go_ret
  exact ⟨rfl, HM.out, (Fr.refl w (fun i => i = g)).setCell (.inr rfl) _⟩
set_option maxHeartbeats 4000000 in
theorem rstore_2101248 {w : World} {g : Nat} {S : PS} (m : RP w g S) (ok : S.Ok) (v : Int) (v0 : 0 ≤ v) (v1 : v < 18446744073709551616) : Calls Try.prog 16 #[.pointer (some ⟨g, 0, none⟩), .int .i64 2101248, .int .i64 4, .int .u64 v] w fun e w' => e = .returned (.bool true) ∧ RP w' g (S.put 2101248 v) ∧ Fr w w' (fun i => i = g) := by
  rw [put_2101248]
  have ct := m.t1
  have z := m.fz 161
  have HM := Lib.hid (m.setTh 1 (by decide) (v % 8))
  have t : v.tmod 8 = v % 8 := Int.tmod_eq_emod_of_nonneg v0
  have hb0 := Int.emod_nonneg v (show (8 : Int) ≠ 0 by decide)
  have hb1 := Int.emod_lt_of_pos v (show (0 : Int) < 8 by decide)
  have t4 : IntKind.i64.wrap (v % 8) = v % 8 := IntWalk.i64_in _ (by omega)
  clear m ok
  go_enter Try.func16, Try.ntmps16
  go_wp2
  go_ret
  exact ⟨rfl, HM.out, (Fr.refl w (fun i => i = g)).setCell (.inr rfl) _⟩
set_option maxHeartbeats 4000000 in
theorem rstore_2097156 {w : World} {g : Nat} {S : PS} (m : RP w g S) (ok : S.Ok) (v : Int) (v0 : 0 ≤ v) (v1 : v < 18446744073709551616) : Calls Try.prog 16 #[.pointer (some ⟨g, 0, none⟩), .int .i64 2097156, .int .i64 4, .int .u64 v] w fun e w' => e = .returned (.bool true) ∧ RP w' g (S.put 2097156 v) ∧ Fr w w' (fun i => i = g) := by
  rw [put_2097156]
  have HM := Lib.hid m
  clear m
  go_enter Try.func16, Try.ntmps16
  go_wp2_with (go_at_call 29; (with_reducible refine (rcomp_0 HM.out v v0 v1).mono ?_); rintro e' w1 ⟨rfl, m1, f1⟩; have HM1 := Lib.hid m1; have HF1 := Lib.hid f1; clear m1 f1)
  go_ret
  exact ⟨rfl, HM1.out, HF1.out⟩
set_option maxHeartbeats 4000000 in
theorem rstore_2101252 {w : World} {g : Nat} {S : PS} (m : RP w g S) (ok : S.Ok) (v : Int) (v0 : 0 ≤ v) (v1 : v < 18446744073709551616) : Calls Try.prog 16 #[.pointer (some ⟨g, 0, none⟩), .int .i64 2101252, .int .i64 4, .int .u64 v] w fun e w' => e = .returned (.bool true) ∧ RP w' g (S.put 2101252 v) ∧ Fr w w' (fun i => i = g) := by
  rw [put_2101252]
  have HM := Lib.hid m
  clear m
  go_enter Try.func16, Try.ntmps16
  go_wp2_with (go_at_call 29; (with_reducible refine (rcomp_1 HM.out v v0 v1).mono ?_); rintro e' w1 ⟨rfl, m1, f1⟩; have HM1 := Lib.hid m1; have HF1 := Lib.hid f1; clear m1 f1)
  go_ret
  exact ⟨rfl, HM1.out, HF1.out⟩
set_option maxHeartbeats 4000000 in
theorem rstore_pr {w : World} {g : Nat} {S : PS} (m : RP w g S) (ok : S.Ok) (k : Nat) (h : k < 32) (v : Int) (v0 : 0 ≤ v) (v1 : v < 18446744073709551616) : Calls Try.prog 16 #[.pointer (some ⟨g, 0, none⟩), .int .i64 ((4 * k : Nat) : Int), .int .i64 4, .int .u64 v] w fun e w' => e = .returned (.bool true) ∧ RP w' g (S.prio k v) ∧ Fr w w' (fun i => i = g) := by
  have c := m.pr k h
  have z := m.fz (k * 5)
  have t0 : decide (0 ≤ ((4 * k : Nat) : Int)) = true := by simp; omega
  have t1 : decide (((4 * k : Nat) : Int) < 128) = true := by simp; omega
  have t2 : (((4 * k : Nat) : Int).tmod 4 == 0) = true := by rw [tmod_zero' _ _ (by decide)]; simp
  have t3 : ((4 * k : Nat) : Int).tdiv 4 = (k : Int) := by rw [Int.tdiv_eq_ediv_of_nonneg (by omega)]; omega
  have t4 : IntKind.i64.wrap (k : Int) = (k : Int) := IntWalk.i64_in _ (by omega)
  have t5 : (k : Int) < 32 := by omega
  have t6 : (0 : Int) ≤ (k : Int) := by omega
  have t : v.tmod 8 = v % 8 := Int.tmod_eq_emod_of_nonneg v0
  have hb0 := Int.emod_nonneg v (show (8 : Int) ≠ 0 by decide)
  have hb1 := Int.emod_lt_of_pos v (show (0 : Int) < 8 by decide)
  have t8 : IntKind.i64.wrap (v % 8) = v % 8 := IntWalk.i64_in _ (by omega)
  have HM := Lib.hid m
  unfold PS.prio
  by_cases hk : k = 0
  · rw [if_pos hk]
    have t7 : decide (0 < ((4 * k : Nat) : Int)) = false := by simp; omega
    clear m ok
    obtain ⟨o, ho⟩ : ∃ o : Int, ((4 * k : Nat) : Int) = o := ⟨_, rfl⟩
    rw [ho] at t0 t1 t2 t3 t7 ⊢
    clear ho hk
    go_enter Try.func16, Try.ntmps16
    go_wp2
    go_ret
    exact ⟨rfl, HM.out, Fr.refl _ _⟩
  · rw [if_neg hk]
    have t7 : decide (0 < ((4 * k : Nat) : Int)) = true := by simp; omega
    have HD := Lib.hid (m.setPr k h (v % 8))
    clear m ok
    obtain ⟨o, ho⟩ : ∃ o : Int, ((4 * k : Nat) : Int) = o := ⟨_, rfl⟩
    rw [ho] at t0 t1 t2 t3 t7 ⊢
    clear ho hk
    go_enter Try.func16, Try.ntmps16
    go_wp2
    go_ret
    exact ⟨rfl, HD.out, (Fr.refl w (fun i => i = g)).setCell (.inr rfl) _⟩
set_option maxHeartbeats 4000000 in
theorem rstore_none (w : World) (g : Nat) (off v : Int) (h : isPr off = false ∧ (off == 4096) = false ∧ (off == 8192) = false ∧ (off == 8320) = false ∧ (off == 2097152) = false ∧ (off == 2101248) = false ∧ (off == 2097156) = false ∧ (off == 2101252) = false) : Calls Try.prog 16 #[.pointer (some ⟨g, 0, none⟩), .int .i64 off, .int .i64 4, .int .u64 v] w fun e w' => e = .returned (.bool false) ∧ w = w' := by
  obtain ⟨h0, h1, h2, h3, h4, h5, h6, h7⟩ := h
  rcases isPr_no h0 with t0 | ⟨t0, t1⟩ | ⟨t0, t1, t2⟩
  all_goals
    clear h0
    go_enter Try.func16, Try.ntmps16
    go_wp2
    go_ret
    exact ⟨rfl, rfl⟩
theorem rstore_size (w : World) (g : Nat) (off size v : Int) (h : (size == 4) = false) : Calls Try.prog 16 #[.pointer (some ⟨g, 0, none⟩), .int .i64 off, .int .i64 size, .int .u64 v] w fun e w' => e = .returned (.bool false) ∧ w = w' := by
  have t : (size != 4) = true := by simpa using h
  go_enter Try.func16, Try.ntmps16
  go_wp2
  go_ret
  exact ⟨rfl, rfl⟩
/-- Store, of anything. -/
theorem rstore_w {w : World} {g : Nat} {S : PS} (m : RP w g S) (ok : S.Ok) (off size v : Int) (v0 : 0 ≤ v) (v1 : v < 18446744073709551616) :
    Calls Try.prog 16 #[.pointer (some ⟨g, 0, none⟩), .int .i64 off, .int .i64 size, .int .u64 v] w fun e w' => e = .returned (.bool (rgO off size)) ∧ RP w' g (S.stS off size v) ∧ Fr w w' (fun i => i = g) := by
  by_cases hs : size = 4
  · subst hs
    rw [stS_4]
    rcases rg_ways off with h | h | h | h | h | h | h | h | h
    · obtain ⟨k, rfl, hk⟩ := isPr_nat h
      rw [put_pr S k hk, rgO_pr k hk]
      exact rstore_pr m ok k hk v v0 v1
    · subst h; exact rstore_4096 m ok v v0 v1
    · subst h; exact rstore_8192 m ok v v0 v1
    · subst h; exact rstore_8320 m ok v v0 v1
    · subst h; exact rstore_2097152 m ok v v0 v1
    · subst h; exact rstore_2101248 m ok v v0 v1
    · subst h; exact rstore_2097156 m ok v v0 v1
    · subst h; exact rstore_2101252 m ok v v0 v1
    · rw [put_no S v h, rgO_no h]
      exact (rstore_none w g off v h).mono fun e w' x => by obtain ⟨rfl, rfl⟩ := x; exact ⟨rfl, m, Fr.refl _ _⟩
  · have hr : rgO off size = false := by unfold rgO; rw [show (size == 4) = false by simpa using hs]; rfl
    rw [stS_size S off size v hs, hr]
    exact (rstore_size w g off size v (by simpa using hs)).mono fun e w' x => by obtain ⟨rfl, rfl⟩ := x; exact ⟨rfl, m, Fr.refl _ _⟩
end Go.Proofs.Ytamhhdhoeghafaa
