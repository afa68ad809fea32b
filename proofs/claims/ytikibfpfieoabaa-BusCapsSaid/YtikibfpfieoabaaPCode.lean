/-
  The program's interrupt controller: its calls. No condition.
-/
import Derived.Test.YtikibfpfieoabaaPCalls
namespace Go.Proofs.Ytikibfpfieoabaa
open Go.ChangeShapes Go.WideShapes Go.ChangeAt Go.RowKit
set_option linter.unusedVariables false
set_option linter.unusedSimpArgs false
set_option maxRecDepth 4000
/-- What the calls lean on in a world: no table. -/
structure PTb (w : World) : Prop where
  any : w.heap.size = w.heap.size
theorem PTb.below {w w' : World} (h : PTb w) (k : Below w.heap.size w w') : PTb w' := ⟨rfl⟩
theorem PTb.h1 {w w' : World} (h : Hid (PTb w)) (k : Hid (Below w.heap.size w w')) : PTb w' := h.out.below k.out
theorem ptb_any (w : World) : PTb w := ⟨rfl⟩
/-- A controller: its blocks stand from lo on, below hi. -/
structure Pl (w : World) (lo hi g : Nat) (S : PS) : Prop where
  top : hi ≤ w.heap.size
  bot : lo ≤ g
  gh : g < hi
  cp : ∃ Q, CP w g S Q
theorem Pl.fr {w w' : World} {lo hi g : Nat} {S : PS} {R : Nat → Prop} (m : Pl w lo hi g S) (k : Fr w w' R) (h : ∀ i, lo ≤ i → i < hi → ¬ R i) : Pl w' lo hi g S := by
  obtain ⟨Q, c⟩ := m.cp
  exact ⟨Nat.le_trans m.top k.size, m.bot, m.gh, Q, c.fr k (h g m.bot m.gh)⟩
theorem Pl.up {w w' : World} {lo hi g : Nat} {S S' : PS} (m : Pl w lo hi g S) (c : ∃ Q, CP w' g S' Q) (k : Fr w w' (fun i => i = g)) : Pl w' lo hi g S' := ⟨Nat.le_trans m.top k.size, m.bot, m.gh, c⟩
theorem fr_pl {w w' : World} {lo hi g : Nat} {S : PS} (m : Pl w lo hi g S) (k : Fr w w' (fun i => i = g)) : Fr w w' (Rg lo hi) := k.mono (fun i _ h => by subst h; exact ⟨m.bot, m.gh⟩)
/-- The zero value's cells. -/
def cplZ : List Value := List.replicate 38 (.int .u32 0)
theorem cplic_zero (w : World) : (zeroValue 99 : Sem Value).run Try.prog w = .ok (.agg cplZ.toArray) w := by kernel_rfl
theorem cplic_ne : (cplZ.toArray = #[]) = False := by simp [cplZ]
theorem cplZ_at (i : Nat) (h : i < 38) : cplZ[i]? = some (.int .u32 0) := by rw [cplZ, List.getElem?_replicate, if_pos h]
theorem bw_zero : bw (fun _ => false) = 0 := bw_of 0 (by decide) _ (fun i _ => by simp)
set_option maxHeartbeats 4000000 in
theorem cpnew_w (w : World) (tb : PTb w) : Calls Try.prog 21 #[] w fun e w' => ∃ g, e = .returned (.pointer (some ⟨g, 0, none⟩)) ∧ Pl w' w.heap.size w'.heap.size g PS.new ∧ Below w.heap.size w w' := by
  have k2 := cplic_zero
  have k3 := cplic_ne
  go_enter Try.func21, Try.ntmps21
  go_wp2
  have b := Blk.new w 99 cplZ
  have a := b.at_
  have z : ((bw (fun _ => false) : Nat) : Int) = 0 := by rw [bw_zero]; rfl
  refine bodyPost_ret (v := .pointer (some ⟨w.heap.size, 0, none⟩)) ?_ rfl ⟨_, rfl, ⟨Nat.le_refl _, Nat.le_refl _, b.lt, 0, ⟨b.lt, b.frozen, ?_, a 1 _ (cplZ_at 1 (by decide)), fun i h => a _ _ (cplZ_at _ (by omega)), fun c h => ?_, fun c h => a _ _ (cplZ_at _ (by omega)), by decide, fun i _ _ => by simp [PS.new]⟩⟩, (Below.refl _ w).alloc (Nat.le_refl _) _⟩
  · simp [results, Try.results21, go_sem]
  · rw [show PS.new.pe = fun _ => false from rfl, z]; exact a 0 _ (cplZ_at 0 (by decide))
  · rw [show PS.new.en c = fun _ => false from rfl, z]; exact a _ _ (cplZ_at _ (by omega))
set_option maxHeartbeats 4000000 in
theorem cppend_no (w : World) (g : Nat) (c : Int) (h : (c == 0 || c == 1) = false) : Calls Try.prog 33 #[.pointer (some ⟨g, 0, none⟩), .int .i64 c] w fun e w' => e = .returned (.bool false) ∧ w = w' := by
  simp only [Bool.or_eq_false_iff, beq_eq_false_iff_ne] at h
  obtain ⟨h0, h1⟩ := h
  by_cases hn : c < 0
  · have t0 : decide (c < 0) = true := by simpa using hn
    clear h0 h1 hn
    go_enter Try.func33, Try.ntmps33
    go_wp2
    go_ret
    exact ⟨rfl, rfl⟩
  · have t0 : decide (c < 0) = false := by simpa using hn
    have t1 : decide (2 ≤ c) = true := by simp; omega
    clear h0 h1 hn
    go_enter Try.func33, Try.ntmps33
    go_wp2
    go_ret
    exact ⟨rfl, rfl⟩
set_option maxHeartbeats 4000000 in
theorem cppend_0 {w : World} {lo hi g : Nat} {S : PS} (m : Pl w lo hi g S) (ok : S.Ok) : Calls Try.prog 33 #[.pointer (some ⟨g, 0, none⟩), .int .i64 0] w fun e w' => e = .returned (.bool (decide (S.th 0 < S.pr (S.bst 0)))) ∧ Kp w w' := by
  obtain ⟨Q, cp⟩ := m.cp
  have hcall := Lib.hid (fun n => cfirst_q cp ok 0 (by decide) 34 rfl n)
  have hb := ok.bst_lt 0
  have ct : w.cell? ⟨g, 35, none⟩ = _ := cp.th 0 (by decide)
  have cr := cp.pr (S.bst 0) hb
  clear m cp
  generalize S.bst 0 = b at *
  have f0 : (0 : Int) ≤ (b : Int) := by omega
  have f1 : (b : Int) < 32 := by omega
  go_enter Try.func33, Try.ntmps33
  go_wp2
  go_quiet ((go_at_call 47; exact hcall.out _))
  go_wp2
  go_ret
  exact ⟨rfl, (Kp.refl w).drewN nq⟩
set_option maxHeartbeats 4000000 in
theorem cppend_1 {w : World} {lo hi g : Nat} {S : PS} (m : Pl w lo hi g S) (ok : S.Ok) : Calls Try.prog 33 #[.pointer (some ⟨g, 0, none⟩), .int .i64 1] w fun e w' => e = .returned (.bool (decide (S.th 1 < S.pr (S.bst 1)))) ∧ Kp w w' := by
  obtain ⟨Q, cp⟩ := m.cp
  have hcall := Lib.hid (fun n => cfirst_q cp ok 1 (by decide) 36 rfl n)
  have hb := ok.bst_lt 1
  have ct : w.cell? ⟨g, 37, none⟩ = _ := cp.th 1 (by decide)
  have cr := cp.pr (S.bst 1) hb
  clear m cp
  generalize S.bst 1 = b at *
  have f0 : (0 : Int) ≤ (b : Int) := by omega
  have f1 : (b : Int) < 32 := by omega
  go_enter Try.func33, Try.ntmps33
  go_wp2
  go_quiet ((go_at_call 47; exact hcall.out _))
  go_wp2
  go_ret
  exact ⟨rfl, (Kp.refl w).drewN nq⟩
theorem cppend_w {w : World} {lo hi g : Nat} {S : PS} (m : Pl w lo hi g S) (ok : S.Ok) (tb : PTb w) (c : Int) (c0 : -9223372036854775808 ≤ c) (c1 : c < 9223372036854775808) : Calls Try.prog 33 #[.pointer (some ⟨g, 0, none⟩), .int .i64 c] w fun e w' => e = .returned (.bool (S.pend c)) ∧ Pl w' lo hi g S ∧ Fr w w' (Rg lo hi) := by
  have hk : ∀ w', Kp w w' → Pl w' lo hi g S ∧ Fr w w' (Rg lo hi) := fun w' k => ⟨m.fr (Fr.of_kp k (fun _ => False)) (fun _ _ _ h => h), Fr.of_kp k _⟩
  by_cases h0 : c = 0
  · subst h0
    exact (cppend_0 m ok).mono fun e w' x => ⟨x.1, hk w' x.2⟩
  · by_cases h1 : c = 1
    · subst h1
      exact (cppend_1 m ok).mono fun e w' x => ⟨x.1, hk w' x.2⟩
    · have h : (c == 0 || c == 1) = false := by simp [h0, h1]
      have e : S.pend c = false := by unfold PS.pend; rw [h]; rfl
      rw [e]
      exact (cppend_no w g c h).mono fun e w' x => by obtain ⟨rfl, rfl⟩ := x; exact ⟨rfl, m, Fr.refl _ _⟩
theorem cpload_w {w : World} {lo hi g : Nat} {S : PS} (m : Pl w lo hi g S) (ok : S.Ok) (tb : PTb w) (off size : Int) (o0 : -9223372036854775808 ≤ off) (o1 : off < 9223372036854775808) (s0 : -9223372036854775808 ≤ size) (s1 : size < 9223372036854775808) : Calls Try.prog 87 #[.pointer (some ⟨g, 0, none⟩), .int .i64 off, .int .i64 size] w fun e w' => e = .returned (.tuple #[.int .u64 (S.ldV off size), .bool (rgO off size)]) ∧ Pl w' lo hi g (S.ldS off size) ∧ Fr w w' (Rg lo hi) := by
  obtain ⟨Q, cp⟩ := m.cp
  have hno : rgO off size = false → S.ldS off size = S → Calls Try.prog 87 #[.pointer (some ⟨g, 0, none⟩), .int .i64 off, .int .i64 size] w fun e w' => e = .returned (.tuple #[.int .u64 (S.ldV off size), .bool (rgO off size)]) ∧ Pl w' lo hi g (S.ldS off size) ∧ Fr w w' (Rg lo hi) := fun h hs => by
    rw [hs, PS.ldV, h]
    exact (cpload_no w g off size h).mono fun e w' x => by obtain ⟨rfl, rfl⟩ := x; exact ⟨rfl, m, Fr.refl _ _⟩
  by_cases hs : size = 4
  · subst hs
    rcases rg_ways off with h | rfl | rfl | rfl | rfl | rfl | rfl | rfl | h
    · obtain ⟨k, rfl, hk⟩ := isPr_nat h
      rw [ldS_oth S _ _ (by omega) (by omega), PS.ldV, rgO_pr k hk, if_pos rfl, val_pr S k hk]
      exact (cload_pr cp ok k hk).mono fun e w' x => ⟨x.1, m.up x.2.1 x.2.2, fr_pl m x.2.2⟩
    · rw [PS.ldV, show rgO 4096 4 = true by decide, if_pos rfl, val_4096, ldS_oth S _ _ (by decide) (by decide)]
      exact (cload_pe cp ok).mono fun e w' x => ⟨x.1, m.up x.2.1 x.2.2, fr_pl m x.2.2⟩
    · rw [PS.ldV, show rgO 8192 4 = true by decide, if_pos rfl, val_8192, ldS_oth S _ _ (by decide) (by decide)]
      exact (cload_en0 cp ok).mono fun e w' x => ⟨x.1, m.up x.2.1 x.2.2, fr_pl m x.2.2⟩
    · rw [PS.ldV, show rgO 8320 4 = true by decide, if_pos rfl, val_8320, ldS_oth S _ _ (by decide) (by decide)]
      exact (cload_en1 cp ok).mono fun e w' x => ⟨x.1, m.up x.2.1 x.2.2, fr_pl m x.2.2⟩
    · rw [PS.ldV, show rgO 2097152 4 = true by decide, if_pos rfl, val_2097152, ldS_oth S _ _ (by decide) (by decide)]
      exact (cload_th0 cp ok).mono fun e w' x => ⟨x.1, m.up x.2.1 x.2.2, fr_pl m x.2.2⟩
    · rw [PS.ldV, show rgO 2101248 4 = true by decide, if_pos rfl, val_2101248, ldS_oth S _ _ (by decide) (by decide)]
      exact (cload_th1 cp ok).mono fun e w' x => ⟨x.1, m.up x.2.1 x.2.2, fr_pl m x.2.2⟩
    · rw [PS.ldV, show rgO 2097156 4 = true by decide, if_pos rfl, val_2097156, show S.ldS 2097156 4 = S.claim 0 from rfl]
      exact (cload_cl0 cp ok).mono fun e w' x => ⟨x.1, m.up x.2.1 x.2.2, fr_pl m x.2.2⟩
    · rw [PS.ldV, show rgO 2101252 4 = true by decide, if_pos rfl, val_2101252, show S.ldS 2101252 4 = S.claim 1 from rfl]
      exact (cload_cl1 cp ok).mono fun e w' x => ⟨x.1, m.up x.2.1 x.2.2, fr_pl m x.2.2⟩
    · exact hno (rgO_no h) (ldS_oth S _ _ (by simpa using h.2.2.2.2.2.2.1) (by simpa using h.2.2.2.2.2.2.2))
  · have hr : rgO off size = false := by unfold rgO; rw [show (size == 4) = false by simpa using hs]; rfl
    exact hno hr (ldS_size S off size hs)
theorem cpstore_w {w : World} {lo hi g : Nat} {S : PS} (m : Pl w lo hi g S) (ok : S.Ok) (tb : PTb w) (off size v : Int) (o0 : -9223372036854775808 ≤ off) (o1 : off < 9223372036854775808) (s0 : -9223372036854775808 ≤ size) (s1 : size < 9223372036854775808) (v0 : 0 ≤ v) (v1 : v < 18446744073709551616) : Calls Try.prog 88 #[.pointer (some ⟨g, 0, none⟩), .int .i64 off, .int .i64 size, .int .u64 v] w fun e w' => e = .returned (.bool (rgO off size)) ∧ Pl w' lo hi g (S.stS off size v) ∧ Fr w w' (Rg lo hi) := by
  obtain ⟨Q, cp⟩ := m.cp
  have hno : rgO off size = false → S.stS off size v = S → Calls Try.prog 88 #[.pointer (some ⟨g, 0, none⟩), .int .i64 off, .int .i64 size, .int .u64 v] w fun e w' => e = .returned (.bool (rgO off size)) ∧ Pl w' lo hi g (S.stS off size v) ∧ Fr w w' (Rg lo hi) := fun h hs => by
    rw [hs, h]
    exact (cpstore_no w g off size v h).mono fun e w' x => by obtain ⟨rfl, rfl⟩ := x; exact ⟨rfl, m, Fr.refl _ _⟩
  by_cases hs : size = 4
  · subst hs
    rcases rg_ways off with h | rfl | rfl | rfl | rfl | rfl | rfl | rfl | h
    · obtain ⟨k, rfl, hk⟩ := isPr_nat h
      rw [stS_4, put_pr S k hk, rgO_pr k hk]
      exact (cstore_pr cp ok k hk v v0 v1).mono fun e w' x => ⟨x.1, m.up x.2.1 x.2.2, fr_pl m x.2.2⟩
    · rw [stS_4, put_4096, show rgO 4096 4 = true by decide]
      exact (cstore_pe cp ok v v0 v1).mono fun e w' x => ⟨x.1, m.up x.2.1 x.2.2, fr_pl m x.2.2⟩
    · rw [stS_4, put_8192, show rgO 8192 4 = true by decide]
      exact (cstore_en0 cp ok v v0 v1).mono fun e w' x => ⟨x.1, m.up x.2.1 x.2.2, fr_pl m x.2.2⟩
    · rw [stS_4, put_8320, show rgO 8320 4 = true by decide]
      exact (cstore_en1 cp ok v v0 v1).mono fun e w' x => ⟨x.1, m.up x.2.1 x.2.2, fr_pl m x.2.2⟩
    · rw [stS_4, put_2097152, show rgO 2097152 4 = true by decide]
      exact (cstore_th0 cp ok v v0 v1).mono fun e w' x => ⟨x.1, m.up x.2.1 x.2.2, fr_pl m x.2.2⟩
    · rw [stS_4, put_2101248, show rgO 2101248 4 = true by decide]
      exact (cstore_th1 cp ok v v0 v1).mono fun e w' x => ⟨x.1, m.up x.2.1 x.2.2, fr_pl m x.2.2⟩
    · rw [stS_4, put_2097156, show rgO 2097156 4 = true by decide]
      exact (cstore_cl0 cp ok v v0 v1).mono fun e w' x => ⟨x.1, m.up x.2.1 x.2.2, fr_pl m x.2.2⟩
    · rw [stS_4, put_2101252, show rgO 2101252 4 = true by decide]
      exact (cstore_cl1 cp ok v v0 v1).mono fun e w' x => ⟨x.1, m.up x.2.1 x.2.2, fr_pl m x.2.2⟩
    · exact hno (rgO_no h) (by rw [stS_4, put_no S v h])
  · have hr : rgO off size = false := by unfold rgO; rw [show (size == 4) = false by simpa using hs]; rfl
    exact hno hr (stS_size S off size v hs)
end Go.Proofs.Ytikibfpfieoabaa
