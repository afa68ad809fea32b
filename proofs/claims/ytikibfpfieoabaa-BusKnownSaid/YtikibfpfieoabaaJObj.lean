/-
  The program's bus in memory: five objects, each in blocks of its own, and the block that points to them; its small calls. No condition.
-/
import Derived.Test.YtikibfpfieoabaaJSpec
import Derived.Test.YtikibfpfieoabaaQCode
import Derived.Test.YtikibfpfieoabaaTCode
import Derived.Test.YtikibfpfieoabaaPCode
import Derived.Test.YtikibfpfieoabaaUCode
import Derived.Test.YtikibfpfieoabaaFrAt
import Derived.LoopTactic
import Derived.StillTailTactics
namespace Go.Proofs.Ytikibfpfieoabaa
open Go.ChangeShapes Go.WideShapes Go.ChangeAt Go.RowKit
set_option linter.unusedVariables false
set_option linter.unusedSimpArgs false
set_option maxRecDepth 4000
structure BI (w : World) (lo hi g a1 a2 a3 a4 a5 b1 b2 b3 b4 b5 : Nat) (S : BS) : Prop where
  top : hi ≤ w.heap.size
  l0 : lo ≤ a1
  l1 : a1 ≤ a2
  l2 : a2 ≤ a3
  l3 : a3 ≤ a4
  l4 : a4 ≤ a5
  l5 : a5 ≤ g
  gh : g < hi
  blk : Blk w g 48 [.pointer (some ⟨b1, 0, none⟩), .pointer (some ⟨b2, 0, none⟩), .pointer (some ⟨b3, 0, none⟩), .pointer (some ⟨b4, 0, none⟩), .pointer (some ⟨b5, 0, none⟩)]
  ram : Ob w lo a1 b1 S.B S.T
  cl : Cl w a1 a2 b2 S.t
  pl : Pl w a2 a3 b3 S.p
  ua : Un w a3 a4 b4 S.u
  pw : Pn w a4 a5 b5 S.w
theorem BI.fr {w w' : World} {lo hi g a1 a2 a3 a4 a5 b1 b2 b3 b4 b5 : Nat} {S : BS} {R : Nat → Prop} (m : BI w lo hi g a1 a2 a3 a4 a5 b1 b2 b3 b4 b5 S) (k : Fr w w' R) (h : ∀ i, lo ≤ i → i < hi → ¬ R i) : BI w' lo hi g a1 a2 a3 a4 a5 b1 b2 b3 b4 b5 S := by
  obtain ⟨h0, l0, l1, l2, l3, l4, l5, gh, bl, o1, o2, o3, o4, o5⟩ := m
  exact ⟨Nat.le_trans h0 k.size, l0, l1, l2, l3, l4, l5, gh, bl.fr k (h g (by omega) gh), o1.fr k (fun i _ _ => h i (by omega) (by omega)), o2.fr k (fun i _ _ => h i (by omega) (by omega)), o3.fr k (fun i _ _ => h i (by omega) (by omega)), o4.fr k (fun i _ _ => h i (by omega) (by omega)), o5.fr k (fun i _ _ => h i (by omega) (by omega))⟩
theorem BI.kp {w w' : World} {lo hi g a1 a2 a3 a4 a5 b1 b2 b3 b4 b5 : Nat} {S : BS} (m : BI w lo hi g a1 a2 a3 a4 a5 b1 b2 b3 b4 b5 S) (k : Kp w w') : BI w' lo hi g a1 a2 a3 a4 a5 b1 b2 b3 b4 b5 S := m.fr (Fr.of_kp k (fun _ => False)) (fun _ _ _ h => h)
theorem BI.below {w w' : World} {lo hi g a1 a2 a3 a4 a5 b1 b2 b3 b4 b5 : Nat} {S : BS} (m : BI w lo hi g a1 a2 a3 a4 a5 b1 b2 b3 b4 b5 S) (k : Below w.heap.size w w') : BI w' lo hi g a1 a2 a3 a4 a5 b1 b2 b3 b4 b5 S := m.fr ((Fr.refl w (fun _ => False)).below k (fun _ hi _ => hi)) (fun _ _ _ h => h)
theorem BI.rg {w w' : World} {lo hi g a1 a2 a3 a4 a5 b1 b2 b3 b4 b5 : Nat} {S : BS} {l h : Nat} (m : BI w lo hi g a1 a2 a3 a4 a5 b1 b2 b3 b4 b5 S) (k : Fr w w' (Rg l h)) (h1 : lo ≤ l) (h2 : h ≤ hi) : Fr w w' (Rg lo hi) := k.mono (fun i _ x => ⟨Nat.le_trans h1 x.1, Nat.lt_of_lt_of_le x.2 h2⟩)
theorem BI.up_ram {w w' : World} {lo hi g a1 a2 a3 a4 a5 b1 b2 b3 b4 b5 : Nat} {S : BS} (m : BI w lo hi g a1 a2 a3 a4 a5 b1 b2 b3 b4 b5 S) {B1 : List Int} {T1 : List Bool} (o : Ob w' lo a1 b1 B1 T1) (k : Fr w w' (Rg lo a1)) : BI w' lo hi g a1 a2 a3 a4 a5 b1 b2 b3 b4 b5 { S with B := B1, T := T1 } ∧ Fr w w' (Rg lo hi) := by
  refine ⟨?_, m.rg k (by have := m.l0; have := m.l1; have := m.l2; have := m.l3; have := m.l4; omega) (by have := m.l1; have := m.l2; have := m.l3; have := m.l4; have := m.l5; have := m.gh; omega)⟩
  obtain ⟨h0, l0, l1, l2, l3, l4, l5, gh, bl, o1, o2, o3, o4, o5⟩ := m
  exact ⟨Nat.le_trans h0 k.size, l0, l1, l2, l3, l4, l5, gh, bl.fr k (fun x => by have := x.1; have := x.2; omega), o, o2.fr k (fun i _ _ x => by have := x.1; have := x.2; omega), o3.fr k (fun i _ _ x => by have := x.1; have := x.2; omega), o4.fr k (fun i _ _ x => by have := x.1; have := x.2; omega), o5.fr k (fun i _ _ x => by have := x.1; have := x.2; omega)⟩
theorem BI.up_cl {w w' : World} {lo hi g a1 a2 a3 a4 a5 b1 b2 b3 b4 b5 : Nat} {S : BS} (m : BI w lo hi g a1 a2 a3 a4 a5 b1 b2 b3 b4 b5 S) {t1 : TS} (o : Cl w' a1 a2 b2 t1) (k : Fr w w' (Rg a1 a2)) : BI w' lo hi g a1 a2 a3 a4 a5 b1 b2 b3 b4 b5 { S with t := t1 } ∧ Fr w w' (Rg lo hi) := by
  refine ⟨?_, m.rg k (by have := m.l0; have := m.l1; have := m.l2; have := m.l3; have := m.l4; omega) (by have := m.l1; have := m.l2; have := m.l3; have := m.l4; have := m.l5; have := m.gh; omega)⟩
  obtain ⟨h0, l0, l1, l2, l3, l4, l5, gh, bl, o1, o2, o3, o4, o5⟩ := m
  exact ⟨Nat.le_trans h0 k.size, l0, l1, l2, l3, l4, l5, gh, bl.fr k (fun x => by have := x.1; have := x.2; omega), o1.fr k (fun i _ _ x => by have := x.1; have := x.2; omega), o, o3.fr k (fun i _ _ x => by have := x.1; have := x.2; omega), o4.fr k (fun i _ _ x => by have := x.1; have := x.2; omega), o5.fr k (fun i _ _ x => by have := x.1; have := x.2; omega)⟩
theorem BI.up_pl {w w' : World} {lo hi g a1 a2 a3 a4 a5 b1 b2 b3 b4 b5 : Nat} {S : BS} (m : BI w lo hi g a1 a2 a3 a4 a5 b1 b2 b3 b4 b5 S) {p1 : PS} (o : Pl w' a2 a3 b3 p1) (k : Fr w w' (Rg a2 a3)) : BI w' lo hi g a1 a2 a3 a4 a5 b1 b2 b3 b4 b5 { S with p := p1 } ∧ Fr w w' (Rg lo hi) := by
  refine ⟨?_, m.rg k (by have := m.l0; have := m.l1; have := m.l2; have := m.l3; have := m.l4; omega) (by have := m.l1; have := m.l2; have := m.l3; have := m.l4; have := m.l5; have := m.gh; omega)⟩
  obtain ⟨h0, l0, l1, l2, l3, l4, l5, gh, bl, o1, o2, o3, o4, o5⟩ := m
  exact ⟨Nat.le_trans h0 k.size, l0, l1, l2, l3, l4, l5, gh, bl.fr k (fun x => by have := x.1; have := x.2; omega), o1.fr k (fun i _ _ x => by have := x.1; have := x.2; omega), o2.fr k (fun i _ _ x => by have := x.1; have := x.2; omega), o, o4.fr k (fun i _ _ x => by have := x.1; have := x.2; omega), o5.fr k (fun i _ _ x => by have := x.1; have := x.2; omega)⟩
theorem BI.up_ua {w w' : World} {lo hi g a1 a2 a3 a4 a5 b1 b2 b3 b4 b5 : Nat} {S : BS} (m : BI w lo hi g a1 a2 a3 a4 a5 b1 b2 b3 b4 b5 S) {u1 : US} (o : Un w' a3 a4 b4 u1) (k : Fr w w' (Rg a3 a4)) : BI w' lo hi g a1 a2 a3 a4 a5 b1 b2 b3 b4 b5 { S with u := u1 } ∧ Fr w w' (Rg lo hi) := by
  refine ⟨?_, m.rg k (by have := m.l0; have := m.l1; have := m.l2; have := m.l3; have := m.l4; omega) (by have := m.l1; have := m.l2; have := m.l3; have := m.l4; have := m.l5; have := m.gh; omega)⟩
  obtain ⟨h0, l0, l1, l2, l3, l4, l5, gh, bl, o1, o2, o3, o4, o5⟩ := m
  exact ⟨Nat.le_trans h0 k.size, l0, l1, l2, l3, l4, l5, gh, bl.fr k (fun x => by have := x.1; have := x.2; omega), o1.fr k (fun i _ _ x => by have := x.1; have := x.2; omega), o2.fr k (fun i _ _ x => by have := x.1; have := x.2; omega), o3.fr k (fun i _ _ x => by have := x.1; have := x.2; omega), o, o5.fr k (fun i _ _ x => by have := x.1; have := x.2; omega)⟩
theorem BI.up_pw {w w' : World} {lo hi g a1 a2 a3 a4 a5 b1 b2 b3 b4 b5 : Nat} {S : BS} (m : BI w lo hi g a1 a2 a3 a4 a5 b1 b2 b3 b4 b5 S) {p1 : Bool} (o : Pn w' a4 a5 b5 p1) (k : Fr w w' (Rg a4 a5)) : BI w' lo hi g a1 a2 a3 a4 a5 b1 b2 b3 b4 b5 { S with w := p1 } ∧ Fr w w' (Rg lo hi) := by
  refine ⟨?_, m.rg k (by have := m.l0; have := m.l1; have := m.l2; have := m.l3; have := m.l4; omega) (by have := m.l1; have := m.l2; have := m.l3; have := m.l4; have := m.l5; have := m.gh; omega)⟩
  obtain ⟨h0, l0, l1, l2, l3, l4, l5, gh, bl, o1, o2, o3, o4, o5⟩ := m
  exact ⟨Nat.le_trans h0 k.size, l0, l1, l2, l3, l4, l5, gh, bl.fr k (fun x => by have := x.1; have := x.2; omega), o1.fr k (fun i _ _ x => by have := x.1; have := x.2; omega), o2.fr k (fun i _ _ x => by have := x.1; have := x.2; omega), o3.fr k (fun i _ _ x => by have := x.1; have := x.2; omega), o4.fr k (fun i _ _ x => by have := x.1; have := x.2; omega), o⟩
theorem jsize_w (n : Int) (b : Bool) (hb : szB n = b) (w : World) : Calls Try.prog 44 #[.int .i64 n] w fun e w' => e = .returned (.bool b) ∧ w = w' := by
  rcases (show n = 1 ∨ n = 2 ∨ n = 4 ∨ n = 8 ∨ (¬ n = 1 ∧ ¬ n = 2 ∧ ¬ n = 4 ∧ ¬ n = 8) by omega) with h | h | h | h | ⟨h1, h2, h4, h8⟩
  · subst h; have e : b = true := by rw [← hb]; rfl
    subst e; clear hb
    go_enter Try.func44, Try.ntmps44
    go_wp2
    go_ret
    exact ⟨rfl, rfl⟩
  · subst h; have e : b = true := by rw [← hb]; rfl
    subst e; clear hb
    go_enter Try.func44, Try.ntmps44
    go_wp2
    go_ret
    exact ⟨rfl, rfl⟩
  · subst h; have e : b = true := by rw [← hb]; rfl
    subst e; clear hb
    go_enter Try.func44, Try.ntmps44
    go_wp2
    go_ret
    exact ⟨rfl, rfl⟩
  · subst h; have e : b = true := by rw [← hb]; rfl
    subst e; clear hb
    go_enter Try.func44, Try.ntmps44
    go_wp2
    go_ret
    exact ⟨rfl, rfl⟩
  · have e : b = false := by rw [← hb]; simp [szB, h1, h2, h4, h8]
    subst e; clear hb
    have t1 : (n == 1) = false := by simpa using h1
    have t2 : (n == 2) = false := by simpa using h2
    have t4 : (n == 4) = false := by simpa using h4
    have t8 : (n == 8) = false := by simpa using h8
    have t1' : (1 == n) = false := by simp; omega
    have t2' : (2 == n) = false := by simp; omega
    have t4' : (4 == n) = false := by simp; omega
    have t8' : (8 == n) = false := by simp; omega
    clear h1 h2 h4 h8
    go_enter Try.func44, Try.ntmps44
    go_wp2
    go_ret
    exact ⟨rfl, rfl⟩
theorem jlen_w {w : World} {lo hi g : Nat} {B : List Int} {T : List Bool} (m : Ob w lo hi g B T) : Calls Try.prog 41 #[.pointer (some ⟨g, 0, none⟩)] w fun e w' => e = .returned (.int .i64 (B.length : Int)) ∧ w = w' := by
  obtain ⟨gb, W, c, _, _⟩ := m.cm
  have c0 := c.c0
  clear m c
  go_enter Try.func41, Try.ntmps41
  go_wp2
  go_ret
  exact ⟨rfl, rfl⟩
set_option maxHeartbeats 4000000 in
theorem jmem_w {w : World} {lo hi g a1 a2 a3 a4 a5 b1 b2 b3 b4 b5 : Nat} {S : BS} (m : BI w lo hi g a1 a2 a3 a4 a5 b1 b2 b3 b4 b5 S) (n : Int) (hn : (S.B.length : Int) = n) : Calls Try.prog 26 #[.pointer (some ⟨g, 0, none⟩)] w fun e w' => e = .returned (.agg #[.int .u64 2147483648, .int .u64 n]) ∧ Kp w w' := by
  have hl := m.ram.lim
  have h1 : (0 : Int) ≤ n := by omega
  have h2 : n < 65537 := by omega
  have hw : IntKind.u64.wrap n = n := IntWalk.u64_in _ (by omega)
  have k := (Kp.refl w).allocs #[.int .u64 0, .int .u64 0] 63
  have c0 : (w.alloc (.cells #[.int .u64 0, .int .u64 0] 63)).cell? ⟨g, 0, none⟩ = some (.pointer (some ⟨b1, 0, none⟩)) := (k.cell (p := ⟨g, 0, none⟩) m.blk.lt).trans (m.blk.at_ 0 _ rfl)
  have HK := Lib.hid k
  have HL := Lib.hid ((jlen_w (m.kp k).ram).mono fun e w' x => (⟨x.1.trans (by rw [hn]), x.2⟩ : e = .returned (.int .i64 n) ∧ _ = w'))
  clear m k hl hn
  go_enter Try.func26, Try.ntmps26
  go_wp2_with (go_at_call 41; (with_reducible refine HL.out.mono ?_); rintro e' w1 ⟨rfl, rfl⟩)
  refine bodyPost_ret (v := .agg #[.int .u64 2147483648, .int .u64 n]) ?_ rfl ⟨rfl, ?_⟩
  · simp [results, Try.results26, go_sem]
  · repeat' (first | with_reducible refine Kp.setCell ?_ ?_ _ | with_reducible refine Kp.allocs ?_ _ _)
    all_goals first | exact Kp.refl _ | (dsimp only; omega)
theorem jbehind_w (b s pa : Int) (b0 : 0 ≤ b) (h : b ≤ pa) (h1 : pa < b + 9223372036854775808) (p1 : pa < 18446744073709551616) (w : World) : Calls Try.prog 27 #[.agg #[.int .u64 b, .int .u64 s], .int .u64 pa] w fun e w' => e = .returned (.int .i64 (pa - b)) ∧ Kp w w' := by
  obtain ⟨x, hx⟩ : ∃ x, pa - b = x := ⟨_, rfl⟩
  have x0 : 0 ≤ x := by omega
  have x1 : x < 9223372036854775808 := by omega
  have hw : IntKind.u64.wrap (pa - b) = x := by rw [IntWalk.u64_in _ (by omega)]; exact hx
  have hi : IntKind.i64.wrap x = x := IntWalk.i64_in _ (by omega)
  rw [hx]
  clear h h1 hx
  go_enter Try.func27, Try.ntmps27
  go_wp2
  go_ret
  exact ⟨rfl, (Kp.refl w).allocs _ _⟩
set_option maxHeartbeats 4000000 in
theorem jhas_w (b s pa n : Int) (c : Bool) (hc : inJ pa n b s = c) (b0 : 0 ≤ b) (s0 : 0 ≤ s) (bs : b + s ≤ 4294967296) (p0 : 0 ≤ pa) (p1 : pa < 18446744073709551616) (n0 : -9223372036854775808 ≤ n) (n1 : n < 9223372036854775808) (w : World) : Calls Try.prog 34 #[.agg #[.int .u64 b, .int .u64 s], .int .u64 pa, .int .i64 n] w fun e w' => e = .returned (.bool c) ∧ Kp w w' := by
  by_cases h : n ≤ 0
  · have t0 : decide (n ≤ 0) = true := by simpa using h
    have e : (n == 0) = c := by
      rw [← hc, inJ]
      by_cases hz : n = 0
      · subst hz; simp
      · have e1 : decide (0 ≤ n) = false := by simp; omega
        have e2 : (n == 0) = false := by simp; omega
        rw [e1, e2]; rfl
    clear hc h
    go_enter Try.func34, Try.ntmps34
    go_wp2
    go_ret
    exact ⟨rfl, (Kp.refl w).allocs _ _⟩
  by_cases h2 : n ≤ s
  · have t0 : decide (n ≤ 0) = false := by simp; omega
    have hw : IntKind.u64.wrap n = n := IntWalk.u64_in _ (by omega)
    have t1 : decide (n ≤ s) = true := by simpa using h2
    have hs : IntKind.u64.wrap (s - n) = s - n := IntWalk.u64_in _ (by omega)
    obtain ⟨x, hx⟩ : ∃ x, IntKind.u64.wrap (pa - b) = x := ⟨_, rfl⟩
    obtain ⟨y, hy⟩ : ∃ y, s - n = y := ⟨_, rfl⟩
    have hq : decide (x ≤ y) = c := by
      rw [← hc, ← hx, ← hy, IntKind.wrap_u64, inJ]
      have e1 : decide (0 ≤ n) = true := by simp; omega
      have e2 : (n == 0) = false := by simp; omega
      rw [e1, e2, Bool.true_and, Bool.false_or]
      by_cases h3 : b ≤ pa
      · have e3 : (pa - b) % 18446744073709551616 = pa - b := by omega
        rw [e3]; simp [h3]; omega
      · have e3 : (pa - b) % 18446744073709551616 = pa - b + 18446744073709551616 := by omega
        rw [e3]; simp [h3]; omega
    rw [hy] at hs
    clear hc h h2
    go_enter Try.func34, Try.ntmps34
    go_wp2
    go_ret
    exact ⟨rfl, (Kp.refl w).allocs _ _⟩
  · have t0 : decide (n ≤ 0) = false := by simp; omega
    have hw : IntKind.u64.wrap n = n := IntWalk.u64_in _ (by omega)
    have t1 : decide (n ≤ s) = false := by simp; omega
    have e : false = c := by rw [← hc, inJ]; simp; omega
    subst e
    clear hc h h2
    go_enter Try.func34, Try.ntmps34
    go_wp2
    go_ret
    exact ⟨rfl, (Kp.refl w).allocs _ _⟩
end Go.Proofs.Ytikibfpfieoabaa
