/-
  The capabilities of layer 6's own 'works', and what is answered of them. No condition.
-/
import Derived.Test.YtkddgjaflcjhiaaOHas
import Derived.Test.YtkddgjaflcjhiaaOSame
import Derived.Test.YtkddgjaflcjhiaaCSeal
import Derived.Test.YtkddgjaflcjhiaaCLess
namespace Go.Proofs.Ytkddgjaflcjhiaa
open Go.ChangeShapes Go.WideShapes Go.ChangeAt Go.RowKit Go.Maps
set_option linter.unusedVariables false
set_option linter.unusedSimpArgs false

/-- A root's mode. -/
def mdV (mo : Int) : Int := if mo = 1 then 1 else 0
theorem mdV_bd (mo : Int) : 0 ≤ mdV mo ∧ mdV mo < 2 := by unfold mdV; split <;> omega
theorem root_m (mo n : Int) (w : World) :
    Calls Try.prog 4 #[mo, .int .u64 n] w fun e' w' => e' = .returned (.agg #[true, .int .i64 65535, .int .i64 262143, .int .i64 (mdV mo), .int .i64 52, (), (), true, .int .u64 n]) ∧ Kp w w' := by
  have k11 : ∀ n : Nat, n < n + 1 + 1 := fun n => by omega
  have hm : (mo == 1) = true ∨ (mo == 1) = false := by cases (mo == 1) <;> simp
  rcases hm with hm | hm
  all_goals
    go_enter Try.func4, Try.ntmps4
    go_wp2_with (first
      | (go_at_call 6; (with_reducible refine (number_w _ _).mono ?_); rintro e' w1 ⟨rfl, qk⟩; have HKw1 := Lib.hid qk; have qw10 : w1.cell? ⟨w.heap.size, 0, none⟩ = some (.bool false) := qk.c; have qw11 : w1.cell? ⟨w.heap.size, 1, none⟩ = some (.int .i64 0) := qk.c; have qw12 : w1.cell? ⟨w.heap.size, 2, none⟩ = some (.int .i64 0) := qk.c; have qw13 : w1.cell? ⟨w.heap.size, 3, none⟩ = some (.int .i64 0) := qk.c; have qw14 : w1.cell? ⟨w.heap.size, 4, none⟩ = some (.int .i64 0) := qk.c; have qw15 : w1.cell? ⟨w.heap.size, 5, none⟩ = some (.int .i64 0) := qk.c; have qw16 : w1.cell? ⟨w.heap.size, 6, none⟩ = some (.int .i64 0) := qk.c; have qw17 : w1.cell? ⟨w.heap.size, 7, none⟩ = some (.bool false) := qk.c; have qw18 : w1.cell? ⟨w.heap.size, 8, none⟩ = some (.int .u64 0) := qk.c; have zw10 : w1.frozen? ⟨w.heap.size, 0, none⟩ = false := qk.z; have zw11 : w1.frozen? ⟨w.heap.size, 1, none⟩ = false := qk.z; have zw12 : w1.frozen? ⟨w.heap.size, 2, none⟩ = false := qk.z; have zw13 : w1.frozen? ⟨w.heap.size, 3, none⟩ = false := qk.z; have zw14 : w1.frozen? ⟨w.heap.size, 4, none⟩ = false := qk.z; have zw15 : w1.frozen? ⟨w.heap.size, 5, none⟩ = false := qk.z; have zw16 : w1.frozen? ⟨w.heap.size, 6, none⟩ = false := qk.z; have zw17 : w1.frozen? ⟨w.heap.size, 7, none⟩ = false := qk.z; have zw18 : w1.frozen? ⟨w.heap.size, 8, none⟩ = false := qk.z; have sz := qk.size; (try simp at sz); have KW := Lib.hid (Kp.trans ((Kp.refl w).allocs _ _) qk); have ql0 : w.heap.size < w1.heap.size := (by omega); have ql1 : ¬ w.heap.size = w1.heap.size := (by omega); have ql2 : ¬ w1.heap.size = w.heap.size := (by omega); clear qk))
    refine bodyPost_ret (v := .agg #[true, .int .i64 65535, .int .i64 262143, .int .i64 (mdV mo), .int .i64 52, (), (), true, .int .u64 n]) ?_ rfl ⟨rfl, ?_⟩
    · have hm' := hm
      simp at hm'
      simp [results, Try.results4, go_sem, mdV, *]
    · repeat' (first | with_reducible refine Kp.setCell ?_ ?_ _ | with_reducible refine Kp.allocs ?_ _ _)
      all_goals first | exact KW.out | (dsimp only; omega)
def kR : Cp := ⟨true, 65535, 262143, 0, 52, 0, 0, true, 5⟩
def kT : Cp := ⟨true, 65535, 262143, 1, 52, 0, 0, true, 9⟩
def kS : Cp := ⟨true, 65535, 5, 1, 52, 0, 0, true, 9⟩
def kU : Cp := ⟨true, 65279, 262143, 0, 52, 0, 0, true, 5⟩
theorem rc_R : RC kR := ⟨by decide, by decide, by decide, by decide, by decide, by decide, ⟨by decide, by decide, by decide, by decide, by decide, by decide, by decide, by decide⟩⟩
theorem rc_T : RC kT := ⟨by decide, by decide, by decide, by decide, by decide, by decide, ⟨by decide, by decide, by decide, by decide, by decide, by decide, by decide, by decide⟩⟩
theorem rc_S : RC kS := ⟨by decide, by decide, by decide, by decide, by decide, by decide, ⟨by decide, by decide, by decide, by decide, by decide, by decide, by decide, by decide⟩⟩
theorem rc_U : RC kU := ⟨by decide, by decide, by decide, by decide, by decide, by decide, ⟨by decide, by decide, by decide, by decide, by decide, by decide, by decide, by decide⟩⟩
theorem clo_SU : clo [kS, kU] = [kS, kU] := by decide +kernel
theorem clo_SR : clo [kS, kR] = [kS, kR, kT] := by decide +kernel
theorem has_SRT : hasB [kS, kR] kT = true := by decide +kernel
theorem has_ST : hasB [kS] kT = false := by decide +kernel
theorem has_nR : hasB [] kR = false := by decide +kernel
theorem less_UR : lessB kU kR = true := by decide +kernel
theorem less_RU : lessB kR kU = false := by decide +kernel
theorem rd_new (L : List Cp) (w : World) : Rd (w.alloc (.cells (vsL L).toArray 25)) (w.alloc (.cells (vsL L).toArray 25)).heap.size (some ⟨w.heap.size, 0, none⟩) L := fun _ =>
  ⟨w.heap.size, 0, rfl, by simp, fun i c hi k v hk => by
    have := At.new w (vsL L) 25 _ _ (vsL_at L i c hi k v hk)
    rw [← this]; congr 2; omega⟩
theorem Rd.below {w w' : World} {n : Nat} {A : Option Addr} {L : List Cp} (h : Rd w w.heap.size A L) (k : Below n w w') (hn : w.heap.size ≤ n) : Rd w' w'.heap.size A L :=
  (h.keep (w' := w') fun p hp => k.cell (Nat.lt_of_lt_of_le hp hn)).more k.size
theorem Rd.up {w : World} {A : Option Addr} {L : List Cp} (h : Rd w w.heap.size A L) (o : Obj) : Rd (w.alloc o) (w.alloc o).heap.size A L := (h.alloc (Nat.le_refl _) o).more (by simp)
theorem At.below {B n : Nat} {vs : List Value} {w w' : World} (h : At B vs w) (k : Below n w w') (hB : B < n) : At B vs w' := fun i v hi => (k.cell (p := ⟨B, i, none⟩) hB).trans (h i v hi)
/-- Of W nothing has turned; there are blocks below n. -/
structure Bl (W : World) (n : Nat) (w : World) : Prop where
  bl : Below W.heap.size W w
  lo : W.heap.size ≤ n
  le : n ≤ w.heap.size
theorem Bl.drew {W w : World} {n : Nat} (h : Bl W n w) : Bl W n w.drew := ⟨h.bl.drew, h.lo, h.le⟩
theorem Bl.alloc {W w : World} {n : Nat} (h : Bl W n w) (o : Obj) : Bl W n (w.alloc o) := ⟨h.bl.alloc (Nat.le_trans h.lo h.le) o, h.lo, by have := h.le; simp; omega⟩
theorem Bl.step {W w w' : World} {n : Nat} (h : Bl W n w) (k : Below w.heap.size w w') : Bl W n w' := ⟨h.bl.trans (k.mono (Nat.le_trans h.lo h.le)), h.lo, Nat.le_trans h.le k.size⟩
theorem Bl.at_ {W w w' : World} {n B : Nat} {vs : List Value} (h : Bl W n w) (k : Below w.heap.size w w') (a : At B vs w) (hB : B < n) : At B vs w' := a.below k (Nat.lt_of_lt_of_le hB h.le)
theorem wk_close1 (A : Option Addr) (n : Nat) (w : World) (h : Rd w w.heap.size A [kS, kU]) : Calls Try.prog 12 #[.slice A 2 n] w (fun e w' => ∃ A' cap, e = .returned (.slice A' 2 cap) ∧ Below w.heap.size w w') :=
  (clo_w [kS, kU] A n (by intro c hc; simp at hc; rcases hc with rfl | rfl; exact rc_S; exact rc_U) (by simp) w h).mono (by
    rintro e w' ⟨A', cap, rfl, _, _, hb⟩
    exact ⟨A', cap, by rw [clo_SU]; rfl, hb⟩)
theorem wk_close2 (A : Option Addr) (n : Nat) (w : World) (h : Rd w w.heap.size A [kS, kR]) : Calls Try.prog 12 #[.slice A 2 n] w (fun e w' => ∃ A' cap, e = .returned (.slice A' 3 cap) ∧ Rd w' w'.heap.size A' [kS, kR, kT] ∧ Below w.heap.size w w') :=
  (clo_w [kS, kR] A n (by intro c hc; simp at hc; rcases hc with rfl | rfl; exact rc_S; exact rc_R) (by simp) w h).mono (by
    rintro e w' ⟨A', cap, rfl, _, hr, hb⟩
    rw [clo_SR] at hr
    exact ⟨A', cap, by rw [clo_SR]; rfl, hr, hb⟩)
theorem wk_same (A A' : Option Addr) (n n' : Nat) (w : World) (h : Rd w w.heap.size A [kS, kR, kT]) (h' : Rd w w.heap.size A' [kS, kR, kT]) : Calls Try.prog 24 #[.slice A 3 n, .slice A' 3 n'] w (fun e w' => e = .returned (.bool true) ∧ Below w.heap.size w w') :=
  (same_w [kS, kR, kT] [kS, kR, kT] A A' n n' w h h' (by simp) (by simp) true (by simp)).mono (fun _ _ h => ⟨h.1, h.2.1⟩)
theorem wk_has1 (A : Option Addr) (n : Nat) (w : World) (h : Rd w w.heap.size A [kS, kR]) : Calls Try.prog 27 #[.slice A 2 n, .agg #[true, .int .i64 65535, .int .i64 262143, .int .i64 1, .int .i64 52, (), (), true, .int .u64 9]] w (fun e w' => e = .returned (.bool true) ∧ Below w.heap.size w w') :=
  has_w [kS, kR] A n kT (by intro c hc; simp at hc; rcases hc with rfl | rfl; exact rc_S; exact rc_R) (by simp) rc_T true has_SRT w h
theorem wk_has2 (A : Option Addr) (n : Nat) (w : World) (h : Rd w w.heap.size A [kS]) : Calls Try.prog 27 #[.slice A 1 n, .agg #[true, .int .i64 65535, .int .i64 262143, .int .i64 1, .int .i64 52, (), (), true, .int .u64 9]] w (fun e w' => e = .returned (.bool false) ∧ Below w.heap.size w w') :=
  has_w [kS] A n kT (by intro c hc; simp at hc; rcases hc with rfl; exact rc_S) (by simp) rc_T false has_ST w h
theorem wk_has3 (w : World) : Calls Try.prog 27 #[.slice none 0 0, .agg #[true, .int .i64 65535, .int .i64 262143, (), .int .i64 52, (), (), true, .int .u64 5]] w (fun e w' => e = .returned (.bool false) ∧ Below w.heap.size w w') :=
  has_w [] none 0 kR (by simp) (by simp) rc_R false has_nR w (Rd.nil _ _ _)
theorem wk_less1 (w : World) : Calls Try.prog 25 #[.agg #[true, .int .i64 65279, .int .i64 262143, (), .int .i64 52, (), (), true, .int .u64 5], .agg #[true, .int .i64 65535, .int .i64 262143, (), .int .i64 52, (), (), true, .int .u64 5]] w (fun e w' => e = .returned (.bool true) ∧ Below w.heap.size w w') :=
  (less_o kU kR rc_U rc_R true less_UR w).mono (fun _ _ h => ⟨h.1, h.2.1⟩)
theorem wk_less2 (w : World) : Calls Try.prog 25 #[.agg #[true, .int .i64 65535, .int .i64 262143, (), .int .i64 52, (), (), true, .int .u64 5], .agg #[true, .int .i64 65279, .int .i64 262143, (), .int .i64 52, (), (), true, .int .u64 5]] w (fun e w' => e = .returned (.bool false) ∧ Below w.heap.size w w') :=
  (less_o kR kU rc_R rc_U false less_RU w).mono (fun _ _ h => ⟨h.1, h.2.1⟩)
theorem wk_root0 (w : World) : Calls Try.prog 4 #[(), .int .u64 5] w fun e' w' => e' = .returned (.agg #[true, .int .i64 65535, .int .i64 262143, (), .int .i64 52, (), (), true, .int .u64 5]) ∧ Kp w w' := root_m 0 5 w
theorem wk_root1 (w : World) : Calls Try.prog 4 #[.int .i64 1, .int .u64 9] w fun e' w' => e' = .returned (.agg #[true, .int .i64 65535, .int .i64 262143, .int .i64 1, .int .i64 52, (), (), true, .int .u64 9]) ∧ Kp w w' := root_m 1 9 w
theorem wk_seal (w : World) : Calls Try.prog 41 #[.agg #[true, .int .i64 65535, .int .i64 262143, .int .i64 1, .int .i64 52, (), (), true, .int .u64 9], .agg #[true, .int .i64 65535, .int .i64 262143, (), .int .i64 52, (), (), true, .int .u64 5]] w fun e' w' => e' = .returned (.agg #[true, .int .i64 65535, .int .i64 5, .int .i64 1, .int .i64 52, (), (), true, .int .u64 9]) ∧ Kp w w' := seal_w true 65535 262143 1 52 0 0 true 9 true 65535 262143 0 52 0 0 true 5 rc_R.f true (by decide +kernel) w
theorem wk_less (w : World) : Calls Try.prog 42 #[.agg #[true, .int .i64 65535, .int .i64 262143, (), .int .i64 52, (), (), true, .int .u64 5], .int .i64 65279] w fun e' w' => e' = .returned (.agg #[true, .int .i64 65279, .int .i64 262143, (), .int .i64 52, (), (), true, .int .u64 5]) ∧ Kp w w' := by
  have c := less_w true 65535 262143 0 52 0 0 true 5 65279 true (by decide +kernel) w
  rw [show bits .and .i64 65535 65279 = 65279 by decide +kernel] at c
  exact c
end Go.Proofs.Ytkddgjaflcjhiaa
