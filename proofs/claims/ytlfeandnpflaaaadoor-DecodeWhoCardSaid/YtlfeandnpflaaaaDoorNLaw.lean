/-
  What the laws of layer 10 share: the chapter's examples, what is for capabilities. No condition but what the tables hold.
-/
import Derived.Test.YtlfeandnpflaaaaDoorNCode
namespace Go.Proofs.YtlfeandnpflaaaaDoor
open Go.ChangeShapes Go.WideShapes Go.ChangeAt Go.RowKit
set_option linter.unusedVariables false
set_option linter.unusedSimpArgs false
deriving instance DecidableEq for Dc
theorem dcd_at (x : Int) (x0 : 0 ≤ x) (x1 : x < 4294967296) (d : Dc) (h : dcd x = d) (w : World) (tb : Tb w) :
    Calls Tryd.prog 5 #[.int .u32 x] w fun e w' => e = .returned d.v ∧ Kp w w' := by subst h; exact dcd_w x x0 x1 w tb
theorem long_k (x : Int) (x0 : 0 ≤ x) (x1 : x < 65536) (b : Bool) (hb : (x % 4 == 3) = b) (w : World) :
    Calls Tryd.prog 6 #[.int .u16 x] w fun e w' => e = .returned (.bool b) ∧ Kp w w' :=
  (long_w x x0 x1 b hb w).mono fun _ _ h => ⟨h.1, by obtain ⟨_, rfl⟩ := h; exact Kp.refl _⟩
theorem dc_a : dcd 10487059 = ⟨⟨8, 0, 10, 0, 0, 10, 0, false, false⟩, 4, 10487059⟩ := by decide +kernel
theorem dc_b : dcd 4294919465 = ⟨⟨8, 0, 10, 0, 0, 10, 0, false, false⟩, 2, 17705⟩ := by decide +kernel
theorem dc_c : dcd 4294967295 = ⟨⟨0, 0, 0, 0, 0, 0, 0, false, false⟩, 4, 4294967295⟩ := by decide +kernel
set_option maxHeartbeats 8000000 in
theorem works10_w (w : World) (tb : Tb w) : Calls Tryd.prog 7 #[] w fun e w' => e = .returned (.bool true) ∧ Kp w w' := by
  have q1 := ins_eql 8 0 10 0 0 10 0 false false 4 10487059
  have q2 := ins_eql 8 0 10 0 0 10 0 false false 2 17705
  have q3 := ins_eql 0 0 0 0 0 0 0 false false 4 4294967295
  have TB := Lib.hid tb
  clear tb
  go_enter Tryd.func7, Tryd.ntmps7
  go_wp2_with (first | (go_at_call 5; (with_reducible refine (dcd_at 10487059 (by decide) (by decide) _ dc_a _ TB.out).mono ?_); rintro e' w1 ⟨rfl, qk⟩; have HKw1 := Lib.hid qk; dsimp only [Dc.v, Ins.v]; have szw1 := qk.size; (try simp at szw1); have KWw1 := Lib.hid (Kp.trans (Kp.refl w) qk); have TB1 := Lib.hid ((TB.out.kp qk).kp ((Kp.refl _).allocs #[.int .i64 8, .int .i64 0, .int .i64 10, .int .i64 0, .int .i64 0, .int .i64 10, .int .i64 0, .bool false, .bool false, .int .i64 4, .int .u32 10487059] 24)); clear qk) | (go_at_call 5; (with_reducible refine (dcd_at 4294919465 (by decide) (by decide) _ dc_b _ TB1.out).mono ?_); rintro e' w2 ⟨rfl, qk⟩; have HKw2 := Lib.hid qk; have qw20 : w2.cell? ⟨w1.heap.size, 0, none⟩ = some (.int .i64 8) := (qk.cell (p := ⟨w1.heap.size, 0, none⟩) (by first | (simp; done) | (simp; omega) | omega)).trans (by simp [go_sem, *]); have qw21 : w2.cell? ⟨w1.heap.size, 1, none⟩ = some (.int .i64 0) := (qk.cell (p := ⟨w1.heap.size, 1, none⟩) (by first | (simp; done) | (simp; omega) | omega)).trans (by simp [go_sem, *]); have qw22 : w2.cell? ⟨w1.heap.size, 2, none⟩ = some (.int .i64 10) := (qk.cell (p := ⟨w1.heap.size, 2, none⟩) (by first | (simp; done) | (simp; omega) | omega)).trans (by simp [go_sem, *]); have qw23 : w2.cell? ⟨w1.heap.size, 3, none⟩ = some (.int .i64 0) := (qk.cell (p := ⟨w1.heap.size, 3, none⟩) (by first | (simp; done) | (simp; omega) | omega)).trans (by simp [go_sem, *]); have qw24 : w2.cell? ⟨w1.heap.size, 4, none⟩ = some (.int .i64 0) := (qk.cell (p := ⟨w1.heap.size, 4, none⟩) (by first | (simp; done) | (simp; omega) | omega)).trans (by simp [go_sem, *]); have qw25 : w2.cell? ⟨w1.heap.size, 5, none⟩ = some (.int .i64 10) := (qk.cell (p := ⟨w1.heap.size, 5, none⟩) (by first | (simp; done) | (simp; omega) | omega)).trans (by simp [go_sem, *]); have qw26 : w2.cell? ⟨w1.heap.size, 6, none⟩ = some (.int .i64 0) := (qk.cell (p := ⟨w1.heap.size, 6, none⟩) (by first | (simp; done) | (simp; omega) | omega)).trans (by simp [go_sem, *]); have qw27 : w2.cell? ⟨w1.heap.size, 7, none⟩ = some (.bool false) := (qk.cell (p := ⟨w1.heap.size, 7, none⟩) (by first | (simp; done) | (simp; omega) | omega)).trans (by simp [go_sem, *]); have qw28 : w2.cell? ⟨w1.heap.size, 8, none⟩ = some (.bool false) := (qk.cell (p := ⟨w1.heap.size, 8, none⟩) (by first | (simp; done) | (simp; omega) | omega)).trans (by simp [go_sem, *]); have qw29 : w2.cell? ⟨w1.heap.size, 9, none⟩ = some (.int .i64 4) := (qk.cell (p := ⟨w1.heap.size, 9, none⟩) (by first | (simp; done) | (simp; omega) | omega)).trans (by simp [go_sem, *]); have qw210 : w2.cell? ⟨w1.heap.size, 10, none⟩ = some (.int .u32 10487059) := (qk.cell (p := ⟨w1.heap.size, 10, none⟩) (by first | (simp; done) | (simp; omega) | omega)).trans (by simp [go_sem, *]); dsimp only [Dc.v, Ins.v]; have szw2 := qk.size; (try simp at szw2); have KWw2 := Lib.hid (Kp.trans (KWw1.out.allocs _ _) qk); have qa0 : w1.heap.size < w2.heap.size := (by omega); have qa1 : ¬ w1.heap.size = w2.heap.size := (by omega); have qa2 : ¬ w2.heap.size = w1.heap.size := (by omega); have TB2 := Lib.hid ((TB1.out.kp qk).kp ((Kp.refl _).allocs #[.int .i64 8, .int .i64 0, .int .i64 10, .int .i64 0, .int .i64 0, .int .i64 10, .int .i64 0, .bool false, .bool false, .int .i64 2, .int .u32 17705] 24)); clear qk) | (go_at_call 5; (with_reducible refine (dcd_at 4294967295 (by decide) (by decide) _ dc_c _ TB2.out).mono ?_); rintro e' w3 ⟨rfl, qk⟩; have HKw3 := Lib.hid qk; have qw30 : w3.cell? ⟨w1.heap.size, 0, none⟩ = some (.int .i64 8) := (qk.cell (p := ⟨w1.heap.size, 0, none⟩) (by first | (simp; done) | (simp; omega) | omega)).trans (by simp [go_sem, *]); have qw31 : w3.cell? ⟨w1.heap.size, 1, none⟩ = some (.int .i64 0) := (qk.cell (p := ⟨w1.heap.size, 1, none⟩) (by first | (simp; done) | (simp; omega) | omega)).trans (by simp [go_sem, *]); have qw32 : w3.cell? ⟨w1.heap.size, 2, none⟩ = some (.int .i64 10) := (qk.cell (p := ⟨w1.heap.size, 2, none⟩) (by first | (simp; done) | (simp; omega) | omega)).trans (by simp [go_sem, *]); have qw33 : w3.cell? ⟨w1.heap.size, 3, none⟩ = some (.int .i64 0) := (qk.cell (p := ⟨w1.heap.size, 3, none⟩) (by first | (simp; done) | (simp; omega) | omega)).trans (by simp [go_sem, *]); have qw34 : w3.cell? ⟨w1.heap.size, 4, none⟩ = some (.int .i64 0) := (qk.cell (p := ⟨w1.heap.size, 4, none⟩) (by first | (simp; done) | (simp; omega) | omega)).trans (by simp [go_sem, *]); have qw35 : w3.cell? ⟨w1.heap.size, 5, none⟩ = some (.int .i64 10) := (qk.cell (p := ⟨w1.heap.size, 5, none⟩) (by first | (simp; done) | (simp; omega) | omega)).trans (by simp [go_sem, *]); have qw36 : w3.cell? ⟨w1.heap.size, 6, none⟩ = some (.int .i64 0) := (qk.cell (p := ⟨w1.heap.size, 6, none⟩) (by first | (simp; done) | (simp; omega) | omega)).trans (by simp [go_sem, *]); have qw37 : w3.cell? ⟨w1.heap.size, 7, none⟩ = some (.bool false) := (qk.cell (p := ⟨w1.heap.size, 7, none⟩) (by first | (simp; done) | (simp; omega) | omega)).trans (by simp [go_sem, *]); have qw38 : w3.cell? ⟨w1.heap.size, 8, none⟩ = some (.bool false) := (qk.cell (p := ⟨w1.heap.size, 8, none⟩) (by first | (simp; done) | (simp; omega) | omega)).trans (by simp [go_sem, *]); have qw39 : w3.cell? ⟨w1.heap.size, 9, none⟩ = some (.int .i64 4) := (qk.cell (p := ⟨w1.heap.size, 9, none⟩) (by first | (simp; done) | (simp; omega) | omega)).trans (by simp [go_sem, *]); have qw310 : w3.cell? ⟨w1.heap.size, 10, none⟩ = some (.int .u32 10487059) := (qk.cell (p := ⟨w1.heap.size, 10, none⟩) (by first | (simp; done) | (simp; omega) | omega)).trans (by simp [go_sem, *]); have qw311 : w3.cell? ⟨w2.heap.size, 0, none⟩ = some (.int .i64 8) := (qk.cell (p := ⟨w2.heap.size, 0, none⟩) (by first | (simp; done) | (simp; omega) | omega)).trans (by simp [go_sem, *]); have qw312 : w3.cell? ⟨w2.heap.size, 1, none⟩ = some (.int .i64 0) := (qk.cell (p := ⟨w2.heap.size, 1, none⟩) (by first | (simp; done) | (simp; omega) | omega)).trans (by simp [go_sem, *]); have qw313 : w3.cell? ⟨w2.heap.size, 2, none⟩ = some (.int .i64 10) := (qk.cell (p := ⟨w2.heap.size, 2, none⟩) (by first | (simp; done) | (simp; omega) | omega)).trans (by simp [go_sem, *]); have qw314 : w3.cell? ⟨w2.heap.size, 3, none⟩ = some (.int .i64 0) := (qk.cell (p := ⟨w2.heap.size, 3, none⟩) (by first | (simp; done) | (simp; omega) | omega)).trans (by simp [go_sem, *]); have qw315 : w3.cell? ⟨w2.heap.size, 4, none⟩ = some (.int .i64 0) := (qk.cell (p := ⟨w2.heap.size, 4, none⟩) (by first | (simp; done) | (simp; omega) | omega)).trans (by simp [go_sem, *]); have qw316 : w3.cell? ⟨w2.heap.size, 5, none⟩ = some (.int .i64 10) := (qk.cell (p := ⟨w2.heap.size, 5, none⟩) (by first | (simp; done) | (simp; omega) | omega)).trans (by simp [go_sem, *]); have qw317 : w3.cell? ⟨w2.heap.size, 6, none⟩ = some (.int .i64 0) := (qk.cell (p := ⟨w2.heap.size, 6, none⟩) (by first | (simp; done) | (simp; omega) | omega)).trans (by simp [go_sem, *]); have qw318 : w3.cell? ⟨w2.heap.size, 7, none⟩ = some (.bool false) := (qk.cell (p := ⟨w2.heap.size, 7, none⟩) (by first | (simp; done) | (simp; omega) | omega)).trans (by simp [go_sem, *]); have qw319 : w3.cell? ⟨w2.heap.size, 8, none⟩ = some (.bool false) := (qk.cell (p := ⟨w2.heap.size, 8, none⟩) (by first | (simp; done) | (simp; omega) | omega)).trans (by simp [go_sem, *]); have qw320 : w3.cell? ⟨w2.heap.size, 9, none⟩ = some (.int .i64 2) := (qk.cell (p := ⟨w2.heap.size, 9, none⟩) (by first | (simp; done) | (simp; omega) | omega)).trans (by simp [go_sem, *]); have qw321 : w3.cell? ⟨w2.heap.size, 10, none⟩ = some (.int .u32 17705) := (qk.cell (p := ⟨w2.heap.size, 10, none⟩) (by first | (simp; done) | (simp; omega) | omega)).trans (by simp [go_sem, *]); dsimp only [Dc.v, Ins.v]; have szw3 := qk.size; (try simp at szw3); have KWw3 := Lib.hid (Kp.trans (KWw2.out.allocs _ _) qk); have qb0 : w1.heap.size < w3.heap.size := (by omega); have qb1 : ¬ w1.heap.size = w3.heap.size := (by omega); have qb2 : ¬ w3.heap.size = w1.heap.size := (by omega); have qc0 : w2.heap.size < w3.heap.size := (by omega); have qc1 : ¬ w2.heap.size = w3.heap.size := (by omega); have qc2 : ¬ w3.heap.size = w2.heap.size := (by omega); clear qk) | (go_at_call 6; (with_reducible refine (long_w 3 (by decide) (by decide) true (by decide) _).mono ?_); rintro e' wl ⟨rfl, rfl⟩) | (go_at_call 6; (with_reducible refine (long_w 2 (by decide) (by decide) false (by decide) _).mono ?_); rintro e' wl ⟨rfl, rfl⟩))
  go_ret
  exact ⟨rfl, KWw3.out.allocs _ _⟩
set_option maxHeartbeats 8000000 in
theorem capable_w (i : Ins) (ln raw : Int) (b : Bool) (hb : capB i = b) (w : World) : Calls Tryd.prog 10 #[i.v ln raw] w fun e w' => e = .returned (.bool b) ∧ Kp w w' := by
  obtain ⟨op, fn, rd, r1, r2, imm, wid, wo, us⟩ := i
  unfold capB at hb
  dsimp only [Ins.v] at *
  rcases (show (23 ≤ op ∧ op ≤ 29) ∨ (op = 6 ∧ wid = 7) ∨ (op = 6 ∧ ¬ wid = 7) ∨ (op = 7 ∧ wid = 7) ∨ (op = 7 ∧ ¬ wid = 7) ∨ (op < 23 ∧ ¬ op = 6 ∧ ¬ op = 7) ∨ (29 < op) by omega) with h | h | h | h | h | h | h
  · have t0 : (decide (23 ≤ op)) = true := by simp; omega
    have t1 : (decide (op ≤ 29)) = true := by simp; omega
    have e : b = true := by rw [← hb]; simp only [t0, t1]; simp
    subst e
    clear hb h
    go_enter Tryd.func10, Tryd.ntmps10
    go_wp2
    go_ret
    exact ⟨rfl, (Kp.refl w).allocs _ _⟩
  · have t0 : (decide (23 ≤ op)) = false := by simp; omega
    have t1 : ((op == 6)) = true := by simp; omega
    have t2 : ((wid == 7)) = true := by simp; omega
    have e : b = true := by rw [← hb]; simp only [t0, t1, t2]; simp
    subst e
    clear hb h
    go_enter Tryd.func10, Tryd.ntmps10
    go_wp2
    go_ret
    exact ⟨rfl, (Kp.refl w).allocs _ _⟩
  · have t0 : (decide (23 ≤ op)) = false := by simp; omega
    have t1 : ((op == 6)) = true := by simp; omega
    have t2 : ((wid == 7)) = false := by simp; omega
    have e : b = false := by rw [← hb]; simp only [t0, t1, t2]; simp
    subst e
    clear hb h
    go_enter Tryd.func10, Tryd.ntmps10
    go_wp2
    go_ret
    exact ⟨rfl, (Kp.refl w).allocs _ _⟩
  · have t0 : (decide (23 ≤ op)) = false := by simp; omega
    have t1 : ((op == 6)) = false := by simp; omega
    have t2 : ((op == 7)) = true := by simp; omega
    have t3 : ((wid == 7)) = true := by simp; omega
    have e : b = true := by rw [← hb]; simp only [t0, t1, t2, t3]; simp
    subst e
    clear hb h
    go_enter Tryd.func10, Tryd.ntmps10
    go_wp2
    go_ret
    exact ⟨rfl, (Kp.refl w).allocs _ _⟩
  · have t0 : (decide (23 ≤ op)) = false := by simp; omega
    have t1 : ((op == 6)) = false := by simp; omega
    have t2 : ((op == 7)) = true := by simp; omega
    have t3 : ((wid == 7)) = false := by simp; omega
    have e : b = false := by rw [← hb]; simp only [t0, t1, t2, t3]; simp
    subst e
    clear hb h
    go_enter Tryd.func10, Tryd.ntmps10
    go_wp2
    go_ret
    exact ⟨rfl, (Kp.refl w).allocs _ _⟩
  · have t0 : (decide (23 ≤ op)) = false := by simp; omega
    have t1 : ((op == 6)) = false := by simp; omega
    have t2 : ((op == 7)) = false := by simp; omega
    have e : b = false := by rw [← hb]; simp only [t0, t1, t2]; simp
    subst e
    clear hb h
    go_enter Tryd.func10, Tryd.ntmps10
    go_wp2
    go_ret
    exact ⟨rfl, (Kp.refl w).allocs _ _⟩
  · have t0 : (decide (23 ≤ op)) = true := by simp; omega
    have t1 : (decide (op ≤ 29)) = false := by simp; omega
    have t2 : ((op == 6)) = false := by simp; omega
    have t3 : ((op == 7)) = false := by simp; omega
    have e : b = false := by rw [← hb]; simp only [t0, t1, t2, t3]; simp
    subst e
    clear hb h
    go_enter Tryd.func10, Tryd.ntmps10
    go_wp2
    go_ret
    exact ⟨rfl, (Kp.refl w).allocs _ _⟩
end Go.Proofs.YtlfeandnpflaaaaDoor
