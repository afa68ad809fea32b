/-
  The document's answer for layer 10: it is the same function on numbers. No condition but what the tables hold.
  DecodeTells of layer 10: of any word it is told which instruction it is. No condition but what the tables hold.
-/
import Derived.Test.YtlfeandnpflaaaaGreatDoorML
import Derived.Test.YtlfeandnpflaaaaGreatDoorIRDec
import Derived.Test.YtlfeandnpflaaaaGreatDoorDRef
namespace Go.Proofs.YtlfeandnpflaaaaGreatDoor
open Go.ChangeShapes Go.WideShapes Go.ChangeAt Go.RowKit
set_option linter.unusedVariables false
set_option linter.unusedSimpArgs false
theorem rdecode_at (x : Int) (x0 : 0 ≤ x) (x1 : x < 4294967296) (o : Option Ins) (ho : spec x = o) (w : World) :
    Calls Tryz.prog 14 #[.int .u32 x] w fun e w' => e = .returned (decV o x) ∧ Kp w w' := by subst ho; exact rdecode_w x x0 x1 w
theorem rlong_w (x : Int) (x0 : 0 ≤ x) (x1 : x < 65536) (b : Bool) (hb : (x % 4 == 3) = b) (w : World) :
    Calls Tryz.prog 8 #[.int .u16 x] w fun e w' => e = .returned (.bool b) ∧ w = w' := by
  have h2 : (x.tmod 4 == 3) = b := by rw [Int.tmod_eq_emod_of_nonneg x0]; exact hb
  go_enter Tryz.func8, Tryz.ntmps8
  go_wp2
  go_ret
  exact ⟨ret_bool (by first | exact hb | exact h2 | rfl), rfl⟩
set_option maxHeartbeats 8000000 in
theorem rdcd_s (x : Int) (x0 : 0 ≤ x) (x1 : x < 4294967296) (hl : x % 4 = 3) (i : Ins) (hs : spec x = some i) (w : World) :
    Calls Tryz.prog 6 #[.int .u32 x] w fun e w' => e = .returned (Ins.v i 4 x) ∧ Kp w w' := by
  obtain ⟨op, fn, rd, r1, r2, imm, wid, wo, us⟩ := i
  have HS := Lib.hid hs
  have hw : IntKind.u16.wrap x = x % 65536 := by rw [IntKind.wrap_u16]
  have hb : ((x % 65536) % 4 == 3) = true := by simp; omega
  have HB := Lib.hid hb
  clear hb hl hs
  dsimp only [Ins.v, zIns]
  go_enter Tryz.func6, Tryz.ntmps6
  go_wp2_with (first | (go_at_call 8; (with_reducible refine (rlong_w (x % 65536) (by omega) (by omega) true HB.out _).mono ?_); rintro e' wl ⟨rfl, rfl⟩) | (go_at_call 14; (with_reducible refine (rdecode_at x x0 x1 (some ⟨op, fn, rd, r1, r2, imm, wid, wo, us⟩) HS.out _).mono ?_); rintro e' w1 ⟨rfl, qk⟩; have HKw1 := Lib.hid qk; obtain ⟨qw10, qw11, qw12, qw13, qw14, qw15, qw16, qw17, qw18, qw19, qw110⟩ := qk.c11 (b := w.heap.size) (.int .i64 0) (.int .i64 0) (.int .i64 0) (.int .i64 0) (.int .i64 0) (.int .i64 0) (.int .i64 0) (.bool false) (.bool false) (.int .i64 0) (.int .u32 0); obtain ⟨zw10, zw11, zw12, zw13, zw14, zw15, zw16, zw17, zw18, zw19, zw110⟩ := qk.z11 (b := w.heap.size); dsimp only [decV, Ins.v, zIns]; have szw1 := qk.size; (try simp at szw1); have KWw1 := Lib.hid (Kp.trans ((Kp.refl w).allocs _ _) qk); have qw100 : w.heap.size < w1.heap.size := (by omega); have qw101 : ¬ w.heap.size = w1.heap.size := (by omega); have qw102 : ¬ w1.heap.size = w.heap.size := (by omega); clear qk))
  refine bodyPost_ret ?_ rfl ⟨rfl, by (repeat' (first | with_reducible refine Kp.setCell ?_ ?_ _ | with_reducible refine Kp.allocs ?_ _ _ | with_reducible refine Kp.drew ?_ | with_reducible refine Kp.drewN ?_ _)); all_goals first | exact KWw1.out | (dsimp only; omega)⟩
  simp [results, Tryz.results6, go_sem, *]
set_option maxHeartbeats 8000000 in
theorem rdcd_d (x : Int) (x0 : 0 ≤ x) (x1 : x < 4294967296) (hl : x % 4 = 3) (i : Ins) (hs : spec x = none) (hd : dspec x = some i) (w : World) :
    Calls Tryz.prog 6 #[.int .u32 x] w fun e w' => e = .returned (Ins.v i 4 x) ∧ Kp w w' := by
  obtain ⟨op, fn, rd, r1, r2, imm, wid, wo, us⟩ := i
  have HS := Lib.hid hs
  have HD := Lib.hid hd
  have hw : IntKind.u16.wrap x = x % 65536 := by rw [IntKind.wrap_u16]
  have hb : ((x % 65536) % 4 == 3) = true := by simp; omega
  have HB := Lib.hid hb
  clear hb hl hs hd
  dsimp only [Ins.v, zIns]
  go_enter Tryz.func6, Tryz.ntmps6
  go_wp2_with (first | (go_at_call 8; (with_reducible refine (rlong_w (x % 65536) (by omega) (by omega) true HB.out _).mono ?_); rintro e' wl ⟨rfl, rfl⟩) | (go_at_call 14; (with_reducible refine (rdecode_at x x0 x1 none HS.out _).mono ?_); rintro e' w1 ⟨rfl, qk⟩; have HKw1 := Lib.hid qk; obtain ⟨qw10, qw11, qw12, qw13, qw14, qw15, qw16, qw17, qw18, qw19, qw110⟩ := qk.c11 (b := w.heap.size) (.int .i64 0) (.int .i64 0) (.int .i64 0) (.int .i64 0) (.int .i64 0) (.int .i64 0) (.int .i64 0) (.bool false) (.bool false) (.int .i64 0) (.int .u32 0); obtain ⟨zw10, zw11, zw12, zw13, zw14, zw15, zw16, zw17, zw18, zw19, zw110⟩ := qk.z11 (b := w.heap.size); dsimp only [decV, Ins.v, zIns]; have szw1 := qk.size; (try simp at szw1); have KWw1 := Lib.hid (Kp.trans ((Kp.refl w).allocs _ _) qk); have qw100 : w.heap.size < w1.heap.size := (by omega); have qw101 : ¬ w.heap.size = w1.heap.size := (by omega); have qw102 : ¬ w1.heap.size = w.heap.size := (by omega); clear qk) | (go_at_call 15; (with_reducible refine (rdec9_at x x0 x1 (some ⟨op, fn, rd, r1, r2, imm, wid, wo, us⟩) HD.out _).mono ?_); rintro e' w2 ⟨rfl, qk⟩; have HKw2 := Lib.hid qk; obtain ⟨qw20, qw21, qw22, qw23, qw24, qw25, qw26, qw27, qw28, qw29, qw210⟩ := qk.c11 (b := w.heap.size) (.int .i64 0) (.int .i64 0) (.int .i64 0) (.int .i64 0) (.int .i64 0) (.int .i64 0) (.int .i64 0) (.bool false) (.bool false) (.int .i64 0) (.int .u32 0); obtain ⟨zw20, zw21, zw22, zw23, zw24, zw25, zw26, zw27, zw28, zw29, zw210⟩ := qk.z11 (b := w.heap.size); dsimp only [ddV, Ins.v, zIns]; have szw2 := qk.size; (try simp at szw2); have KWw2 := Lib.hid (Kp.trans (KWw1.out.allocs _ _) qk); have qw200 : w.heap.size < w2.heap.size := (by omega); have qw201 : ¬ w.heap.size = w2.heap.size := (by omega); have qw202 : ¬ w2.heap.size = w.heap.size := (by omega); clear qk))
  refine bodyPost_ret ?_ rfl ⟨rfl, by (repeat' (first | with_reducible refine Kp.setCell ?_ ?_ _ | with_reducible refine Kp.allocs ?_ _ _ | with_reducible refine Kp.drew ?_ | with_reducible refine Kp.drewN ?_ _)); all_goals first | exact KWw2.out | (dsimp only; omega)⟩
  simp [results, Tryz.results6, go_sem, *]
set_option maxHeartbeats 8000000 in
theorem rdcd_n (x : Int) (x0 : 0 ≤ x) (x1 : x < 4294967296) (hl : x % 4 = 3) (hs : spec x = none) (hd : dspec x = none) (w : World) :
    Calls Tryz.prog 6 #[.int .u32 x] w fun e w' => e = .returned (Ins.v zIns 4 x) ∧ Kp w w' := by
  have HS := Lib.hid hs
  have HD := Lib.hid hd
  have hw : IntKind.u16.wrap x = x % 65536 := by rw [IntKind.wrap_u16]
  have hb : ((x % 65536) % 4 == 3) = true := by simp; omega
  have HB := Lib.hid hb
  clear hb hl hs hd
  dsimp only [Ins.v, zIns]
  go_enter Tryz.func6, Tryz.ntmps6
  go_wp2_with (first | (go_at_call 8; (with_reducible refine (rlong_w (x % 65536) (by omega) (by omega) true HB.out _).mono ?_); rintro e' wl ⟨rfl, rfl⟩) | (go_at_call 14; (with_reducible refine (rdecode_at x x0 x1 none HS.out _).mono ?_); rintro e' w1 ⟨rfl, qk⟩; have HKw1 := Lib.hid qk; obtain ⟨qw10, qw11, qw12, qw13, qw14, qw15, qw16, qw17, qw18, qw19, qw110⟩ := qk.c11 (b := w.heap.size) (.int .i64 0) (.int .i64 0) (.int .i64 0) (.int .i64 0) (.int .i64 0) (.int .i64 0) (.int .i64 0) (.bool false) (.bool false) (.int .i64 0) (.int .u32 0); obtain ⟨zw10, zw11, zw12, zw13, zw14, zw15, zw16, zw17, zw18, zw19, zw110⟩ := qk.z11 (b := w.heap.size); dsimp only [decV, Ins.v, zIns]; have szw1 := qk.size; (try simp at szw1); have KWw1 := Lib.hid (Kp.trans ((Kp.refl w).allocs _ _) qk); have qw100 : w.heap.size < w1.heap.size := (by omega); have qw101 : ¬ w.heap.size = w1.heap.size := (by omega); have qw102 : ¬ w1.heap.size = w.heap.size := (by omega); clear qk) | (go_at_call 15; (with_reducible refine (rdec9_at x x0 x1 none HD.out _).mono ?_); rintro e' w2 ⟨rfl, qk⟩; have HKw2 := Lib.hid qk; obtain ⟨qw20, qw21, qw22, qw23, qw24, qw25, qw26, qw27, qw28, qw29, qw210⟩ := qk.c11 (b := w.heap.size) (.int .i64 0) (.int .i64 0) (.int .i64 0) (.int .i64 0) (.int .i64 0) (.int .i64 0) (.int .i64 0) (.bool false) (.bool false) (.int .i64 0) (.int .u32 0); obtain ⟨zw20, zw21, zw22, zw23, zw24, zw25, zw26, zw27, zw28, zw29, zw210⟩ := qk.z11 (b := w.heap.size); dsimp only [ddV, Ins.v, zIns]; have szw2 := qk.size; (try simp at szw2); have KWw2 := Lib.hid (Kp.trans (KWw1.out.allocs _ _) qk); have qw200 : w.heap.size < w2.heap.size := (by omega); have qw201 : ¬ w.heap.size = w2.heap.size := (by omega); have qw202 : ¬ w2.heap.size = w.heap.size := (by omega); clear qk))
  refine bodyPost_ret ?_ rfl ⟨rfl, by (repeat' (first | with_reducible refine Kp.setCell ?_ ?_ _ | with_reducible refine Kp.allocs ?_ _ _ | with_reducible refine Kp.drew ?_ | with_reducible refine Kp.drewN ?_ _)); all_goals first | exact KWw2.out | (dsimp only; omega)⟩
  simp [results, Tryz.results6, go_sem, *]
set_option maxHeartbeats 8000000 in
theorem rdcd_hn (x : Int) (x0 : 0 ≤ x) (x1 : x < 4294967296) (hl : ¬ x % 4 = 3) (h : Nat) (h1 : h < 65536) (hh : (h : Int) = x % 65536) (he : dx h = 0) (w : World) :
    Calls Tryz.prog 6 #[.int .u32 x] w fun e w' => e = .returned (Ins.v zIns 2 (h : Int)) ∧ Kp w w' := by
  have HE := Lib.hid he
  have hw : IntKind.u16.wrap x = (h : Int) := by rw [IntKind.wrap_u16]; omega
  have hw2 : IntKind.u16.wrap (h : Int) = (h : Int) := by rw [IntKind.wrap_u16]; omega
  have hw3 : x % 65536 = (h : Int) := hh.symm
  have hw4 : x.tmod 65536 = (h : Int) := by rw [Int.tmod_eq_emod_of_nonneg x0]; exact hw3
  have hw5 : IntKind.u16.wrap (x % 65536) = (h : Int) := by rw [hw3]; exact hw2
  have hb : ((h : Int) % 4 == 3) = false := by simp; omega
  have HB := Lib.hid hb
  have hlt : (h : Int) < 65536 := by omega
  clear hb hl hh he
  dsimp only [Ins.v, zIns]
  go_enter Tryz.func6, Tryz.ntmps6
  go_wp2_with (first | (go_at_call 8; (with_reducible refine (rlong_w ((h : Int)) (by omega) (by omega) false HB.out _).mono ?_); rintro e' wl ⟨rfl, rfl⟩) | (go_at_call 16; (with_reducible refine (rexp_0 h h1 HE.out _).mono ?_); rintro e' we ⟨rfl, rfl⟩) | (go_at_call 14; (with_reducible refine (rdecode_at 0 (by decide) (by decide) none sp_0 _).mono ?_); rintro e' w1 ⟨rfl, qk⟩; have HKw1 := Lib.hid qk; obtain ⟨qw10, qw11, qw12, qw13, qw14, qw15, qw16, qw17, qw18, qw19, qw110⟩ := qk.c11 (b := w.heap.size) (.int .i64 0) (.int .i64 0) (.int .i64 0) (.int .i64 0) (.int .i64 0) (.int .i64 0) (.int .i64 0) (.bool false) (.bool false) (.int .i64 0) (.int .u32 0); obtain ⟨zw10, zw11, zw12, zw13, zw14, zw15, zw16, zw17, zw18, zw19, zw110⟩ := qk.z11 (b := w.heap.size); dsimp only [decV, Ins.v, zIns]; have szw1 := qk.size; (try simp at szw1); have KWw1 := Lib.hid (Kp.trans ((Kp.refl w).allocs _ _) qk); have qw100 : w.heap.size < w1.heap.size := (by omega); have qw101 : ¬ w.heap.size = w1.heap.size := (by omega); have qw102 : ¬ w1.heap.size = w.heap.size := (by omega); clear qk))
  refine bodyPost_ret ?_ rfl ⟨rfl, by (repeat' (first | with_reducible refine Kp.setCell ?_ ?_ _ | with_reducible refine Kp.allocs ?_ _ _ | with_reducible refine Kp.drew ?_ | with_reducible refine Kp.drewN ?_ _)); all_goals first | exact KWw1.out | (dsimp only; omega)⟩
  simp [results, Tryz.results6, go_sem, *]
set_option maxHeartbeats 8000000 in
theorem rdcd_hs (x : Int) (x0 : 0 ≤ x) (x1 : x < 4294967296) (hl : ¬ x % 4 = 3) (h : Nat) (h1 : h < 65536) (hh : (h : Int) = x % 65536) (v : Nat) (i : Ins) (he : dx h = (v : Int)) (v0 : v ≠ 0) (v1 : v < 4294967296) (hs : spec v = some i) (w : World) :
    Calls Tryz.prog 6 #[.int .u32 x] w fun e w' => e = .returned (Ins.v i 2 (h : Int)) ∧ Kp w w' := by
  obtain ⟨op, fn, rd, r1, r2, imm, wid, wo, us⟩ := i
  have HS := Lib.hid hs
  have HE := Lib.hid he
  have hw : IntKind.u16.wrap x = (h : Int) := by rw [IntKind.wrap_u16]; omega
  have hw2 : IntKind.u16.wrap (h : Int) = (h : Int) := by rw [IntKind.wrap_u16]; omega
  have hw3 : x % 65536 = (h : Int) := hh.symm
  have hw4 : x.tmod 65536 = (h : Int) := by rw [Int.tmod_eq_emod_of_nonneg x0]; exact hw3
  have hw5 : IntKind.u16.wrap (x % 65536) = (h : Int) := by rw [hw3]; exact hw2
  have hb : ((h : Int) % 4 == 3) = false := by simp; omega
  have HB := Lib.hid hb
  have hlt : (h : Int) < 65536 := by omega
  clear hb hl hh he hs
  dsimp only [Ins.v, zIns]
  go_enter Tryz.func6, Tryz.ntmps6
  go_wp2_with (first | (go_at_call 8; (with_reducible refine (rlong_w ((h : Int)) (by omega) (by omega) false HB.out _).mono ?_); rintro e' wl ⟨rfl, rfl⟩) | (go_at_call 16; (with_reducible refine (rexp_v h h1 v HE.out v0 v1 _).mono ?_); rintro e' we ⟨rfl, rfl⟩) | (go_at_call 14; (with_reducible refine (rdecode_at v (by omega) (by omega) (some ⟨op, fn, rd, r1, r2, imm, wid, wo, us⟩) HS.out _).mono ?_); rintro e' w1 ⟨rfl, qk⟩; have HKw1 := Lib.hid qk; obtain ⟨qw10, qw11, qw12, qw13, qw14, qw15, qw16, qw17, qw18, qw19, qw110⟩ := qk.c11 (b := w.heap.size) (.int .i64 0) (.int .i64 0) (.int .i64 0) (.int .i64 0) (.int .i64 0) (.int .i64 0) (.int .i64 0) (.bool false) (.bool false) (.int .i64 0) (.int .u32 0); obtain ⟨zw10, zw11, zw12, zw13, zw14, zw15, zw16, zw17, zw18, zw19, zw110⟩ := qk.z11 (b := w.heap.size); dsimp only [decV, Ins.v, zIns]; have szw1 := qk.size; (try simp at szw1); have KWw1 := Lib.hid (Kp.trans ((Kp.refl w).allocs _ _) qk); have qw100 : w.heap.size < w1.heap.size := (by omega); have qw101 : ¬ w.heap.size = w1.heap.size := (by omega); have qw102 : ¬ w1.heap.size = w.heap.size := (by omega); clear qk))
  refine bodyPost_ret ?_ rfl ⟨rfl, by (repeat' (first | with_reducible refine Kp.setCell ?_ ?_ _ | with_reducible refine Kp.allocs ?_ _ _ | with_reducible refine Kp.drew ?_ | with_reducible refine Kp.drewN ?_ _)); all_goals first | exact KWw1.out | (dsimp only; omega)⟩
  simp [results, Tryz.results6, go_sem, *]
/-- The document's Decode is the same function. -/
theorem rdcd_w (x : Int) (x0 : 0 ≤ x) (x1 : x < 4294967296) (w : World) :
    Calls Tryz.prog 6 #[.int .u32 x] w fun e w' => e = .returned (dcd x).v ∧ Kp w w' := by
  unfold dcd Dc.v
  split
  · rename_i hl
    unfold lngD
    cases hs : spec x with
    | some i => exact rdcd_s x x0 x1 hl i hs w
    | none =>
      cases hd : dspec x with
      | some i => exact rdcd_d x x0 x1 hl i hs hd w
      | none => exact rdcd_n x x0 x1 hl hs hd w
  · rename_i hl
    have e : (((x % 65536).toNat : Nat) : Int) = x % 65536 := Int.toNat_of_nonneg (by omega)
    generalize (x % 65536).toNat = h at *
    have hx : h < 65536 := by omega
    unfold hlfD
    rcases facts h hx with ⟨he, d⟩ | ⟨v, i, he, d, v0, v1, m1, m2, hi, hk, hr, ht⟩
    · rw [he]; exact rdcd_hn x x0 x1 hl h hx e d w
    · rw [he]; dsimp only; rw [hi]; exact rdcd_hs x x0 x1 hl h hx e v i d v0 v1 hi w
end Go.Proofs.YtlfeandnpflaaaaGreatDoor
namespace Go.Proofs.YtlfeandnpflaaaaGreatDoor
open Go.ChangeShapes Go.WideShapes Go.ChangeAt Go.RowKit
set_option linter.unusedVariables false
set_option linter.unusedSimpArgs false
set_option maxHeartbeats 16000000 in
theorem tells_c (x : Int) (x0 : 0 ≤ x) (x1 : x < 4294967296) (op fn rd r1 r2 imm wid : Int) (wo us : Bool) (len raw : Int) (b : Bool) (hb : (x % 65536 % 4 == 3) = b)
    (c : ∀ w, Tb w → Calls Tryz.prog 5 #[.int .u32 x] w fun e w' => e = .returned (.agg #[.int .i64 op, .int .i64 fn, .int .i64 rd, .int .i64 r1, .int .i64 r2, .int .i64 imm, .int .i64 wid, .bool wo, .bool us, .int .i64 len, .int .u32 raw]) ∧ Kp w w')
    (r : ∀ w, Calls Tryz.prog 6 #[.int .u32 x] w fun e w' => e = .returned (.agg #[.int .i64 op, .int .i64 fn, .int .i64 rd, .int .i64 r1, .int .i64 r2, .int .i64 imm, .int .i64 wid, .bool wo, .bool us, .int .i64 len, .int .u32 raw]) ∧ Kp w w') (w : World) (tb : Tb w) :
    Calls Tryz.prog 3 #[.int .u32 x] w fun e w' => e = .returned (.bool true) ∧ Kp w w' := by
  have q1 := ins_eql op fn rd r1 r2 imm wid wo us len raw
  have hw : IntKind.u16.wrap x = x % 65536 := by rw [IntKind.wrap_u16]
  have HC := Lib.hid c
  have HR := Lib.hid r
  have TB := Lib.hid tb
  have HB := Lib.hid hb
  have hbb : (b == b) = true := by simp
  clear c r tb hb
  go_enter Tryz.func3, Tryz.ntmps3
  go_wp2_with (first | (go_at_call 5; (with_reducible refine (HC.out _ TB.out).mono ?_); rintro e' w1 ⟨rfl, qk⟩; have K1 := Lib.hid qk; clear qk) | (go_at_call 6; (with_reducible refine (HR.out _).mono ?_); rintro e' w2 ⟨rfl, qk⟩; have K2 := Lib.hid (K1.out.trans qk); clear qk) | (go_at_call 7; (with_reducible refine (long_w (x % 65536) (by omega) (by omega) b HB.out _).mono ?_); rintro e' wl ⟨rfl, rfl⟩) | (go_at_call 8; (with_reducible refine (rlong_w (x % 65536) (by omega) (by omega) b HB.out _).mono ?_); rintro e' wl ⟨rfl, rfl⟩) | (go_at_call 9; (with_reducible refine Calls.mono (works10_w _ (TB.out.kp K2.out)) ?_); rintro e' wz ⟨rfl, qk⟩; have KZ := Lib.hid (K2.out.trans qk); clear qk))
  go_ret
  exact ⟨rfl, KZ.out⟩
theorem tells_w (x : Int) (x0 : 0 ≤ x) (x1 : x < 4294967296) (w : World) (tb : Tb w) :
    Calls Tryz.prog 3 #[.int .u32 x] w fun e w' => e = .returned (.bool true) ∧ Kp w w' := by
  obtain ⟨d, hd⟩ : ∃ d, dcd x = d := ⟨_, rfl⟩
  have r := rdcd_w x x0 x1
  rw [hd] at r
  obtain ⟨⟨op, fn, rd, r1, r2, imm, wid, wo, us⟩, len, raw⟩ := d
  exact tells_c x x0 x1 op fn rd r1 r2 imm wid wo us len raw _ rfl (fun w tb => dcd_at x x0 x1 _ hd w tb) r w tb
end Go.Proofs.YtlfeandnpflaaaaGreatDoor
