/-
  BoundsKnown: the chapter's examples; lengths at their ends, each with each (it is closed): the walk of the law. No condition.
-/
import Derived.Test.YtiaklnbeklfnpaaBRefAll
import Derived.Test.YtiaklnbeklfnpaaBEnoughW
import Derived.Test.YtiaklnbeklfnpaaBoundsOnce
namespace Go.Proofs.Ytiaklnbeklfnpaa.boundsKnown
open Go.ChangeShapes Go.WideShapes Go.ChangeAt Go.RowKit
set_option linter.unusedVariables false
set_option linter.unusedSimpArgs false
theorem own : ownKnob Try.prog.godebug = none := by kernel_rfl
def endsL : List Int := [0, 1, 4095, 4096, 8191, 8192, 4294967295, 4294967296, 9223372036854775807, 9223372036854775808, 18446744073709547520, 18446744073709551615]
def endV (j : Nat) : Int := endsL.getD j 0
theorem endV_bd (j : Nat) : 0 ≤ endV j ∧ endV j < 18446744073709551616 := by
  rcases (by omega : j = 0 ∨ j = 1 ∨ j = 2 ∨ j = 3 ∨ j = 4 ∨ j = 5 ∨ j = 6 ∨ j = 7 ∨ j = 8 ∨ j = 9 ∨ j = 10 ∨ j = 11 ∨ 12 ≤ j) with rfl | rfl | rfl | rfl | rfl | rfl | rfl | rfl | rfl | rfl | rfl | rfl | h
  all_goals first
    | (constructor <;> decide)
    | (have : endV j = 0 := by unfold endV; rw [List.getD_eq_getElem?_getD, List.getElem?_eq_none (by simpa [endsL] using h)]; rfl
       rw [this]; omega)
theorem enough_all : ∀ i : Fin 12, ∀ k : Fin 12, enoughB (endV i.1) (endV k.1) (endV i.1) = true := by decide +kernel
theorem all_all : ∀ i : Fin 12, ∀ k : Fin 12, allB (endV i.1) (endV k.1) (endV i.1) = true := by decide +kernel
/-- The list of numbers lies in block B. -/
def Nl (v0 : World) (B : Nat) (w : World) : Prop := Kp v0 w ∧ B < w.heap.size ∧ ∀ j : Nat, j < 12 → w.cell? ⟨B, j, none⟩ = some (.int .u64 (endV j))
theorem Nl.kp {v0 w w' : World} {B : Nat} (h : Nl v0 B w) (k : Kp w w') : Nl v0 B w' :=
  ⟨h.1.trans k, Nat.lt_of_lt_of_le h.2.1 k.size, fun j hj => (k.cell (p := ⟨B, j, none⟩) h.2.1).trans (h.2.2 j hj)⟩
def tab : Array Value := #[.int .u64 0, .int .u64 1, .int .u64 4095, .int .u64 4096, .int .u64 8191, .int .u64 8192, .int .u64 4294967295, .int .u64 4294967296, .int .u64 9223372036854775807, .int .u64 9223372036854775808, .int .u64 18446744073709547520, .int .u64 18446744073709551615]
theorem tab_at (j : Nat) (h : j < 12) : tab[j]? = some (.int .u64 (endV j)) := by
  rcases (by omega : j = 0 ∨ j = 1 ∨ j = 2 ∨ j = 3 ∨ j = 4 ∨ j = 5 ∨ j = 6 ∨ j = 7 ∨ j = 8 ∨ j = 9 ∨ j = 10 ∨ j = 11) with rfl | rfl | rfl | rfl | rfl | rfl | rfl | rfl | rfl | rfl | rfl | rfl
  all_goals rfl
theorem start (w : World) : Nl w w.heap.size (w.alloc (.cells tab 22)) :=
  ⟨Kp.alloc w _ _, by simp, fun j hj => by
    have hh : (w.alloc (.cells tab 22)).heap[w.heap.size]? = some (.cells tab 22) := (MapKept.heap_alloc w _).1
    simp only [World.cell?, hh]; exact tab_at j hj⟩
theorem mask_a (w : World) : Calls Try.prog 13 #[.int .u64 4095] w fun e w' => e = .returned (.int .u64 18446744073709551615) ∧ Kp w w' := by
  have c := mask_w 4095 (by omega) (by omega) w
  rw [show maskV 4095 = 18446744073709551615 by decide +kernel] at c; exact c
theorem mask_b (w : World) : Calls Try.prog 13 #[.int .u64 4096] w fun e w' => e = .returned (.int .u64 18446744073709551608) ∧ Kp w w' := by
  have c := mask_w 4096 (by omega) (by omega) w
  rw [show maskV 4096 = 18446744073709551608 by decide +kernel] at c; exact c
theorem round_a (w : World) : Calls Try.prog 14 #[.int .u64 4097] w fun e w' => e = .returned (.int .u64 4104) ∧ Kp w w' := by
  have c := round_w 4097 (by omega) (by omega) (by decide +kernel) (by decide +kernel) w
  rw [show roundV 4097 = 4104 by decide +kernel] at c; exact c
theorem in_c (a n : Int) (x : Bool) (h : inB 0 0 true a n = x) (a0 : 0 ≤ a) (a1 : a < 18446744073709551616) (n0 : -9223372036854775808 ≤ n) (n1 : n < 9223372036854775808) (w : World) :
    Calls Try.prog 6 #[.agg #[.int .u64 0, .int .u64 0, .bool true], .int .u64 a, .int .i64 n] w fun e w' => e = .returned (.bool x) ∧ Kp w w' :=
  in_at 0 0 true a n x h (by omega) (by omega) a0 a1 n0 n1 w
theorem len_a (w : World) : Calls Try.prog 7 #[.agg #[.int .u64 0, .int .u64 0, .bool true]] w fun e w' => e = .returned (.int .u64 18446744073709551615) ∧ Kp w w' := by
  have c := len_w 0 0 true (by omega) (by omega) (by omega) (by omega) w
  rw [show lenV 0 0 true = 18446744073709551615 by decide +kernel] at c; exact c
theorem len_b (w : World) : Calls Try.prog 7 #[.agg #[.int .u64 5, .int .u64 4, .bool false]] w fun e w' => e = .returned (.int .u64 0) ∧ Kp w w' := by
  have c := len_w 5 4 false (by omega) (by omega) (by omega) (by omega) w
  rw [show lenV 5 4 false = 0 by decide +kernel] at c; exact c
theorem once_w (a n : Int) (a0 : 0 ≤ a) (a1 : a < 18446744073709551616) (n0 : 0 ≤ n) (n1 : n < 18446744073709551616) (w : World) :
    Calls Try.prog 11 #[.int .u64 a, .int .u64 n] w fun e w' => e = .returned (.bool true) ∧ Kp w w' :=
  boundsOnce.all_k w a n a0 a1 n0 n1 w (Kp.refl w)
set_option maxRecDepth 100000 in
set_option maxHeartbeats 8000000 in
theorem walk (w : World) :
    Calls Try.prog 4 #[] w fun e w' => e = .returned (.bool true) ∧ Grown w w' := by
  go_enter Try.func4, Try.ntmps4
  go_wp2
  go_loopw [2] (fun i wr => ∃ n : Nat, n ≤ 12 ∧ i = .int .i64 n ∧ Nl w w.heap.size wr) (fun i _ => 12 - (intOf i).toNat)
  case atStart => exact ⟨0, by omega, rfl, start w⟩
  case round =>
    obtain ⟨n, hn, rfl, hw⟩ := hrel
    by_cases hlt : n < 12
    · have i0 : (0 : Int) ≤ (n : Int) := by omega
      have i1 : (n : Int) < (12 : Int) := by omega
      go_wp2
      go_loopw [3] (fun i wr => ∃ k : Nat, k ≤ 12 ∧ i = .int .i64 k ∧ Nl w w.heap.size wr) (fun i _ => 12 - (intOf i).toNat)
      case atStart => exact ⟨0, by omega, rfl, by assumption⟩
      case round =>
        obtain ⟨k, hk, rfl, hw2⟩ := hrel
        by_cases hlt2 : k < 12
        · have k0 : (0 : Int) ≤ (k : Int) := by omega
          have k1 : (k : Int) < (12 : Int) := by omega
          have cn := hw2.2.2 n hlt
          have ck := hw2.2.2 k hlt2
          have T1 := Lib.hid (enough_all ⟨n, hlt⟩ ⟨k, hlt2⟩)
          have T2 := Lib.hid (all_all ⟨n, hlt⟩ ⟨k, hlt2⟩)
          obtain ⟨x0, x1⟩ := endV_bd n
          obtain ⟨y0, y1⟩ := endV_bd k
          obtain ⟨x, ex⟩ : ∃ x, endV n = x := ⟨_, rfl⟩
          obtain ⟨y, ey⟩ : ∃ y, endV k = y := ⟨_, rfl⟩
          simp only [ex, ey] at cn ck T1 T2 x0 x1 y0 y1
          have hql := hw2.2.1
          have HN := Lib.hid hw2
          clear hw2 ex ey hn hk
          have kb : Bh wr (wr.heap.size + 1) (wr.alloc (.cells #[.bool false, .int .i64 0, .int .i64 0, .int .i64 1, .int .i64 0, .int .i64 5, .int .i64 6, .bool false, .int .u64 x] 32)) := ⟨(Kp.refl wr).allocs _ _, by simp, by simp⟩
          have hq1 : ¬ w.heap.size = wr.heap.size := by omega
          have hq2 : ¬ wr.heap.size = w.heap.size := by omega
          go_upto_region 9 with fail
          go_region_held3 (fun w' => w'.cell? ⟨wr.heap.size, 0, none⟩ = some (.bool false) ∧ w'.cell? ⟨wr.heap.size, 1, none⟩ = some (.int .i64 0) ∧ w'.cell? ⟨wr.heap.size, 2, none⟩ = some (.int .i64 0) ∧ w'.cell? ⟨wr.heap.size, 3, none⟩ = some (.int .i64 1) ∧ w'.cell? ⟨wr.heap.size, 4, none⟩ = some (.int .i64 0) ∧ w'.cell? ⟨wr.heap.size, 5, none⟩ = some (.int .i64 5) ∧ w'.cell? ⟨wr.heap.size, 6, none⟩ = some (.int .i64 6) ∧ w'.cell? ⟨wr.heap.size, 7, none⟩ = some (.bool false) ∧ w'.cell? ⟨wr.heap.size, 8, none⟩ = some (.int .u64 x) ∧ w'.cell? ⟨w.heap.size, n, none⟩ = some (.int .u64 x) ∧ w'.cell? ⟨w.heap.size, k, none⟩ = some (.int .u64 y) ∧ Bh wr (wr.heap.size + 1) w')
            (first | (refine ⟨?_, ?_, ?_, ?_, ?_, ?_, ?_, ?_, ?_, ?_, ?_, ?_⟩ <;> first | with_reducible assumption | ((repeat' (first | with_reducible assumption | with_reducible apply Bh.drew | with_reducible apply Bh.alloc | with_reducible apply Bh.set | with_reducible refine Bh.cell_set (n := wr.heap.size + 1) (p := ⟨_, _, none⟩) ?_ ?_ ?_ | with_reducible refine Bh.cell_alloc (W := wr) (n := wr.heap.size + 1) (p := ⟨_, _, none⟩) ?_ ?_ ?_ | (dsimp only; omega))); done) | (with_reducible apply Bh.drew; assumption) | (simp [go_sem, *]; done)))
            (first
              | (go_at_call 9; go_split_ands; with_reducible refine (enough_w false 0 0 1 0 5 6 false x y x x0 x1 y0 y1 x0 x1 T1.out _).mono ?_; rintro e w' ⟨rfl, qk⟩; have q0 : w'.cell? ⟨wr.heap.size, 0, none⟩ = some (.bool false) := Bh.cell (n := wr.heap.size + 1) (W := wr) (by with_reducible assumption) qk (by dsimp only; omega) (by with_reducible assumption); have q1 : w'.cell? ⟨wr.heap.size, 1, none⟩ = some (.int .i64 0) := Bh.cell (n := wr.heap.size + 1) (W := wr) (by with_reducible assumption) qk (by dsimp only; omega) (by with_reducible assumption); have q2 : w'.cell? ⟨wr.heap.size, 2, none⟩ = some (.int .i64 0) := Bh.cell (n := wr.heap.size + 1) (W := wr) (by with_reducible assumption) qk (by dsimp only; omega) (by with_reducible assumption); have q3 : w'.cell? ⟨wr.heap.size, 3, none⟩ = some (.int .i64 1) := Bh.cell (n := wr.heap.size + 1) (W := wr) (by with_reducible assumption) qk (by dsimp only; omega) (by with_reducible assumption); have q4 : w'.cell? ⟨wr.heap.size, 4, none⟩ = some (.int .i64 0) := Bh.cell (n := wr.heap.size + 1) (W := wr) (by with_reducible assumption) qk (by dsimp only; omega) (by with_reducible assumption); have q5 : w'.cell? ⟨wr.heap.size, 5, none⟩ = some (.int .i64 5) := Bh.cell (n := wr.heap.size + 1) (W := wr) (by with_reducible assumption) qk (by dsimp only; omega) (by with_reducible assumption); have q6 : w'.cell? ⟨wr.heap.size, 6, none⟩ = some (.int .i64 6) := Bh.cell (n := wr.heap.size + 1) (W := wr) (by with_reducible assumption) qk (by dsimp only; omega) (by with_reducible assumption); have q7 : w'.cell? ⟨wr.heap.size, 7, none⟩ = some (.bool false) := Bh.cell (n := wr.heap.size + 1) (W := wr) (by with_reducible assumption) qk (by dsimp only; omega) (by with_reducible assumption); have q8 : w'.cell? ⟨wr.heap.size, 8, none⟩ = some (.int .u64 x) := Bh.cell (n := wr.heap.size + 1) (W := wr) (by with_reducible assumption) qk (by dsimp only; omega) (by with_reducible assumption); have q9 : w'.cell? ⟨w.heap.size, n, none⟩ = some (.int .u64 x) := Bh.cell (n := wr.heap.size + 1) (W := wr) (by with_reducible assumption) qk (by dsimp only; omega) (by with_reducible assumption); have q10 : w'.cell? ⟨w.heap.size, k, none⟩ = some (.int .u64 y) := Bh.cell (n := wr.heap.size + 1) (W := wr) (by with_reducible assumption) qk (by dsimp only; omega) (by with_reducible assumption); have qb : Bh wr (wr.heap.size + 1) w' := Bh.step (by with_reducible assumption) qk; have ql := qb.le; clear qk)
              | (go_at_call 10; go_split_ands; with_reducible refine (all_w false 0 0 1 0 5 6 false x y x x0 x1 y0 y1 x0 x1 T2.out _).mono ?_; rintro e w' ⟨rfl, qk⟩; have q0 : w'.cell? ⟨wr.heap.size, 0, none⟩ = some (.bool false) := Bh.cell (n := wr.heap.size + 1) (W := wr) (by with_reducible assumption) qk (by dsimp only; omega) (by with_reducible assumption); have q1 : w'.cell? ⟨wr.heap.size, 1, none⟩ = some (.int .i64 0) := Bh.cell (n := wr.heap.size + 1) (W := wr) (by with_reducible assumption) qk (by dsimp only; omega) (by with_reducible assumption); have q2 : w'.cell? ⟨wr.heap.size, 2, none⟩ = some (.int .i64 0) := Bh.cell (n := wr.heap.size + 1) (W := wr) (by with_reducible assumption) qk (by dsimp only; omega) (by with_reducible assumption); have q3 : w'.cell? ⟨wr.heap.size, 3, none⟩ = some (.int .i64 1) := Bh.cell (n := wr.heap.size + 1) (W := wr) (by with_reducible assumption) qk (by dsimp only; omega) (by with_reducible assumption); have q4 : w'.cell? ⟨wr.heap.size, 4, none⟩ = some (.int .i64 0) := Bh.cell (n := wr.heap.size + 1) (W := wr) (by with_reducible assumption) qk (by dsimp only; omega) (by with_reducible assumption); have q5 : w'.cell? ⟨wr.heap.size, 5, none⟩ = some (.int .i64 5) := Bh.cell (n := wr.heap.size + 1) (W := wr) (by with_reducible assumption) qk (by dsimp only; omega) (by with_reducible assumption); have q6 : w'.cell? ⟨wr.heap.size, 6, none⟩ = some (.int .i64 6) := Bh.cell (n := wr.heap.size + 1) (W := wr) (by with_reducible assumption) qk (by dsimp only; omega) (by with_reducible assumption); have q7 : w'.cell? ⟨wr.heap.size, 7, none⟩ = some (.bool false) := Bh.cell (n := wr.heap.size + 1) (W := wr) (by with_reducible assumption) qk (by dsimp only; omega) (by with_reducible assumption); have q8 : w'.cell? ⟨wr.heap.size, 8, none⟩ = some (.int .u64 x) := Bh.cell (n := wr.heap.size + 1) (W := wr) (by with_reducible assumption) qk (by dsimp only; omega) (by with_reducible assumption); have q9 : w'.cell? ⟨w.heap.size, n, none⟩ = some (.int .u64 x) := Bh.cell (n := wr.heap.size + 1) (W := wr) (by with_reducible assumption) qk (by dsimp only; omega) (by with_reducible assumption); have q10 : w'.cell? ⟨w.heap.size, k, none⟩ = some (.int .u64 y) := Bh.cell (n := wr.heap.size + 1) (W := wr) (by with_reducible assumption) qk (by dsimp only; omega) (by with_reducible assumption); have qb : Bh wr (wr.heap.size + 1) w' := Bh.step (by with_reducible assumption) qk; have ql := qb.le; clear qk)
              | (go_at_call 11; go_split_ands; with_reducible refine (once_w x y x0 x1 y0 y1 _).mono ?_; rintro e w' ⟨rfl, qk⟩; have q0 : w'.cell? ⟨wr.heap.size, 0, none⟩ = some (.bool false) := Bh.cell (n := wr.heap.size + 1) (W := wr) (by with_reducible assumption) qk (by dsimp only; omega) (by with_reducible assumption); have q1 : w'.cell? ⟨wr.heap.size, 1, none⟩ = some (.int .i64 0) := Bh.cell (n := wr.heap.size + 1) (W := wr) (by with_reducible assumption) qk (by dsimp only; omega) (by with_reducible assumption); have q2 : w'.cell? ⟨wr.heap.size, 2, none⟩ = some (.int .i64 0) := Bh.cell (n := wr.heap.size + 1) (W := wr) (by with_reducible assumption) qk (by dsimp only; omega) (by with_reducible assumption); have q3 : w'.cell? ⟨wr.heap.size, 3, none⟩ = some (.int .i64 1) := Bh.cell (n := wr.heap.size + 1) (W := wr) (by with_reducible assumption) qk (by dsimp only; omega) (by with_reducible assumption); have q4 : w'.cell? ⟨wr.heap.size, 4, none⟩ = some (.int .i64 0) := Bh.cell (n := wr.heap.size + 1) (W := wr) (by with_reducible assumption) qk (by dsimp only; omega) (by with_reducible assumption); have q5 : w'.cell? ⟨wr.heap.size, 5, none⟩ = some (.int .i64 5) := Bh.cell (n := wr.heap.size + 1) (W := wr) (by with_reducible assumption) qk (by dsimp only; omega) (by with_reducible assumption); have q6 : w'.cell? ⟨wr.heap.size, 6, none⟩ = some (.int .i64 6) := Bh.cell (n := wr.heap.size + 1) (W := wr) (by with_reducible assumption) qk (by dsimp only; omega) (by with_reducible assumption); have q7 : w'.cell? ⟨wr.heap.size, 7, none⟩ = some (.bool false) := Bh.cell (n := wr.heap.size + 1) (W := wr) (by with_reducible assumption) qk (by dsimp only; omega) (by with_reducible assumption); have q8 : w'.cell? ⟨wr.heap.size, 8, none⟩ = some (.int .u64 x) := Bh.cell (n := wr.heap.size + 1) (W := wr) (by with_reducible assumption) qk (by dsimp only; omega) (by with_reducible assumption); have q9 : w'.cell? ⟨w.heap.size, n, none⟩ = some (.int .u64 x) := Bh.cell (n := wr.heap.size + 1) (W := wr) (by with_reducible assumption) qk (by dsimp only; omega) (by with_reducible assumption); have q10 : w'.cell? ⟨w.heap.size, k, none⟩ = some (.int .u64 y) := Bh.cell (n := wr.heap.size + 1) (W := wr) (by with_reducible assumption) qk (by dsimp only; omega) (by with_reducible assumption); have qb : Bh wr (wr.heap.size + 1) w' := Bh.step (by with_reducible assumption) qk; have ql := qb.le; clear qk)
              | (go_at_call 12; go_split_ands; with_reducible refine (lays_w false 0 0 1 0 5 6 false x y x0 x1 y0 y1 _).mono ?_; rintro e w' ⟨rfl, qk⟩; have q0 : w'.cell? ⟨wr.heap.size, 0, none⟩ = some (.bool false) := Bh.cell (n := wr.heap.size + 1) (W := wr) (by with_reducible assumption) qk (by dsimp only; omega) (by with_reducible assumption); have q1 : w'.cell? ⟨wr.heap.size, 1, none⟩ = some (.int .i64 0) := Bh.cell (n := wr.heap.size + 1) (W := wr) (by with_reducible assumption) qk (by dsimp only; omega) (by with_reducible assumption); have q2 : w'.cell? ⟨wr.heap.size, 2, none⟩ = some (.int .i64 0) := Bh.cell (n := wr.heap.size + 1) (W := wr) (by with_reducible assumption) qk (by dsimp only; omega) (by with_reducible assumption); have q3 : w'.cell? ⟨wr.heap.size, 3, none⟩ = some (.int .i64 1) := Bh.cell (n := wr.heap.size + 1) (W := wr) (by with_reducible assumption) qk (by dsimp only; omega) (by with_reducible assumption); have q4 : w'.cell? ⟨wr.heap.size, 4, none⟩ = some (.int .i64 0) := Bh.cell (n := wr.heap.size + 1) (W := wr) (by with_reducible assumption) qk (by dsimp only; omega) (by with_reducible assumption); have q5 : w'.cell? ⟨wr.heap.size, 5, none⟩ = some (.int .i64 5) := Bh.cell (n := wr.heap.size + 1) (W := wr) (by with_reducible assumption) qk (by dsimp only; omega) (by with_reducible assumption); have q6 : w'.cell? ⟨wr.heap.size, 6, none⟩ = some (.int .i64 6) := Bh.cell (n := wr.heap.size + 1) (W := wr) (by with_reducible assumption) qk (by dsimp only; omega) (by with_reducible assumption); have q7 : w'.cell? ⟨wr.heap.size, 7, none⟩ = some (.bool false) := Bh.cell (n := wr.heap.size + 1) (W := wr) (by with_reducible assumption) qk (by dsimp only; omega) (by with_reducible assumption); have q8 : w'.cell? ⟨wr.heap.size, 8, none⟩ = some (.int .u64 x) := Bh.cell (n := wr.heap.size + 1) (W := wr) (by with_reducible assumption) qk (by dsimp only; omega) (by with_reducible assumption); have q9 : w'.cell? ⟨w.heap.size, n, none⟩ = some (.int .u64 x) := Bh.cell (n := wr.heap.size + 1) (W := wr) (by with_reducible assumption) qk (by dsimp only; omega) (by with_reducible assumption); have q10 : w'.cell? ⟨w.heap.size, k, none⟩ = some (.int .u64 y) := Bh.cell (n := wr.heap.size + 1) (W := wr) (by with_reducible assumption) qk (by dsimp only; omega) (by with_reducible assumption); have qb : Bh wr (wr.heap.size + 1) w' := Bh.step (by with_reducible assumption) qk; have ql := qb.le; clear qk))
          all_goals
            have HQ := Lib.hid qb.kp
            go_wp2
            go_roundw
            case rel => exact ⟨k + 1, by omega, by go_num, HN.out.kp HQ.out⟩
            case measure => simp [intOf]; omega
        · go_wp2
          go_roundw
          case rel => exact ⟨n + 1, by omega, by go_num, by assumption⟩
          case measure => simp [intOf]; omega
    · have K0 := Lib.hid hw.1
      go_wp2_with (first
        | (go_at_call 13; (with_reducible refine (mask_a _).mono ?_); rintro e' w1 ⟨rfl, qk⟩; have K1 := Lib.hid (K0.out.trans qk); clear qk)
        | (go_at_call 13; (with_reducible refine (mask_b _).mono ?_); rintro e' w2 ⟨rfl, qk⟩; have K2 := Lib.hid (K1.out.trans qk); clear qk)
        | (go_at_call 14; (with_reducible refine (round_a _).mono ?_); rintro e' w3 ⟨rfl, qk⟩; have K3 := Lib.hid (K2.out.trans qk); clear qk)
        | (go_at_call 6; (with_reducible refine (in_c 5 (-1) false (by decide +kernel) (by omega) (by omega) (by omega) (by omega) _).mono ?_); rintro e' w4 ⟨rfl, qk⟩; have K4 := Lib.hid (K3.out.trans qk); clear qk)
        | (go_at_call 6; (with_reducible refine (in_c 18446744073709551615 1 true (by decide +kernel) (by omega) (by omega) (by omega) (by omega) _).mono ?_); rintro e' w5 ⟨rfl, qk⟩; have K5 := Lib.hid (K4.out.trans qk); clear qk)
        | (go_at_call 6; (with_reducible refine (in_c 18446744073709551615 2 false (by decide +kernel) (by omega) (by omega) (by omega) (by omega) _).mono ?_); rintro e' w6 ⟨rfl, qk⟩; have K6 := Lib.hid (K5.out.trans qk); clear qk)
        | (go_at_call 7; (with_reducible refine (len_a _).mono ?_); rintro e' w7 ⟨rfl, qk⟩; have K7 := Lib.hid (K6.out.trans qk); clear qk)
        | (go_at_call 7; (with_reducible refine (len_b _).mono ?_); rintro e' w8 ⟨rfl, qk⟩; have K8 := Lib.hid (K7.out.trans qk); clear qk)
        | (go_at_call 8; (with_reducible refine (known_w _).mono ?_); rintro e' w9 ⟨rfl, qk⟩; have K9 := Lib.hid (K8.out.trans qk); clear qk))
      go_ret
      exact ⟨rfl, K9.out.grown⟩
end Go.Proofs.Ytiaklnbeklfnpaa.boundsKnown
