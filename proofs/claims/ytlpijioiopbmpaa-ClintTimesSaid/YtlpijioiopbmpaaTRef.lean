/-
  The document's time: three cells; its calls. No condition.
-/
import Derived.Test.YtlpijioiopbmpaaTSpec
import Derived.Test.YtlpijioiopbmpaaQFr
import Derived.StillTailTactics
namespace Go.Proofs.Ytlpijioiopbmpaa
open Go.ChangeShapes Go.WideShapes Go.ChangeAt Go.RowKit
set_option linter.unusedVariables false
set_option linter.unusedSimpArgs false
/-- The document's: the time, the alarm, the bell. -/
structure RT (w : World) (g : Nat) (S : TS) : Prop where
  lt : g < w.heap.size
  fz : ∀ j, w.frozen? ⟨g, j, none⟩ = false
  c0 : w.cell? ⟨g, 0, none⟩ = some (.int .u64 S.now)
  c1 : w.cell? ⟨g, 1, none⟩ = some (.int .u64 S.al)
  c2 : w.cell? ⟨g, 2, none⟩ = some (.bool S.be)
theorem RT.block {w w' : World} {g : Nat} {S : TS} (m : RT w g S) (hs : w.heap.size ≤ w'.heap.size) (e : w'.heap[g]? = w.heap[g]?) : RT w' g S := by
  have c : ∀ j, w'.cell? ⟨g, j, none⟩ = w.cell? ⟨g, j, none⟩ := fun j => World.cell?_of_block e
  exact ⟨Nat.lt_of_lt_of_le m.lt hs, fun j => (World.frozen?_of_block (a := ⟨g, j, none⟩) e).trans (m.fz j), (c _).trans m.c0, (c _).trans m.c1, (c _).trans m.c2⟩
theorem RT.fr {w w' : World} {g : Nat} {S : TS} {R : Nat → Prop} (m : RT w g S) (k : Fr w w' R) (h : ¬ R g) : RT w' g S := m.block k.size (k.block g m.lt h)
theorem RT.below {w w' : World} {g : Nat} {S : TS} (m : RT w g S) (k : Below w.heap.size w w') : RT w' g S := m.block k.size (k.block g m.lt)
theorem RT.kp {w w' : World} {g : Nat} {S : TS} (m : RT w g S) (k : Kp w w') : RT w' g S := m.below k.1
theorem RT.drew {w : World} {g : Nat} {S : TS} (m : RT w g S) : RT w.drew g S := ⟨m.lt, m.fz, m.c0, m.c1, m.c2⟩
theorem cell_othT {w : World} {g i j : Nat} {u : Value} {v : Option Value} (h : w.cell? ⟨g, i, none⟩ = v) (e : i ≠ j) : (w.setCell ⟨g, j, none⟩ u).cell? ⟨g, i, none⟩ = v := by
  rw [World.cell?_setCell_other w ⟨g, j, none⟩ ⟨g, i, none⟩ u (fun x => e (by cases x; rfl))]; exact h
theorem cell_selfT {w : World} {g i : Nat} {u v : Value} (h : w.cell? ⟨g, i, none⟩ = some v) : (w.setCell ⟨g, i, none⟩ u).cell? ⟨g, i, none⟩ = some u := by simp [go_sem, h]
theorem RT.set0 {w : World} {g : Nat} {S : TS} (m : RT w g S) (x : Int) : RT (w.setCell ⟨g, 0, none⟩ (.int .u64 x)) g { S with now := x } :=
  ⟨by simpa [World.setCell] using m.lt, fun j => by rw [World.frozen?_setCell]; exact m.fz j, cell_selfT m.c0, cell_othT m.c1 (by decide), cell_othT m.c2 (by decide)⟩
theorem RT.set1 {w : World} {g : Nat} {S : TS} (m : RT w g S) (x : Int) : RT (w.setCell ⟨g, 1, none⟩ (.int .u64 x)) g { S with al := x } :=
  ⟨by simpa [World.setCell] using m.lt, fun j => by rw [World.frozen?_setCell]; exact m.fz j, cell_othT m.c0 (by decide), cell_selfT m.c1, cell_othT m.c2 (by decide)⟩
theorem RT.set2 {w : World} {g : Nat} {S : TS} (m : RT w g S) (x : Bool) : RT (w.setCell ⟨g, 2, none⟩ (.bool x)) g { S with be := x } :=
  ⟨by simpa [World.setCell] using m.lt, fun j => by rw [World.frozen?_setCell]; exact m.fz j, cell_othT m.c0 (by decide), cell_othT m.c1 (by decide), cell_selfT m.c2⟩
set_option maxHeartbeats 4000000 in
theorem rtnew_w (w : World) : Calls Try.prog 9 #[] w fun e w' => ∃ g, e = .returned (.pointer (some ⟨g, 0, none⟩)) ∧ RT w' g TS.new ∧ Below w.heap.size w w' ∧ w.heap.size ≤ g := by
  go_enter Try.func9, Try.ntmps9
  go_wp2
  have b := Blk.new w 52 [.int .u64 0, .int .u64 18446744073709551615, .bool false]
  have a := b.at_
  refine bodyPost_ret (v := .pointer (some ⟨w.heap.size, 0, none⟩)) ?_ rfl ⟨_, rfl, ⟨b.lt, b.frozen, a 0 _ rfl, a 1 _ rfl, a 2 _ rfl⟩, (Below.refl _ w).alloc (Nat.le_refl _) _, Nat.le_refl _⟩
  simp [results, Try.results9, go_sem]
theorem rttick_w {w : World} {g : Nat} {S : TS} (m : RT w g S) (ok : S.Ok) (n : Int) (n1 : n < 9223372036854775808) : Calls Try.prog 17 #[.pointer (some ⟨g, 0, none⟩), .int .i64 n] w fun e w' => e = .returned (.tuple #[]) ∧ RT w' g (S.tick n) ∧ Fr w w' (fun i => i = g) := by
  have c0 := m.c0
  have z0 := m.fz 0
  unfold TS.tick
  by_cases h : 0 < n
  · rw [if_pos h]
    have t : decide (0 < n) = true := by simpa using h
    have e0 : IntKind.u64.wrap n = n := by rw [IntKind.wrap_u64]; omega
    have e1 : IntKind.u64.wrap (S.now + n) = (S.now + n) % 18446744073709551616 := IntKind.wrap_u64 _
    have HS := Lib.hid (m.set0 ((S.now + n) % 18446744073709551616))
    clear m h n1
    generalize (S.now + n) % 18446744073709551616 = y at *
    go_enter Try.func17, Try.ntmps17
    go_wp2
    refine bodyPost_end (v := .tuple #[]) (by simp [results, Try.results17, go_sem]) rfl ⟨rfl, HS.out, (Fr.refl w (fun i => i = g)).setCell (p := ⟨g, 0, none⟩) (.inr rfl) _⟩
  · rw [if_neg h]
    have t : decide (0 < n) = false := by simpa using h
    have HM := Lib.hid m
    clear h
    go_enter Try.func17, Try.ntmps17
    go_wp2
    refine bodyPost_end (v := .tuple #[]) (by simp [results, Try.results17, go_sem]) rfl ⟨rfl, HM.out, Fr.refl _ _⟩
theorem rttime_w {w : World} {g : Nat} {S : TS} (m : RT w g S) : Calls Try.prog 22 #[.pointer (some ⟨g, 0, none⟩)] w fun e w' => e = .returned (.int .u64 S.now) ∧ Kp w w' := by
  have c0 := m.c0
  go_enter Try.func22, Try.ntmps22
  go_wp2
  go_ret
  exact ⟨rfl, Kp.refl w⟩
theorem rtsoft_w {w : World} {g : Nat} {S : TS} (m : RT w g S) : Calls Try.prog 24 #[.pointer (some ⟨g, 0, none⟩)] w fun e w' => e = .returned (.bool S.be) ∧ Kp w w' := by
  have c0 := m.c2
  go_enter Try.func24, Try.ntmps24
  go_wp2
  go_ret
  exact ⟨rfl, Kp.refl w⟩
theorem rttimer_w {w : World} {g : Nat} {S : TS} (m : RT w g S) : Calls Try.prog 23 #[.pointer (some ⟨g, 0, none⟩)] w fun e w' => e = .returned (.bool S.timer) ∧ Kp w w' := by
  have c0 := m.c0
  have c1 := m.c1
  obtain ⟨b, hb⟩ : ∃ b, decide (S.al ≤ S.now) = b := ⟨_, rfl⟩
  rw [show S.timer = b from hb]
  go_enter Try.func23, Try.ntmps23
  go_wp2
  go_quiet (fail)
  go_wp2
  go_ret
  exact ⟨rfl, (Kp.refl w).drewN nq⟩
theorem rtload_0_4 {w : World} {g : Nat} {S : TS} (m : RT w g S) : Calls Try.prog 13 #[.pointer (some ⟨g, 0, none⟩), .int .i64 0, .int .i64 4] w fun e w' => e = .returned (.tuple #[.int .u64 S.bell, .bool true]) ∧ Kp w w' := by
  have c0 := m.c2
  unfold TS.bell
  cases hb : S.be
  all_goals
    rw [hb] at c0
    clear m hb
    go_enter Try.func13, Try.ntmps13
    go_wp2
    go_ret2
    exact ⟨rfl, Kp.refl w⟩
theorem rtload_16384_8 {w : World} {g : Nat} {S : TS} (m : RT w g S) (ok : S.Ok) : Calls Try.prog 13 #[.pointer (some ⟨g, 0, none⟩), .int .i64 16384, .int .i64 8] w fun e w' => e = .returned (.tuple #[.int .u64 (S.al), .bool true]) ∧ Kp w w' := by
  have c0 := m.c1
  have b0 := ok.a0
  have b1 := ok.a1
  clear m ok
  generalize S.al = y at *
  go_enter Try.func13, Try.ntmps13
  go_wp2
  go_ret2
  exact ⟨rfl, Kp.refl w⟩
theorem rtload_16384_4 {w : World} {g : Nat} {S : TS} (m : RT w g S) (ok : S.Ok) : Calls Try.prog 13 #[.pointer (some ⟨g, 0, none⟩), .int .i64 16384, .int .i64 4] w fun e w' => e = .returned (.tuple #[.int .u64 (S.al % 4294967296), .bool true]) ∧ Kp w w' := by
  have c0 := m.c1
  have b0 := ok.a0
  have b1 := ok.a1
  clear m ok
  generalize S.al = y at *
  go_enter Try.func13, Try.ntmps13
  go_wp2
  go_ret2
  exact ⟨rfl, Kp.refl w⟩
theorem rtload_16388_4 {w : World} {g : Nat} {S : TS} (m : RT w g S) (ok : S.Ok) : Calls Try.prog 13 #[.pointer (some ⟨g, 0, none⟩), .int .i64 16388, .int .i64 4] w fun e w' => e = .returned (.tuple #[.int .u64 (S.al / 4294967296), .bool true]) ∧ Kp w w' := by
  have c0 := m.c1
  have b0 := ok.a0
  have b1 := ok.a1
  clear m ok
  generalize S.al = y at *
  go_enter Try.func13, Try.ntmps13
  go_wp2
  go_ret2
  exact ⟨rfl, Kp.refl w⟩
theorem rtload_49144_8 {w : World} {g : Nat} {S : TS} (m : RT w g S) (ok : S.Ok) : Calls Try.prog 13 #[.pointer (some ⟨g, 0, none⟩), .int .i64 49144, .int .i64 8] w fun e w' => e = .returned (.tuple #[.int .u64 (S.now), .bool true]) ∧ Kp w w' := by
  have c0 := m.c0
  have b0 := ok.n0
  have b1 := ok.n1
  clear m ok
  generalize S.now = y at *
  go_enter Try.func13, Try.ntmps13
  go_wp2
  go_ret2
  exact ⟨rfl, Kp.refl w⟩
theorem rtload_49144_4 {w : World} {g : Nat} {S : TS} (m : RT w g S) (ok : S.Ok) : Calls Try.prog 13 #[.pointer (some ⟨g, 0, none⟩), .int .i64 49144, .int .i64 4] w fun e w' => e = .returned (.tuple #[.int .u64 (S.now % 4294967296), .bool true]) ∧ Kp w w' := by
  have c0 := m.c0
  have b0 := ok.n0
  have b1 := ok.n1
  clear m ok
  generalize S.now = y at *
  go_enter Try.func13, Try.ntmps13
  go_wp2
  go_ret2
  exact ⟨rfl, Kp.refl w⟩
theorem rtload_49148_4 {w : World} {g : Nat} {S : TS} (m : RT w g S) (ok : S.Ok) : Calls Try.prog 13 #[.pointer (some ⟨g, 0, none⟩), .int .i64 49148, .int .i64 4] w fun e w' => e = .returned (.tuple #[.int .u64 (S.now / 4294967296), .bool true]) ∧ Kp w w' := by
  have c0 := m.c0
  have b0 := ok.n0
  have b1 := ok.n1
  clear m ok
  generalize S.now = y at *
  go_enter Try.func13, Try.ntmps13
  go_wp2
  go_ret2
  exact ⟨rfl, Kp.refl w⟩
set_option maxHeartbeats 4000000 in
theorem rtload_no (w : World) (g : Nat) (off size : Int) (h : rgT off size = false) : Calls Try.prog 13 #[.pointer (some ⟨g, 0, none⟩), .int .i64 off, .int .i64 size] w fun e w' => e = .returned (.tuple #[.int .u64 0, .bool false]) ∧ Kp w w' := by
  rcases rgT_no h with ⟨a0, a1, a2, a3, a4⟩ | ⟨rfl, a0⟩ | ⟨rfl, a0, a1⟩ | ⟨rfl, a0⟩ | ⟨rfl, a0, a1⟩ | ⟨rfl, a0⟩
  all_goals
    clear h
    go_enter Try.func13, Try.ntmps13
    go_wp2
    go_ret2
    exact ⟨rfl, Kp.refl w⟩
theorem rtload_w {w : World} {g : Nat} {S : TS} (m : RT w g S) (ok : S.Ok) (off size : Int) : Calls Try.prog 13 #[.pointer (some ⟨g, 0, none⟩), .int .i64 off, .int .i64 size] w fun e w' => e = .returned (.tuple #[.int .u64 (S.ldV off size), .bool (rgT off size)]) ∧ Kp w w' := by
  rcases rgT_ways off size with ⟨rfl, rfl⟩ | ⟨rfl, rfl⟩ | ⟨rfl, rfl⟩ | ⟨rfl, rfl⟩ | ⟨rfl, rfl⟩ | ⟨rfl, rfl⟩ | ⟨rfl, rfl⟩ | h
  · exact rtload_0_4 m
  · exact rtload_16384_8 m ok
  · exact rtload_16384_4 m ok
  · exact rtload_16388_4 m ok
  · exact rtload_49144_8 m ok
  · exact rtload_49144_4 m ok
  · exact rtload_49148_4 m ok
  · rw [TS.ldV, h]; exact rtload_no w g off size h
set_option maxHeartbeats 4000000 in
theorem rtlaid_w (old v : Int) (up : Bool) (size : Int) (o0 : 0 ≤ old) (o1 : old < 18446744073709551616) (v0 : 0 ≤ v) (v1 : v < 18446744073709551616) (w : World) : Calls Try.prog 28 #[.int .u64 old, .int .u64 v, .bool up, .int .i64 size] w fun e w' => e = .returned (.int .u64 (laidT old v up size)) ∧ Kp w w' := by
  by_cases h : size = 8
  · subst h
    rw [show laidT old v up 8 = v from rfl]
    go_enter Try.func28, Try.ntmps28
    go_wp2
    go_ret
    exact ⟨rfl, Kp.refl w⟩
  · have t : (size == 8) = false := by simpa using h
    have hl : laidT old v up size = laidT old v up 4 := by simp [laidT, h]
    rw [hl]
    clear hl h
    cases up
    · have hw := low_word' o0 o1 v0 v1
      generalize laidT old v false 4 = y at *
      go_enter Try.func28, Try.ntmps28
      go_wp2
      go_ret
      exact ⟨rfl, Kp.refl w⟩
    · have hw := up_word o0 o1 v0 v1
      generalize laidT old v true 4 = y at *
      go_enter Try.func28, Try.ntmps28
      go_wp2
      go_ret
      exact ⟨rfl, Kp.refl w⟩
set_option maxHeartbeats 4000000 in
theorem rtstore_0_4 {w : World} {g : Nat} {S : TS} (m : RT w g S) (ok : S.Ok) (v : Int) (v0 : 0 ≤ v) (v1 : v < 18446744073709551616) : Calls Try.prog 15 #[.pointer (some ⟨g, 0, none⟩), .int .i64 0, .int .i64 4, .int .u64 v] w fun e w' => e = .returned (.bool true) ∧ RT w' g { S with be := v % 2 == 1 } ∧ Fr w w' (fun i => i = g) := by
  have HLD := Lib.hid (rtload_0_4 m)
  have HM := Lib.hid m
  have c2 := m.c2
  have z2 := m.fz 2
  clear m
  go_enter Try.func15, Try.ntmps15
  go_wp2_with (first | (go_at_call 13; (with_reducible refine HLD.out.mono ?_); rintro e' w1 ⟨rfl, k1⟩; have HK1 := Lib.hid k1; have HM1 := Lib.hid (HM.out.kp k1); have d2 := HM1.out.c2; have y2 := HM1.out.fz 2; clear k1))
  go_ret
  exact ⟨rfl, HM1.out.set2 _, (Fr.of_kp HK1.out (fun i => i = g)).setCell (p := ⟨g, 2, none⟩) (.inr rfl) _⟩
set_option maxHeartbeats 4000000 in
theorem rtstore_16384_8 {w : World} {g : Nat} {S : TS} (m : RT w g S) (ok : S.Ok) (v : Int) (v0 : 0 ≤ v) (v1 : v < 18446744073709551616) : Calls Try.prog 15 #[.pointer (some ⟨g, 0, none⟩), .int .i64 16384, .int .i64 8, .int .u64 v] w fun e w' => e = .returned (.bool true) ∧ RT w' g { S with al := laidT S.al v false 8 } ∧ Fr w w' (fun i => i = g) := by
  have HLD := Lib.hid (rtload_16384_8 m ok)
  have HM := Lib.hid m
  have c1 := m.c1
  have z1 := m.fz 1
  have HL := Lib.hid (fun w => rtlaid_w S.al v false 8 ok.a0 ok.a1 v0 v1 w)
  have HS := Lib.hid (fun w' (k : Kp w w') => (m.kp k).set1 (laidT S.al v false 8))
  have HC := Lib.hid (fun w' (k : Kp w w') => (m.kp k).c1)
  have HZ := Lib.hid (fun w' (k : Kp w w') => (m.kp k).fz 1)
  clear m
  go_enter Try.func15, Try.ntmps15
  go_wp2_with (first | (go_at_call 13; (with_reducible refine HLD.out.mono ?_); rintro e' w1 ⟨rfl, k1⟩; have HK1 := Lib.hid k1; have HM1 := Lib.hid (HM.out.kp k1); have d1 := HM1.out.c1; have y1 := HM1.out.fz 1; clear k1) | (go_at_call 28; (with_reducible refine (HL.out _).mono ?_); rintro e' w2 ⟨rfl, k2⟩; have HK2 := Lib.hid (HK1.out.trans k2); have d1 := HC.out _ HK2.out; have y1 := HZ.out _ HK2.out; clear k2))
  go_ret
  exact ⟨rfl, HS.out _ HK2.out, (Fr.of_kp HK2.out (fun i => i = g)).setCell (p := ⟨g, 1, none⟩) (.inr rfl) _⟩
set_option maxHeartbeats 4000000 in
theorem rtstore_16384_4 {w : World} {g : Nat} {S : TS} (m : RT w g S) (ok : S.Ok) (v : Int) (v0 : 0 ≤ v) (v1 : v < 18446744073709551616) : Calls Try.prog 15 #[.pointer (some ⟨g, 0, none⟩), .int .i64 16384, .int .i64 4, .int .u64 v] w fun e w' => e = .returned (.bool true) ∧ RT w' g { S with al := laidT S.al v false 4 } ∧ Fr w w' (fun i => i = g) := by
  have HLD := Lib.hid (rtload_16384_4 m ok)
  have HM := Lib.hid m
  have c1 := m.c1
  have z1 := m.fz 1
  have HL := Lib.hid (fun w => rtlaid_w S.al v false 4 ok.a0 ok.a1 v0 v1 w)
  have HS := Lib.hid (fun w' (k : Kp w w') => (m.kp k).set1 (laidT S.al v false 4))
  have HC := Lib.hid (fun w' (k : Kp w w') => (m.kp k).c1)
  have HZ := Lib.hid (fun w' (k : Kp w w') => (m.kp k).fz 1)
  clear m
  go_enter Try.func15, Try.ntmps15
  go_wp2_with (first | (go_at_call 13; (with_reducible refine HLD.out.mono ?_); rintro e' w1 ⟨rfl, k1⟩; have HK1 := Lib.hid k1; have HM1 := Lib.hid (HM.out.kp k1); have d1 := HM1.out.c1; have y1 := HM1.out.fz 1; clear k1) | (go_at_call 28; (with_reducible refine (HL.out _).mono ?_); rintro e' w2 ⟨rfl, k2⟩; have HK2 := Lib.hid (HK1.out.trans k2); have d1 := HC.out _ HK2.out; have y1 := HZ.out _ HK2.out; clear k2))
  go_ret
  exact ⟨rfl, HS.out _ HK2.out, (Fr.of_kp HK2.out (fun i => i = g)).setCell (p := ⟨g, 1, none⟩) (.inr rfl) _⟩
set_option maxHeartbeats 4000000 in
theorem rtstore_16388_4 {w : World} {g : Nat} {S : TS} (m : RT w g S) (ok : S.Ok) (v : Int) (v0 : 0 ≤ v) (v1 : v < 18446744073709551616) : Calls Try.prog 15 #[.pointer (some ⟨g, 0, none⟩), .int .i64 16388, .int .i64 4, .int .u64 v] w fun e w' => e = .returned (.bool true) ∧ RT w' g { S with al := laidT S.al v true 4 } ∧ Fr w w' (fun i => i = g) := by
  have HLD := Lib.hid (rtload_16388_4 m ok)
  have HM := Lib.hid m
  have c1 := m.c1
  have z1 := m.fz 1
  have HL := Lib.hid (fun w => rtlaid_w S.al v true 4 ok.a0 ok.a1 v0 v1 w)
  have HS := Lib.hid (fun w' (k : Kp w w') => (m.kp k).set1 (laidT S.al v true 4))
  have HC := Lib.hid (fun w' (k : Kp w w') => (m.kp k).c1)
  have HZ := Lib.hid (fun w' (k : Kp w w') => (m.kp k).fz 1)
  clear m
  go_enter Try.func15, Try.ntmps15
  go_wp2_with (first | (go_at_call 13; (with_reducible refine HLD.out.mono ?_); rintro e' w1 ⟨rfl, k1⟩; have HK1 := Lib.hid k1; have HM1 := Lib.hid (HM.out.kp k1); have d1 := HM1.out.c1; have y1 := HM1.out.fz 1; clear k1) | (go_at_call 28; (with_reducible refine (HL.out _).mono ?_); rintro e' w2 ⟨rfl, k2⟩; have HK2 := Lib.hid (HK1.out.trans k2); have d1 := HC.out _ HK2.out; have y1 := HZ.out _ HK2.out; clear k2))
  go_ret
  exact ⟨rfl, HS.out _ HK2.out, (Fr.of_kp HK2.out (fun i => i = g)).setCell (p := ⟨g, 1, none⟩) (.inr rfl) _⟩
set_option maxHeartbeats 4000000 in
theorem rtstore_49144_8 {w : World} {g : Nat} {S : TS} (m : RT w g S) (ok : S.Ok) (v : Int) (v0 : 0 ≤ v) (v1 : v < 18446744073709551616) : Calls Try.prog 15 #[.pointer (some ⟨g, 0, none⟩), .int .i64 49144, .int .i64 8, .int .u64 v] w fun e w' => e = .returned (.bool true) ∧ RT w' g { S with now := laidT S.now v false 8 } ∧ Fr w w' (fun i => i = g) := by
  have HLD := Lib.hid (rtload_49144_8 m ok)
  have HM := Lib.hid m
  have c0 := m.c0
  have z0 := m.fz 0
  have HL := Lib.hid (fun w => rtlaid_w S.now v false 8 ok.n0 ok.n1 v0 v1 w)
  have HS := Lib.hid (fun w' (k : Kp w w') => (m.kp k).set0 (laidT S.now v false 8))
  have HC := Lib.hid (fun w' (k : Kp w w') => (m.kp k).c0)
  have HZ := Lib.hid (fun w' (k : Kp w w') => (m.kp k).fz 0)
  clear m
  go_enter Try.func15, Try.ntmps15
  go_wp2_with (first | (go_at_call 13; (with_reducible refine HLD.out.mono ?_); rintro e' w1 ⟨rfl, k1⟩; have HK1 := Lib.hid k1; have HM1 := Lib.hid (HM.out.kp k1); have d0 := HM1.out.c0; have y0 := HM1.out.fz 0; clear k1) | (go_at_call 28; (with_reducible refine (HL.out _).mono ?_); rintro e' w2 ⟨rfl, k2⟩; have HK2 := Lib.hid (HK1.out.trans k2); have d0 := HC.out _ HK2.out; have y0 := HZ.out _ HK2.out; clear k2))
  go_ret
  exact ⟨rfl, HS.out _ HK2.out, (Fr.of_kp HK2.out (fun i => i = g)).setCell (p := ⟨g, 0, none⟩) (.inr rfl) _⟩
set_option maxHeartbeats 4000000 in
theorem rtstore_49144_4 {w : World} {g : Nat} {S : TS} (m : RT w g S) (ok : S.Ok) (v : Int) (v0 : 0 ≤ v) (v1 : v < 18446744073709551616) : Calls Try.prog 15 #[.pointer (some ⟨g, 0, none⟩), .int .i64 49144, .int .i64 4, .int .u64 v] w fun e w' => e = .returned (.bool true) ∧ RT w' g { S with now := laidT S.now v false 4 } ∧ Fr w w' (fun i => i = g) := by
  have HLD := Lib.hid (rtload_49144_4 m ok)
  have HM := Lib.hid m
  have c0 := m.c0
  have z0 := m.fz 0
  have HL := Lib.hid (fun w => rtlaid_w S.now v false 4 ok.n0 ok.n1 v0 v1 w)
  have HS := Lib.hid (fun w' (k : Kp w w') => (m.kp k).set0 (laidT S.now v false 4))
  have HC := Lib.hid (fun w' (k : Kp w w') => (m.kp k).c0)
  have HZ := Lib.hid (fun w' (k : Kp w w') => (m.kp k).fz 0)
  clear m
  go_enter Try.func15, Try.ntmps15
  go_wp2_with (first | (go_at_call 13; (with_reducible refine HLD.out.mono ?_); rintro e' w1 ⟨rfl, k1⟩; have HK1 := Lib.hid k1; have HM1 := Lib.hid (HM.out.kp k1); have d0 := HM1.out.c0; have y0 := HM1.out.fz 0; clear k1) | (go_at_call 28; (with_reducible refine (HL.out _).mono ?_); rintro e' w2 ⟨rfl, k2⟩; have HK2 := Lib.hid (HK1.out.trans k2); have d0 := HC.out _ HK2.out; have y0 := HZ.out _ HK2.out; clear k2))
  go_ret
  exact ⟨rfl, HS.out _ HK2.out, (Fr.of_kp HK2.out (fun i => i = g)).setCell (p := ⟨g, 0, none⟩) (.inr rfl) _⟩
set_option maxHeartbeats 4000000 in
theorem rtstore_49148_4 {w : World} {g : Nat} {S : TS} (m : RT w g S) (ok : S.Ok) (v : Int) (v0 : 0 ≤ v) (v1 : v < 18446744073709551616) : Calls Try.prog 15 #[.pointer (some ⟨g, 0, none⟩), .int .i64 49148, .int .i64 4, .int .u64 v] w fun e w' => e = .returned (.bool true) ∧ RT w' g { S with now := laidT S.now v true 4 } ∧ Fr w w' (fun i => i = g) := by
  have HLD := Lib.hid (rtload_49148_4 m ok)
  have HM := Lib.hid m
  have c0 := m.c0
  have z0 := m.fz 0
  have HL := Lib.hid (fun w => rtlaid_w S.now v true 4 ok.n0 ok.n1 v0 v1 w)
  have HS := Lib.hid (fun w' (k : Kp w w') => (m.kp k).set0 (laidT S.now v true 4))
  have HC := Lib.hid (fun w' (k : Kp w w') => (m.kp k).c0)
  have HZ := Lib.hid (fun w' (k : Kp w w') => (m.kp k).fz 0)
  clear m
  go_enter Try.func15, Try.ntmps15
  go_wp2_with (first | (go_at_call 13; (with_reducible refine HLD.out.mono ?_); rintro e' w1 ⟨rfl, k1⟩; have HK1 := Lib.hid k1; have HM1 := Lib.hid (HM.out.kp k1); have d0 := HM1.out.c0; have y0 := HM1.out.fz 0; clear k1) | (go_at_call 28; (with_reducible refine (HL.out _).mono ?_); rintro e' w2 ⟨rfl, k2⟩; have HK2 := Lib.hid (HK1.out.trans k2); have d0 := HC.out _ HK2.out; have y0 := HZ.out _ HK2.out; clear k2))
  go_ret
  exact ⟨rfl, HS.out _ HK2.out, (Fr.of_kp HK2.out (fun i => i = g)).setCell (p := ⟨g, 0, none⟩) (.inr rfl) _⟩
set_option maxHeartbeats 4000000 in
theorem rtstore_no (w : World) (g : Nat) (off size v : Int) (h : rgT off size = false) : Calls Try.prog 15 #[.pointer (some ⟨g, 0, none⟩), .int .i64 off, .int .i64 size, .int .u64 v] w fun e w' => e = .returned (.bool false) ∧ Kp w w' := by
  have HLD := Lib.hid (rtload_no w g off size h)
  clear h
  go_enter Try.func15, Try.ntmps15
  go_wp2_with (go_at_call 13; (with_reducible refine HLD.out.mono ?_); rintro e' w1 ⟨rfl, k1⟩; have HK1 := Lib.hid k1; clear k1)
  go_ret
  exact ⟨rfl, HK1.out⟩
theorem rtstore_w {w : World} {g : Nat} {S : TS} (m : RT w g S) (ok : S.Ok) (off size v : Int) (v0 : 0 ≤ v) (v1 : v < 18446744073709551616) : Calls Try.prog 15 #[.pointer (some ⟨g, 0, none⟩), .int .i64 off, .int .i64 size, .int .u64 v] w fun e w' => e = .returned (.bool (rgT off size)) ∧ RT w' g (S.stS off size v) ∧ Fr w w' (fun i => i = g) := by
  rcases rgT_ways off size with ⟨rfl, rfl⟩ | ⟨rfl, rfl⟩ | ⟨rfl, rfl⟩ | ⟨rfl, rfl⟩ | ⟨rfl, rfl⟩ | ⟨rfl, rfl⟩ | ⟨rfl, rfl⟩ | h
  · exact rtstore_0_4 m ok v v0 v1
  · exact rtstore_16384_8 m ok v v0 v1
  · exact rtstore_16384_4 m ok v v0 v1
  · exact rtstore_16388_4 m ok v v0 v1
  · exact rtstore_49144_8 m ok v v0 v1
  · exact rtstore_49144_4 m ok v v0 v1
  · exact rtstore_49148_4 m ok v v0 v1
  · rw [TS.stS, h]; exact (rtstore_no w g off size v h).mono fun e w' x => ⟨x.1, m.kp x.2, Fr.of_kp x.2 _⟩
end Go.Proofs.Ytlpijioiopbmpaa
