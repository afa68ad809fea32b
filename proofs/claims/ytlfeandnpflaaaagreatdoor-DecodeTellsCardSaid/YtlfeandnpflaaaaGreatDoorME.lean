/-
  Contracts of rvc's rows (those that part in no more than two ways): each tells its word, or none. No condition but what the tables hold.
  Contracts of rvc's rows (pairs of registers, moves): each tells its word, or none. No condition but what the tables hold.
-/
import Derived.Test.YtlfeandnpflaaaaGreatDoorVCode
namespace Go.Proofs.YtlfeandnpflaaaaGreatDoor
open Go.ChangeShapes Go.WideShapes Go.ChangeAt Go.RowKit
set_option linter.unusedVariables false
set_option linter.unusedSimpArgs false
theorem rD_lt (x : Nat) : rD x < 32 := by unfold rD; omega
theorem rS_lt (x : Nat) : rS x < 32 := by unfold rS; omega
theorem nD_lt (x : Nat) : nD x < 32 := by unfold nD; omega
theorem nS_lt (x : Nat) : nS x < 32 := by unfold nS; omega
theorem beqc (n : Nat) : ((n : Int) == 0) = (n == 0) := by
  rcases Nat.eq_zero_or_pos n with h | h
  · subst h; rfl
  · rw [beq_eq_false_iff_ne.mpr (by omega), beq_eq_false_iff_ne.mpr (by omega)]
theorem unl_t (v : Nat) (w : World) : Calls Tryz.prog 100 #[.bool true, .int .u32 (v : Int)] w fun e w' => e = .returned (.tuple #[.int .u32 0, .bool false]) ∧ w = w' := unl_w true v w
theorem unl_f (v : Nat) (w : World) : Calls Tryz.prog 100 #[.bool false, .int .u32 (v : Int)] w fun e w' => e = .returned (.tuple #[.int .u32 (v : Int), .bool true]) ∧ w = w' := unl_w false v w
theorem bft (b : Bool) : b = true ∨ b = false := by cases b <;> simp
theorem vr_or (n : Nat) (h : n < 2 ^ 32) : bits .or .u32 1073741824 (n : Int) = ((vr ||| n : Nat) : Int) := or32 1073741824 n (by decide) h
theorem wI_32 (op f3 rd r1 n : Nat) (ho : op < 128) (hf : f3 < 8) (hd : rd < 32) (h1 : r1 < 32) : wI op f3 rd r1 n < 2 ^ 32 := Nat.or_lt_two_pow (R5_32 _ _ _ _ _ ho hf hd h1 (by decide)) (ly_32 _ _)
theorem Tb.drewN {w : World} (h : Tb w) (n : Nat) : Tb (w.drewN n) := h.kp ((Kp.refl w).drewN n)
theorem qa_add {P : Program} {f : FuncId} {args : Array Value} {v : Value} {w : World} {a n : Nat} (c : Calls P f args (w.drewN (a + n)) fun e w' => e = .returned v ∧ w.drewN (a + n) = w') :
    Calls P f args (w.drewN (a + n)) fun e w'' => e = .returned v ∧ ∃ m, w'' = w.drewN (a + m) := c.mono fun _ _ h => ⟨h.1, n, h.2.symm⟩
theorem qa_one {P : Program} {f : FuncId} {args : Array Value} {v : Value} {w : World} {n : Nat} (c : Calls P f args (w.drewN n) fun e w' => e = .returned v ∧ w.drewN n = w') :
    Calls P f args (w.drewN n) fun e w'' => e = .returned v ∧ ∃ m, w'' = w.drewN m := c.mono fun _ _ h => ⟨h.1, n, h.2.symm⟩
set_option maxHeartbeats 1000000 in
theorem r_place (x : Nat) (hx : x < 65536) (w : World) (tb : Tb w) :
    Calls Tryz.prog 57 #[.int .u16 (x : Int)] w fun e w' => e = .returned (VR (rPlace x)) ∧ w = w' := by
  have TB := Lib.hid tb
  clear tb
  have rd0 := rD_lt x
  have rs0 := rS_lt x
  have nd0 := nD_lt x
  have ns0 := nS_lt x
  have hs : ((((nm 3 x) : Nat) : Int) == 0) = ((nm 3 x) == 0) := beqc _
  have e : rPlace x = unl ((nm 3 x) == 0) (wI 19 0 (nS x) 2 (nm 3 x)) := rfl
  rw [e]
  clear e
  generalize hq : ((nm 3 x) == 0) = q at *
  clear hq
  rcases bft q with rfl | rfl
  · go_enter Tryz.func57, Tryz.ntmps57
    go_wp2_with (first | (go_at_call 99; have c := num_w 3 (by decide) x hx w TB.out; (try simp only [Int.cast_ofNat_Int, Int.natCast_zero, Int.natCast_one] at c); with_reducible refine c.mono ?_; rintro e' w1 ⟨rfl, rfl⟩) | (go_at_call 102; have c := vns_w x hx w; (try simp only [Int.cast_ofNat_Int, Int.natCast_zero, Int.natCast_one] at c); with_reducible refine c.mono ?_; rintro e' w1 ⟨rfl, rfl⟩) | (go_at_call 101; have c := wI_w 19 0 (nS x) 2 (nm 3 x) (by decide) (by decide) ns0 (by decide) (nm_32 3 x (by decide)) w TB.out; (try simp only [Int.cast_ofNat_Int, Int.natCast_zero, Int.natCast_one] at c); with_reducible refine c.mono ?_; rintro e' w1 ⟨rfl, rfl⟩) | (go_at_call 100; have c := unl_t (wI 19 0 (nS x) 2 (nm 3 x)) w; (try simp only [Int.cast_ofNat_Int, Int.natCast_zero, Int.natCast_one] at c); with_reducible refine c.mono ?_; rintro e' w1 ⟨rfl, rfl⟩))
    go_ret2
    exact ⟨rfl, rfl⟩
  · go_enter Tryz.func57, Tryz.ntmps57
    go_wp2_with (first | (go_at_call 99; have c := num_w 3 (by decide) x hx w TB.out; (try simp only [Int.cast_ofNat_Int, Int.natCast_zero, Int.natCast_one] at c); with_reducible refine c.mono ?_; rintro e' w1 ⟨rfl, rfl⟩) | (go_at_call 102; have c := vns_w x hx w; (try simp only [Int.cast_ofNat_Int, Int.natCast_zero, Int.natCast_one] at c); with_reducible refine c.mono ?_; rintro e' w1 ⟨rfl, rfl⟩) | (go_at_call 101; have c := wI_w 19 0 (nS x) 2 (nm 3 x) (by decide) (by decide) ns0 (by decide) (nm_32 3 x (by decide)) w TB.out; (try simp only [Int.cast_ofNat_Int, Int.natCast_zero, Int.natCast_one] at c); with_reducible refine c.mono ?_; rintro e' w1 ⟨rfl, rfl⟩) | (go_at_call 100; have c := unl_f (wI 19 0 (nS x) 2 (nm 3 x)) w; (try simp only [Int.cast_ofNat_Int, Int.natCast_zero, Int.natCast_one] at c); with_reducible refine c.mono ?_; rintro e' w1 ⟨rfl, rfl⟩))
    go_ret2
    exact ⟨rfl, rfl⟩
set_option maxHeartbeats 1000000 in
theorem r_add (x : Nat) (hx : x < 65536) (w : World) (tb : Tb w) :
    Calls Tryz.prog 60 #[.int .u16 (x : Int)] w fun e w' => e = .returned (VR (rAdd x)) ∧ w = w' := by
  have TB := Lib.hid tb
  clear tb
  have rd0 := rD_lt x
  have rs0 := rS_lt x
  have nd0 := nD_lt x
  have ns0 := nS_lt x
  go_enter Tryz.func60, Tryz.ntmps60
  go_wp2_with (first | (go_at_call 107; have c := vrd_w x hx w; (try simp only [Int.cast_ofNat_Int, Int.natCast_zero, Int.natCast_one] at c); with_reducible refine c.mono ?_; rintro e' w1 ⟨rfl, rfl⟩) | (go_at_call 108; have c := sgn_0 x hx w TB.out; (try simp only [Int.cast_ofNat_Int, Int.natCast_zero, Int.natCast_one] at c); with_reducible refine c.mono ?_; rintro e' w1 ⟨rfl, rfl⟩) | (go_at_call 101; have c := wI_w 19 0 (rD x) (rD x) (sg 5 (nm 0 x)) (by decide) (by decide) rd0 rd0 (sg_lt 5 (nm 0 x) (by decide) (nm_32 0 x (by decide)) (nm_lt 0 5 x (by decide) (by decide))) w TB.out; (try simp only [Int.cast_ofNat_Int, Int.natCast_zero, Int.natCast_one] at c); with_reducible refine c.mono ?_; rintro e' w1 ⟨rfl, rfl⟩))
  go_ret2
  exact ⟨rfl, rfl⟩
set_option maxHeartbeats 1000000 in
theorem r_addWord (x : Nat) (hx : x < 65536) (w : World) (tb : Tb w) :
    Calls Tryz.prog 61 #[.int .u16 (x : Int)] w fun e w' => e = .returned (VR (rAddWord x)) ∧ w = w' := by
  have TB := Lib.hid tb
  clear tb
  have rd0 := rD_lt x
  have rs0 := rS_lt x
  have nd0 := nD_lt x
  have ns0 := nS_lt x
  have hs : ((((rD x) : Nat) : Int) == 0) = ((rD x) == 0) := beqc _
  have e : rAddWord x = unl ((rD x) == 0) (wI 27 0 (rD x) (rD x) (sg 5 (nm 0 x))) := rfl
  rw [e]
  clear e
  generalize hq : ((rD x) == 0) = q at *
  clear hq
  rcases bft q with rfl | rfl
  · go_enter Tryz.func61, Tryz.ntmps61
    go_wp2_with (first | (go_at_call 107; have c := vrd_w x hx w; (try simp only [Int.cast_ofNat_Int, Int.natCast_zero, Int.natCast_one] at c); with_reducible refine c.mono ?_; rintro e' w1 ⟨rfl, rfl⟩) | (go_at_call 108; have c := sgn_0 x hx w TB.out; (try simp only [Int.cast_ofNat_Int, Int.natCast_zero, Int.natCast_one] at c); with_reducible refine c.mono ?_; rintro e' w1 ⟨rfl, rfl⟩) | (go_at_call 101; have c := wI_w 27 0 (rD x) (rD x) (sg 5 (nm 0 x)) (by decide) (by decide) rd0 rd0 (sg_lt 5 (nm 0 x) (by decide) (nm_32 0 x (by decide)) (nm_lt 0 5 x (by decide) (by decide))) w TB.out; (try simp only [Int.cast_ofNat_Int, Int.natCast_zero, Int.natCast_one] at c); with_reducible refine c.mono ?_; rintro e' w1 ⟨rfl, rfl⟩) | (go_at_call 100; have c := unl_t (wI 27 0 (rD x) (rD x) (sg 5 (nm 0 x))) w; (try simp only [Int.cast_ofNat_Int, Int.natCast_zero, Int.natCast_one] at c); with_reducible refine c.mono ?_; rintro e' w1 ⟨rfl, rfl⟩))
    go_ret2
    exact ⟨rfl, rfl⟩
  · go_enter Tryz.func61, Tryz.ntmps61
    go_wp2_with (first | (go_at_call 107; have c := vrd_w x hx w; (try simp only [Int.cast_ofNat_Int, Int.natCast_zero, Int.natCast_one] at c); with_reducible refine c.mono ?_; rintro e' w1 ⟨rfl, rfl⟩) | (go_at_call 108; have c := sgn_0 x hx w TB.out; (try simp only [Int.cast_ofNat_Int, Int.natCast_zero, Int.natCast_one] at c); with_reducible refine c.mono ?_; rintro e' w1 ⟨rfl, rfl⟩) | (go_at_call 101; have c := wI_w 27 0 (rD x) (rD x) (sg 5 (nm 0 x)) (by decide) (by decide) rd0 rd0 (sg_lt 5 (nm 0 x) (by decide) (nm_32 0 x (by decide)) (nm_lt 0 5 x (by decide) (by decide))) w TB.out; (try simp only [Int.cast_ofNat_Int, Int.natCast_zero, Int.natCast_one] at c); with_reducible refine c.mono ?_; rintro e' w1 ⟨rfl, rfl⟩) | (go_at_call 100; have c := unl_f (wI 27 0 (rD x) (rD x) (sg 5 (nm 0 x))) w; (try simp only [Int.cast_ofNat_Int, Int.natCast_zero, Int.natCast_one] at c); with_reducible refine c.mono ?_; rintro e' w1 ⟨rfl, rfl⟩))
    go_ret2
    exact ⟨rfl, rfl⟩
set_option maxHeartbeats 1000000 in
theorem r_set (x : Nat) (hx : x < 65536) (w : World) (tb : Tb w) :
    Calls Tryz.prog 62 #[.int .u16 (x : Int)] w fun e w' => e = .returned (VR (rSet x)) ∧ w = w' := by
  have TB := Lib.hid tb
  clear tb
  have rd0 := rD_lt x
  have rs0 := rS_lt x
  have nd0 := nD_lt x
  have ns0 := nS_lt x
  go_enter Tryz.func62, Tryz.ntmps62
  go_wp2_with (first | (go_at_call 107; have c := vrd_w x hx w; (try simp only [Int.cast_ofNat_Int, Int.natCast_zero, Int.natCast_one] at c); with_reducible refine c.mono ?_; rintro e' w1 ⟨rfl, rfl⟩) | (go_at_call 108; have c := sgn_0 x hx w TB.out; (try simp only [Int.cast_ofNat_Int, Int.natCast_zero, Int.natCast_one] at c); with_reducible refine c.mono ?_; rintro e' w1 ⟨rfl, rfl⟩) | (go_at_call 101; have c := wI_w 19 0 (rD x) 0 (sg 5 (nm 0 x)) (by decide) (by decide) rd0 (by decide) (sg_lt 5 (nm 0 x) (by decide) (nm_32 0 x (by decide)) (nm_lt 0 5 x (by decide) (by decide))) w TB.out; (try simp only [Int.cast_ofNat_Int, Int.natCast_zero, Int.natCast_one] at c); with_reducible refine c.mono ?_; rintro e' w1 ⟨rfl, rfl⟩))
  go_ret2
  exact ⟨rfl, rfl⟩
set_option maxHeartbeats 1000000 in
theorem r_jump (x : Nat) (hx : x < 65536) (w : World) (tb : Tb w) :
    Calls Tryz.prog 65 #[.int .u16 (x : Int)] w fun e w' => e = .returned (VR (rJump x)) ∧ w = w' := by
  have TB := Lib.hid tb
  clear tb
  have rd0 := rD_lt x
  have rs0 := rS_lt x
  have nd0 := nD_lt x
  have ns0 := nS_lt x
  go_enter Tryz.func65, Tryz.ntmps65
  go_wp2_with (first | (go_at_call 108; have c := sgn_10 x hx w TB.out; (try simp only [Int.cast_ofNat_Int, Int.natCast_zero, Int.natCast_one] at c); with_reducible refine c.mono ?_; rintro e' w1 ⟨rfl, rfl⟩) | (go_at_call 109; have c := wUJ_w 111 4 0 (sg 11 (nm 10 x)) (by decide) (by decide) (by decide) (sg_lt 11 (nm 10 x) (by decide) (nm_32 10 x (by decide)) (nm_lt 10 11 x (by decide) (by decide))) w TB.out; (try simp only [Int.cast_ofNat_Int, Int.natCast_zero, Int.natCast_one] at c); with_reducible refine c.mono ?_; rintro e' w1 ⟨rfl, rfl⟩))
  go_ret2
  exact ⟨rfl, rfl⟩
set_option maxHeartbeats 1000000 in
theorem r_shift (x : Nat) (hx : x < 65536) (w : World) (tb : Tb w) :
    Calls Tryz.prog 67 #[.int .u16 (x : Int)] w fun e w' => e = .returned (VR (rShift x)) ∧ w = w' := by
  have TB := Lib.hid tb
  clear tb
  have rd0 := rD_lt x
  have rs0 := rS_lt x
  have nd0 := nD_lt x
  have ns0 := nS_lt x
  go_enter Tryz.func67, Tryz.ntmps67
  go_wp2_with (first | (go_at_call 107; have c := vrd_w x hx w; (try simp only [Int.cast_ofNat_Int, Int.natCast_zero, Int.natCast_one] at c); with_reducible refine c.mono ?_; rintro e' w1 ⟨rfl, rfl⟩) | (go_at_call 99; have c := num_w 0 (by decide) x hx w TB.out; (try simp only [Int.cast_ofNat_Int, Int.natCast_zero, Int.natCast_one] at c); with_reducible refine c.mono ?_; rintro e' w1 ⟨rfl, rfl⟩) | (go_at_call 101; have c := wI_w 19 1 (rD x) (rD x) (nm 0 x) (by decide) (by decide) rd0 rd0 (nm_32 0 x (by decide)) w TB.out; (try simp only [Int.cast_ofNat_Int, Int.natCast_zero, Int.natCast_one] at c); with_reducible refine c.mono ?_; rintro e' w1 ⟨rfl, rfl⟩))
  go_ret2
  exact ⟨rfl, rfl⟩
set_option maxHeartbeats 1000000 in
theorem r_upper (x : Nat) (hx : x < 65536) (w : World) (tb : Tb w) :
    Calls Tryz.prog 63 #[.int .u16 (x : Int)] w fun e w' => e = .returned (VR (rUpper x)) ∧ w = w' := by
  have TB := Lib.hid tb
  clear tb
  have rd0 := rD_lt x
  have rs0 := rS_lt x
  have nd0 := nD_lt x
  have ns0 := nS_lt x
  by_cases h : rD x = 2
  · have e : rUpper x = unl ((sg 9 (nm 2 x)) == 0) (wI 19 0 2 2 (sg 9 (nm 2 x))) := by simp [rUpper, h]
    have t0 : (((rD x : Nat) : Int) == 2) = true := by simp [h]
    rw [e]
    clear e h
    have hs : ((((sg 9 (nm 2 x)) : Nat) : Int) == 0) = ((sg 9 (nm 2 x)) == 0) := beqc _
    have e : unl ((sg 9 (nm 2 x)) == 0) (wI 19 0 2 2 (sg 9 (nm 2 x))) = unl ((sg 9 (nm 2 x)) == 0) (wI 19 0 2 2 (sg 9 (nm 2 x))) := rfl
    rw [e]
    clear e
    generalize hq : ((sg 9 (nm 2 x)) == 0) = q at *
    clear hq
    rcases bft q with rfl | rfl
    · go_enter Tryz.func63, Tryz.ntmps63
      go_wp2_with (first | (go_at_call 107; have c := vrd_w x hx w; (try simp only [Int.cast_ofNat_Int, Int.natCast_zero, Int.natCast_one] at c); with_reducible refine c.mono ?_; rintro e' w1 ⟨rfl, rfl⟩) | (go_at_call 108; have c := sgn_2 x hx w TB.out; (try simp only [Int.cast_ofNat_Int, Int.natCast_zero, Int.natCast_one] at c); with_reducible refine c.mono ?_; rintro e' w1 ⟨rfl, rfl⟩) | (go_at_call 101; have c := wI_w 19 0 2 2 (sg 9 (nm 2 x)) (by decide) (by decide) (by decide) (by decide) (sg_lt 9 (nm 2 x) (by decide) (nm_32 2 x (by decide)) (nm_lt 2 9 x (by decide) (by decide))) w TB.out; (try simp only [Int.cast_ofNat_Int, Int.natCast_zero, Int.natCast_one] at c); with_reducible refine c.mono ?_; rintro e' w1 ⟨rfl, rfl⟩) | (go_at_call 100; have c := unl_t (wI 19 0 2 2 (sg 9 (nm 2 x))) w; (try simp only [Int.cast_ofNat_Int, Int.natCast_zero, Int.natCast_one] at c); with_reducible refine c.mono ?_; rintro e' w1 ⟨rfl, rfl⟩))
      go_ret2
      exact ⟨rfl, rfl⟩
    · go_enter Tryz.func63, Tryz.ntmps63
      go_wp2_with (first | (go_at_call 107; have c := vrd_w x hx w; (try simp only [Int.cast_ofNat_Int, Int.natCast_zero, Int.natCast_one] at c); with_reducible refine c.mono ?_; rintro e' w1 ⟨rfl, rfl⟩) | (go_at_call 108; have c := sgn_2 x hx w TB.out; (try simp only [Int.cast_ofNat_Int, Int.natCast_zero, Int.natCast_one] at c); with_reducible refine c.mono ?_; rintro e' w1 ⟨rfl, rfl⟩) | (go_at_call 101; have c := wI_w 19 0 2 2 (sg 9 (nm 2 x)) (by decide) (by decide) (by decide) (by decide) (sg_lt 9 (nm 2 x) (by decide) (nm_32 2 x (by decide)) (nm_lt 2 9 x (by decide) (by decide))) w TB.out; (try simp only [Int.cast_ofNat_Int, Int.natCast_zero, Int.natCast_one] at c); with_reducible refine c.mono ?_; rintro e' w1 ⟨rfl, rfl⟩) | (go_at_call 100; have c := unl_f (wI 19 0 2 2 (sg 9 (nm 2 x))) w; (try simp only [Int.cast_ofNat_Int, Int.natCast_zero, Int.natCast_one] at c); with_reducible refine c.mono ?_; rintro e' w1 ⟨rfl, rfl⟩))
      go_ret2
      exact ⟨rfl, rfl⟩
  · have e : rUpper x = unl ((sg 17 (nm 1 x)) == 0) (wUJ 55 3 (rD x) (sg 17 (nm 1 x))) := by simp [rUpper, h]
    have t0 : (((rD x : Nat) : Int) == 2) = false := by simp; omega
    rw [e]
    clear e h
    have hs : ((((sg 17 (nm 1 x)) : Nat) : Int) == 0) = ((sg 17 (nm 1 x)) == 0) := beqc _
    have e : unl ((sg 17 (nm 1 x)) == 0) (wUJ 55 3 (rD x) (sg 17 (nm 1 x))) = unl ((sg 17 (nm 1 x)) == 0) (wUJ 55 3 (rD x) (sg 17 (nm 1 x))) := rfl
    rw [e]
    clear e
    generalize hq : ((sg 17 (nm 1 x)) == 0) = q at *
    clear hq
    rcases bft q with rfl | rfl
    · go_enter Tryz.func63, Tryz.ntmps63
      go_wp2_with (first | (go_at_call 107; have c := vrd_w x hx w; (try simp only [Int.cast_ofNat_Int, Int.natCast_zero, Int.natCast_one] at c); with_reducible refine c.mono ?_; rintro e' w1 ⟨rfl, rfl⟩) | (go_at_call 108; have c := sgn_1 x hx w TB.out; (try simp only [Int.cast_ofNat_Int, Int.natCast_zero, Int.natCast_one] at c); with_reducible refine c.mono ?_; rintro e' w1 ⟨rfl, rfl⟩) | (go_at_call 109; have c := wUJ_w 55 3 (rD x) (sg 17 (nm 1 x)) (by decide) (by decide) rd0 (sg_lt 17 (nm 1 x) (by decide) (nm_32 1 x (by decide)) (nm_lt 1 17 x (by decide) (by decide))) w TB.out; (try simp only [Int.cast_ofNat_Int, Int.natCast_zero, Int.natCast_one] at c); with_reducible refine c.mono ?_; rintro e' w1 ⟨rfl, rfl⟩) | (go_at_call 100; have c := unl_t (wUJ 55 3 (rD x) (sg 17 (nm 1 x))) w; (try simp only [Int.cast_ofNat_Int, Int.natCast_zero, Int.natCast_one] at c); with_reducible refine c.mono ?_; rintro e' w1 ⟨rfl, rfl⟩))
      go_ret2
      exact ⟨rfl, rfl⟩
    · go_enter Tryz.func63, Tryz.ntmps63
      go_wp2_with (first | (go_at_call 107; have c := vrd_w x hx w; (try simp only [Int.cast_ofNat_Int, Int.natCast_zero, Int.natCast_one] at c); with_reducible refine c.mono ?_; rintro e' w1 ⟨rfl, rfl⟩) | (go_at_call 108; have c := sgn_1 x hx w TB.out; (try simp only [Int.cast_ofNat_Int, Int.natCast_zero, Int.natCast_one] at c); with_reducible refine c.mono ?_; rintro e' w1 ⟨rfl, rfl⟩) | (go_at_call 109; have c := wUJ_w 55 3 (rD x) (sg 17 (nm 1 x)) (by decide) (by decide) rd0 (sg_lt 17 (nm 1 x) (by decide) (nm_32 1 x (by decide)) (nm_lt 1 17 x (by decide) (by decide))) w TB.out; (try simp only [Int.cast_ofNat_Int, Int.natCast_zero, Int.natCast_one] at c); with_reducible refine c.mono ?_; rintro e' w1 ⟨rfl, rfl⟩) | (go_at_call 100; have c := unl_f (wUJ 55 3 (rD x) (sg 17 (nm 1 x))) w; (try simp only [Int.cast_ofNat_Int, Int.natCast_zero, Int.natCast_one] at c); with_reducible refine c.mono ?_; rintro e' w1 ⟨rfl, rfl⟩))
      go_ret2
      exact ⟨rfl, rfl⟩
set_option maxHeartbeats 1000000 in
theorem r_nearLoad (x : Nat) (hx : x < 65536) (b0 b1 : Nat) (wd k : Nat) (hw : wd < 8) (hk : k < 12) (w : World) (tb : Tb w) (c0 : w.cell? ⟨b0, 0, none⟩ = some (.int .u32 (wd : Int))) (c1 : w.cell? ⟨b1, 0, none⟩ = some (.int .i64 (k : Int))) :
    Calls Tryz.prog 103 #[.int .u16 (x : Int), .pointer (some ⟨b0, 0, none⟩), .pointer (some ⟨b1, 0, none⟩)] w fun e w' => e = .returned (VR (rNearLoad wd k x)) ∧ Qt w w' := by
  have TB := Lib.hid tb
  clear tb
  have rd0 := rD_lt x
  have rs0 := rS_lt x
  have nd0 := nD_lt x
  have ns0 := nS_lt x
  go_enter Tryz.func103, Tryz.ntmps103
  go_wp2
  go_quiet (first | (go_at_call 104; first | exact qa_add (vnd_w x hx _) | exact qa_one (vnd_w x hx _)) | (go_at_call 102; first | exact qa_add (vns_w x hx _) | exact qa_one (vns_w x hx _)) | (go_at_call 99; first | exact qa_add (num_w k hk x hx _ (TB.out.kp ((Kp.refl w).drewN _))) | exact qa_one (num_w k hk x hx _ (TB.out.kp ((Kp.refl w).drewN _)))) | (go_at_call 101; first | exact qa_add (wI_w 3 wd (nS x) (nD x) (nm k x) (by decide) hw ns0 nd0 (nm_32 k x hk) _ (TB.out.kp ((Kp.refl w).drewN _))) | exact qa_one (wI_w 3 wd (nS x) (nD x) (nm k x) (by decide) hw ns0 nd0 (nm_32 k x hk) _ (TB.out.kp ((Kp.refl w).drewN _)))))
  go_wp2
  go_ret2
  exact ⟨rfl, ⟨_, rfl⟩⟩
set_option maxHeartbeats 1000000 in
theorem r_nearStore (x : Nat) (hx : x < 65536) (b0 b1 : Nat) (wd k : Nat) (hw : wd < 8) (hk : k < 12) (w : World) (tb : Tb w) (c0 : w.cell? ⟨b0, 0, none⟩ = some (.int .u32 (wd : Int))) (c1 : w.cell? ⟨b1, 0, none⟩ = some (.int .i64 (k : Int))) :
    Calls Tryz.prog 105 #[.int .u16 (x : Int), .pointer (some ⟨b0, 0, none⟩), .pointer (some ⟨b1, 0, none⟩)] w fun e w' => e = .returned (VR (rNearStore wd k x)) ∧ Qt w w' := by
  have TB := Lib.hid tb
  clear tb
  have rd0 := rD_lt x
  have rs0 := rS_lt x
  have nd0 := nD_lt x
  have ns0 := nS_lt x
  go_enter Tryz.func105, Tryz.ntmps105
  go_wp2
  go_quiet (first | (go_at_call 104; first | exact qa_add (vnd_w x hx _) | exact qa_one (vnd_w x hx _)) | (go_at_call 102; first | exact qa_add (vns_w x hx _) | exact qa_one (vns_w x hx _)) | (go_at_call 99; first | exact qa_add (num_w k hk x hx _ (TB.out.kp ((Kp.refl w).drewN _))) | exact qa_one (num_w k hk x hx _ (TB.out.kp ((Kp.refl w).drewN _)))) | (go_at_call 106; first | exact qa_add (wSB_w 35 1 wd (nD x) (nS x) (nm k x) (by decide) (by decide) hw nd0 ns0 (nm_32 k x hk) _ (TB.out.kp ((Kp.refl w).drewN _))) | exact qa_one (wSB_w 35 1 wd (nD x) (nS x) (nm k x) (by decide) (by decide) hw nd0 ns0 (nm_32 k x hk) _ (TB.out.kp ((Kp.refl w).drewN _)))))
  go_wp2
  go_ret2
  exact ⟨rfl, ⟨_, rfl⟩⟩
set_option maxHeartbeats 1000000 in
theorem r_stackLoad (x : Nat) (hx : x < 65536) (b0 b1 : Nat) (wd k : Nat) (hw : wd < 8) (hk : k < 12) (w : World) (tb : Tb w) (c0 : w.cell? ⟨b0, 0, none⟩ = some (.int .u32 (wd : Int))) (c1 : w.cell? ⟨b1, 0, none⟩ = some (.int .i64 (k : Int))) :
    Calls Tryz.prog 112 #[.int .u16 (x : Int), .pointer (some ⟨b0, 0, none⟩), .pointer (some ⟨b1, 0, none⟩)] w fun e w' => e = .returned (VR (rStackLoad wd k x)) ∧ Qt w w' := by
  have TB := Lib.hid tb
  clear tb
  have rd0 := rD_lt x
  have rs0 := rS_lt x
  have nd0 := nD_lt x
  have ns0 := nS_lt x
  have hs : ((((rD x) : Nat) : Int) == 0) = ((rD x) == 0) := beqc _
  have e : rStackLoad wd k x = unl ((rD x) == 0) (wI 3 wd (rD x) 2 (nm k x)) := rfl
  rw [e]
  clear e
  generalize hq : ((rD x) == 0) = q at *
  clear hq
  rcases bft q with rfl | rfl
  · go_enter Tryz.func112, Tryz.ntmps112
    go_wp2
    go_quiet (first | (go_at_call 107; first | exact qa_add (vrd_w x hx _) | exact qa_one (vrd_w x hx _)) | (go_at_call 99; first | exact qa_add (num_w k hk x hx _ (TB.out.kp ((Kp.refl w).drewN _))) | exact qa_one (num_w k hk x hx _ (TB.out.kp ((Kp.refl w).drewN _)))) | (go_at_call 101; first | exact qa_add (wI_w 3 wd (rD x) 2 (nm k x) (by decide) hw rd0 (by decide) (nm_32 k x hk) _ (TB.out.kp ((Kp.refl w).drewN _))) | exact qa_one (wI_w 3 wd (rD x) 2 (nm k x) (by decide) hw rd0 (by decide) (nm_32 k x hk) _ (TB.out.kp ((Kp.refl w).drewN _)))) | (go_at_call 100; first | exact qa_add (unl_t (wI 3 wd (rD x) 2 (nm k x)) _) | exact qa_one (unl_t (wI 3 wd (rD x) 2 (nm k x)) _)))
    go_wp2
    go_ret2
    exact ⟨rfl, ⟨_, rfl⟩⟩
  · go_enter Tryz.func112, Tryz.ntmps112
    go_wp2
    go_quiet (first | (go_at_call 107; first | exact qa_add (vrd_w x hx _) | exact qa_one (vrd_w x hx _)) | (go_at_call 99; first | exact qa_add (num_w k hk x hx _ (TB.out.kp ((Kp.refl w).drewN _))) | exact qa_one (num_w k hk x hx _ (TB.out.kp ((Kp.refl w).drewN _)))) | (go_at_call 101; first | exact qa_add (wI_w 3 wd (rD x) 2 (nm k x) (by decide) hw rd0 (by decide) (nm_32 k x hk) _ (TB.out.kp ((Kp.refl w).drewN _))) | exact qa_one (wI_w 3 wd (rD x) 2 (nm k x) (by decide) hw rd0 (by decide) (nm_32 k x hk) _ (TB.out.kp ((Kp.refl w).drewN _)))) | (go_at_call 100; first | exact qa_add (unl_f (wI 3 wd (rD x) 2 (nm k x)) _) | exact qa_one (unl_f (wI 3 wd (rD x) 2 (nm k x)) _)))
    go_wp2
    go_ret2
    exact ⟨rfl, ⟨_, rfl⟩⟩
set_option maxHeartbeats 1000000 in
theorem r_stackStore (x : Nat) (hx : x < 65536) (b0 b1 : Nat) (wd k : Nat) (hw : wd < 8) (hk : k < 12) (w : World) (tb : Tb w) (c0 : w.cell? ⟨b0, 0, none⟩ = some (.int .u32 (wd : Int))) (c1 : w.cell? ⟨b1, 0, none⟩ = some (.int .i64 (k : Int))) :
    Calls Tryz.prog 116 #[.int .u16 (x : Int), .pointer (some ⟨b0, 0, none⟩), .pointer (some ⟨b1, 0, none⟩)] w fun e w' => e = .returned (VR (rStackStore wd k x)) ∧ Qt w w' := by
  have TB := Lib.hid tb
  clear tb
  have rd0 := rD_lt x
  have rs0 := rS_lt x
  have nd0 := nD_lt x
  have ns0 := nS_lt x
  go_enter Tryz.func116, Tryz.ntmps116
  go_wp2
  go_quiet (first | (go_at_call 113; first | exact qa_add (vrs_w x hx _) | exact qa_one (vrs_w x hx _)) | (go_at_call 99; first | exact qa_add (num_w k hk x hx _ (TB.out.kp ((Kp.refl w).drewN _))) | exact qa_one (num_w k hk x hx _ (TB.out.kp ((Kp.refl w).drewN _)))) | (go_at_call 106; first | exact qa_add (wSB_w 35 1 wd 2 (rS x) (nm k x) (by decide) (by decide) hw (by decide) rs0 (nm_32 k x hk) _ (TB.out.kp ((Kp.refl w).drewN _))) | exact qa_one (wSB_w 35 1 wd 2 (rS x) (nm k x) (by decide) (by decide) hw (by decide) rs0 (nm_32 k x hk) _ (TB.out.kp ((Kp.refl w).drewN _)))))
  go_wp2
  go_ret2
  exact ⟨rfl, ⟨_, rfl⟩⟩
set_option maxHeartbeats 1000000 in
theorem r_branch (x : Nat) (hx : x < 65536) (b0 : Nat) (f : Nat) (hf : f < 8) (w : World) (tb : Tb w) (c0 : w.cell? ⟨b0, 0, none⟩ = some (.int .u32 (f : Int))) :
    Calls Tryz.prog 111 #[.int .u16 (x : Int), .pointer (some ⟨b0, 0, none⟩)] w fun e w' => e = .returned (VR (rBranch f x)) ∧ Qt w w' := by
  have TB := Lib.hid tb
  clear tb
  have rd0 := rD_lt x
  have rs0 := rS_lt x
  have nd0 := nD_lt x
  have ns0 := nS_lt x
  go_enter Tryz.func111, Tryz.ntmps111
  go_wp2
  go_quiet (first | (go_at_call 104; first | exact qa_add (vnd_w x hx _) | exact qa_one (vnd_w x hx _)) | (go_at_call 108; first | exact qa_add (sgn_11 x hx _ (TB.out.kp ((Kp.refl w).drewN _))) | exact qa_one (sgn_11 x hx _ (TB.out.kp ((Kp.refl w).drewN _)))) | (go_at_call 106; first | exact qa_add (wSB_w 99 2 f (nD x) 0 (sg 8 (nm 11 x)) (by decide) (by decide) hf nd0 (by decide) (sg_lt 8 (nm 11 x) (by decide) (nm_32 11 x (by decide)) (nm_lt 11 8 x (by decide) (by decide))) _ (TB.out.kp ((Kp.refl w).drewN _))) | exact qa_one (wSB_w 99 2 f (nD x) 0 (sg 8 (nm 11 x)) (by decide) (by decide) hf nd0 (by decide) (sg_lt 8 (nm 11 x) (by decide) (nm_32 11 x (by decide)) (nm_lt 11 8 x (by decide) (by decide))) _ (TB.out.kp ((Kp.refl w).drewN _)))))
  go_wp2
  go_ret2
  exact ⟨rfl, ⟨_, rfl⟩⟩
end Go.Proofs.YtlfeandnpflaaaaGreatDoor
namespace Go.Proofs.YtlfeandnpflaaaaGreatDoor
open Go.ChangeShapes Go.WideShapes Go.ChangeAt Go.RowKit
set_option linter.unusedVariables false
set_option linter.unusedSimpArgs false
set_option maxHeartbeats 1000000 in
theorem r_pair (x : Nat) (hx : x < 65536) (w : World) (tb : Tb w) :
    Calls Tryz.prog 110 #[.int .u16 (x : Int)] w fun e w' => e = .returned (VR (rPair x)) ∧ w = w' := by
  have TB := Lib.hid tb
  clear tb
  have rd0 := rD_lt x
  have rs0 := rS_lt x
  have nd0 := nD_lt x
  have ns0 := nS_lt x
  have a0 : x / 4096 % 2 = 0 ∨ x / 4096 % 2 = 1 := by omega
  have b0 : x / 32 % 4 = 0 ∨ x / 32 % 4 = 1 ∨ x / 32 % 4 = 2 ∨ x / 32 % 4 = 3 := by omega
  rcases a0 with ha | ha <;> rcases b0 with hb | hb | hb | hb
  · have e : rPair x = some (vr ||| R5 51 0 (nD x) (nD x) (nS x)) := by simp [rPair, ha, hb]
    rw [e]
    have HA := Lib.hid ha
    have HB := Lib.hid hb
    clear e ha hb
    go_enter Tryz.func110, Tryz.ntmps110
    go_wp2_with (first | (go_at_call 104; have c := vnd_w x hx w; (try simp only [Int.cast_ofNat_Int, Int.natCast_zero, Int.natCast_one] at c); with_reducible refine c.mono ?_; rintro e' w1 ⟨rfl, rfl⟩) | (go_at_call 102; have c := vns_w x hx w; (try simp only [Int.cast_ofNat_Int, Int.natCast_zero, Int.natCast_one] at c); with_reducible refine c.mono ?_; rintro e' w1 ⟨rfl, rfl⟩) | (go_at_call 114; have c := vb12_w x hx w; rw [HA.out] at c; (try simp only [Int.cast_ofNat_Int, Int.natCast_zero, Int.natCast_one] at c); with_reducible refine c.mono ?_; rintro e' w1 ⟨rfl, rfl⟩) | (go_at_call 71; have c := vf_6_5 x hx w; rw [HB.out] at c; (try simp only [Int.cast_ofNat_Int, Int.natCast_zero, Int.natCast_one] at c); with_reducible refine c.mono ?_; rintro e' w1 ⟨rfl, rfl⟩) | (go_at_call 115; have c := wR_w 51 0 (nD x) (nD x) (nS x) (by decide) (by decide) nd0 nd0 ns0 w; (try simp only [Int.cast_ofNat_Int, Int.natCast_zero, Int.natCast_one] at c); with_reducible refine c.mono ?_; rintro e' w1 ⟨rfl, rfl⟩))
    go_ret2
    exact ⟨ret_two (vr_or _ (R5_32 _ _ _ _ _ (by decide) (by decide) nd0 nd0 ns0)) rfl, rfl⟩
  · have e : rPair x = some (R5 51 4 (nD x) (nD x) (nS x)) := by simp [rPair, ha, hb]
    rw [e]
    have HA := Lib.hid ha
    have HB := Lib.hid hb
    clear e ha hb
    go_enter Tryz.func110, Tryz.ntmps110
    go_wp2_with (first | (go_at_call 104; have c := vnd_w x hx w; (try simp only [Int.cast_ofNat_Int, Int.natCast_zero, Int.natCast_one] at c); with_reducible refine c.mono ?_; rintro e' w1 ⟨rfl, rfl⟩) | (go_at_call 102; have c := vns_w x hx w; (try simp only [Int.cast_ofNat_Int, Int.natCast_zero, Int.natCast_one] at c); with_reducible refine c.mono ?_; rintro e' w1 ⟨rfl, rfl⟩) | (go_at_call 114; have c := vb12_w x hx w; rw [HA.out] at c; (try simp only [Int.cast_ofNat_Int, Int.natCast_zero, Int.natCast_one] at c); with_reducible refine c.mono ?_; rintro e' w1 ⟨rfl, rfl⟩) | (go_at_call 71; have c := vf_6_5 x hx w; rw [HB.out] at c; (try simp only [Int.cast_ofNat_Int, Int.natCast_zero, Int.natCast_one] at c); with_reducible refine c.mono ?_; rintro e' w1 ⟨rfl, rfl⟩) | (go_at_call 115; have c := wR_w 51 4 (nD x) (nD x) (nS x) (by decide) (by decide) nd0 nd0 ns0 w; (try simp only [Int.cast_ofNat_Int, Int.natCast_zero, Int.natCast_one] at c); with_reducible refine c.mono ?_; rintro e' w1 ⟨rfl, rfl⟩))
    go_ret2
    exact ⟨rfl, rfl⟩
  · have e : rPair x = some (R5 51 6 (nD x) (nD x) (nS x)) := by simp [rPair, ha, hb]
    rw [e]
    have HA := Lib.hid ha
    have HB := Lib.hid hb
    clear e ha hb
    go_enter Tryz.func110, Tryz.ntmps110
    go_wp2_with (first | (go_at_call 104; have c := vnd_w x hx w; (try simp only [Int.cast_ofNat_Int, Int.natCast_zero, Int.natCast_one] at c); with_reducible refine c.mono ?_; rintro e' w1 ⟨rfl, rfl⟩) | (go_at_call 102; have c := vns_w x hx w; (try simp only [Int.cast_ofNat_Int, Int.natCast_zero, Int.natCast_one] at c); with_reducible refine c.mono ?_; rintro e' w1 ⟨rfl, rfl⟩) | (go_at_call 114; have c := vb12_w x hx w; rw [HA.out] at c; (try simp only [Int.cast_ofNat_Int, Int.natCast_zero, Int.natCast_one] at c); with_reducible refine c.mono ?_; rintro e' w1 ⟨rfl, rfl⟩) | (go_at_call 71; have c := vf_6_5 x hx w; rw [HB.out] at c; (try simp only [Int.cast_ofNat_Int, Int.natCast_zero, Int.natCast_one] at c); with_reducible refine c.mono ?_; rintro e' w1 ⟨rfl, rfl⟩) | (go_at_call 115; have c := wR_w 51 6 (nD x) (nD x) (nS x) (by decide) (by decide) nd0 nd0 ns0 w; (try simp only [Int.cast_ofNat_Int, Int.natCast_zero, Int.natCast_one] at c); with_reducible refine c.mono ?_; rintro e' w1 ⟨rfl, rfl⟩))
    go_ret2
    exact ⟨rfl, rfl⟩
  · have e : rPair x = some (R5 51 7 (nD x) (nD x) (nS x)) := by simp [rPair, ha, hb]
    rw [e]
    have HA := Lib.hid ha
    have HB := Lib.hid hb
    clear e ha hb
    go_enter Tryz.func110, Tryz.ntmps110
    go_wp2_with (first | (go_at_call 104; have c := vnd_w x hx w; (try simp only [Int.cast_ofNat_Int, Int.natCast_zero, Int.natCast_one] at c); with_reducible refine c.mono ?_; rintro e' w1 ⟨rfl, rfl⟩) | (go_at_call 102; have c := vns_w x hx w; (try simp only [Int.cast_ofNat_Int, Int.natCast_zero, Int.natCast_one] at c); with_reducible refine c.mono ?_; rintro e' w1 ⟨rfl, rfl⟩) | (go_at_call 114; have c := vb12_w x hx w; rw [HA.out] at c; (try simp only [Int.cast_ofNat_Int, Int.natCast_zero, Int.natCast_one] at c); with_reducible refine c.mono ?_; rintro e' w1 ⟨rfl, rfl⟩) | (go_at_call 71; have c := vf_6_5 x hx w; rw [HB.out] at c; (try simp only [Int.cast_ofNat_Int, Int.natCast_zero, Int.natCast_one] at c); with_reducible refine c.mono ?_; rintro e' w1 ⟨rfl, rfl⟩) | (go_at_call 115; have c := wR_w 51 7 (nD x) (nD x) (nS x) (by decide) (by decide) nd0 nd0 ns0 w; (try simp only [Int.cast_ofNat_Int, Int.natCast_zero, Int.natCast_one] at c); with_reducible refine c.mono ?_; rintro e' w1 ⟨rfl, rfl⟩))
    go_ret2
    exact ⟨rfl, rfl⟩
  · have e : rPair x = some (vr ||| R5 59 0 (nD x) (nD x) (nS x)) := by simp [rPair, ha, hb]
    rw [e]
    have HA := Lib.hid ha
    have HB := Lib.hid hb
    clear e ha hb
    go_enter Tryz.func110, Tryz.ntmps110
    go_wp2_with (first | (go_at_call 104; have c := vnd_w x hx w; (try simp only [Int.cast_ofNat_Int, Int.natCast_zero, Int.natCast_one] at c); with_reducible refine c.mono ?_; rintro e' w1 ⟨rfl, rfl⟩) | (go_at_call 102; have c := vns_w x hx w; (try simp only [Int.cast_ofNat_Int, Int.natCast_zero, Int.natCast_one] at c); with_reducible refine c.mono ?_; rintro e' w1 ⟨rfl, rfl⟩) | (go_at_call 114; have c := vb12_w x hx w; rw [HA.out] at c; (try simp only [Int.cast_ofNat_Int, Int.natCast_zero, Int.natCast_one] at c); with_reducible refine c.mono ?_; rintro e' w1 ⟨rfl, rfl⟩) | (go_at_call 71; have c := vf_6_5 x hx w; rw [HB.out] at c; (try simp only [Int.cast_ofNat_Int, Int.natCast_zero, Int.natCast_one] at c); with_reducible refine c.mono ?_; rintro e' w1 ⟨rfl, rfl⟩) | (go_at_call 115; have c := wR_w 59 0 (nD x) (nD x) (nS x) (by decide) (by decide) nd0 nd0 ns0 w; (try simp only [Int.cast_ofNat_Int, Int.natCast_zero, Int.natCast_one] at c); with_reducible refine c.mono ?_; rintro e' w1 ⟨rfl, rfl⟩))
    go_ret2
    exact ⟨ret_two (vr_or _ (R5_32 _ _ _ _ _ (by decide) (by decide) nd0 nd0 ns0)) rfl, rfl⟩
  · have e : rPair x = some (R5 59 0 (nD x) (nD x) (nS x)) := by simp [rPair, ha, hb]
    rw [e]
    have HA := Lib.hid ha
    have HB := Lib.hid hb
    clear e ha hb
    go_enter Tryz.func110, Tryz.ntmps110
    go_wp2_with (first | (go_at_call 104; have c := vnd_w x hx w; (try simp only [Int.cast_ofNat_Int, Int.natCast_zero, Int.natCast_one] at c); with_reducible refine c.mono ?_; rintro e' w1 ⟨rfl, rfl⟩) | (go_at_call 102; have c := vns_w x hx w; (try simp only [Int.cast_ofNat_Int, Int.natCast_zero, Int.natCast_one] at c); with_reducible refine c.mono ?_; rintro e' w1 ⟨rfl, rfl⟩) | (go_at_call 114; have c := vb12_w x hx w; rw [HA.out] at c; (try simp only [Int.cast_ofNat_Int, Int.natCast_zero, Int.natCast_one] at c); with_reducible refine c.mono ?_; rintro e' w1 ⟨rfl, rfl⟩) | (go_at_call 71; have c := vf_6_5 x hx w; rw [HB.out] at c; (try simp only [Int.cast_ofNat_Int, Int.natCast_zero, Int.natCast_one] at c); with_reducible refine c.mono ?_; rintro e' w1 ⟨rfl, rfl⟩) | (go_at_call 115; have c := wR_w 59 0 (nD x) (nD x) (nS x) (by decide) (by decide) nd0 nd0 ns0 w; (try simp only [Int.cast_ofNat_Int, Int.natCast_zero, Int.natCast_one] at c); with_reducible refine c.mono ?_; rintro e' w1 ⟨rfl, rfl⟩))
    go_ret2
    exact ⟨rfl, rfl⟩
  · have e : rPair x = none := by simp [rPair, ha, hb]
    rw [e]
    have HA := Lib.hid ha
    have HB := Lib.hid hb
    clear e ha hb
    go_enter Tryz.func110, Tryz.ntmps110
    go_wp2_with (first | (go_at_call 104; have c := vnd_w x hx w; (try simp only [Int.cast_ofNat_Int, Int.natCast_zero, Int.natCast_one] at c); with_reducible refine c.mono ?_; rintro e' w1 ⟨rfl, rfl⟩) | (go_at_call 102; have c := vns_w x hx w; (try simp only [Int.cast_ofNat_Int, Int.natCast_zero, Int.natCast_one] at c); with_reducible refine c.mono ?_; rintro e' w1 ⟨rfl, rfl⟩) | (go_at_call 114; have c := vb12_w x hx w; rw [HA.out] at c; (try simp only [Int.cast_ofNat_Int, Int.natCast_zero, Int.natCast_one] at c); with_reducible refine c.mono ?_; rintro e' w1 ⟨rfl, rfl⟩) | (go_at_call 71; have c := vf_6_5 x hx w; rw [HB.out] at c; (try simp only [Int.cast_ofNat_Int, Int.natCast_zero, Int.natCast_one] at c); with_reducible refine c.mono ?_; rintro e' w1 ⟨rfl, rfl⟩))
    go_ret2
    exact ⟨rfl, rfl⟩
  · have e : rPair x = none := by simp [rPair, ha, hb]
    rw [e]
    have HA := Lib.hid ha
    have HB := Lib.hid hb
    clear e ha hb
    go_enter Tryz.func110, Tryz.ntmps110
    go_wp2_with (first | (go_at_call 104; have c := vnd_w x hx w; (try simp only [Int.cast_ofNat_Int, Int.natCast_zero, Int.natCast_one] at c); with_reducible refine c.mono ?_; rintro e' w1 ⟨rfl, rfl⟩) | (go_at_call 102; have c := vns_w x hx w; (try simp only [Int.cast_ofNat_Int, Int.natCast_zero, Int.natCast_one] at c); with_reducible refine c.mono ?_; rintro e' w1 ⟨rfl, rfl⟩) | (go_at_call 114; have c := vb12_w x hx w; rw [HA.out] at c; (try simp only [Int.cast_ofNat_Int, Int.natCast_zero, Int.natCast_one] at c); with_reducible refine c.mono ?_; rintro e' w1 ⟨rfl, rfl⟩) | (go_at_call 71; have c := vf_6_5 x hx w; rw [HB.out] at c; (try simp only [Int.cast_ofNat_Int, Int.natCast_zero, Int.natCast_one] at c); with_reducible refine c.mono ?_; rintro e' w1 ⟨rfl, rfl⟩))
    go_ret2
    exact ⟨rfl, rfl⟩
set_option maxHeartbeats 1000000 in
theorem r_near (x : Nat) (hx : x < 65536) (w : World) (tb : Tb w) :
    Calls Tryz.prog 64 #[.int .u16 (x : Int)] w fun e w' => e = .returned (VR (rNear x)) ∧ w = w' := by
  have TB := Lib.hid tb
  clear tb
  have rd0 := rD_lt x
  have rs0 := rS_lt x
  have nd0 := nD_lt x
  have ns0 := nS_lt x
  have a0 : x / 1024 % 4 = 0 ∨ x / 1024 % 4 = 1 ∨ x / 1024 % 4 = 2 ∨ x / 1024 % 4 = 3 := by omega
  rcases a0 with ha | ha | ha | ha
  · have e : rNear x = some (wI 19 5 (nD x) (nD x) (nm 0 x)) := by simp [rNear, ha]
    rw [e]
    have HA := Lib.hid ha
    clear e ha
    go_enter Tryz.func64, Tryz.ntmps64
    go_wp2_with (first | (go_at_call 104; have c := vnd_w x hx w; (try simp only [Int.cast_ofNat_Int, Int.natCast_zero, Int.natCast_one] at c); with_reducible refine c.mono ?_; rintro e' w1 ⟨rfl, rfl⟩) | (go_at_call 71; have c := vf_11_10 x hx w; rw [HA.out] at c; (try simp only [Int.cast_ofNat_Int, Int.natCast_zero, Int.natCast_one] at c); with_reducible refine c.mono ?_; rintro e' w1 ⟨rfl, rfl⟩) | (go_at_call 99; have c := num_w 0 (by decide) x hx w TB.out; (try simp only [Int.cast_ofNat_Int, Int.natCast_zero, Int.natCast_one] at c); with_reducible refine c.mono ?_; rintro e' w1 ⟨rfl, rfl⟩) | (go_at_call 101; have c := wI_w 19 5 (nD x) (nD x) (nm 0 x) (by decide) (by decide) nd0 nd0 (nm_32 0 x (by decide)) w TB.out; (try simp only [Int.cast_ofNat_Int, Int.natCast_zero, Int.natCast_one] at c); with_reducible refine c.mono ?_; rintro e' w1 ⟨rfl, rfl⟩))
    go_ret2
    exact ⟨rfl, rfl⟩
  · have e : rNear x = some (vr ||| wI 19 5 (nD x) (nD x) (nm 0 x)) := by simp [rNear, ha]
    rw [e]
    have HA := Lib.hid ha
    clear e ha
    go_enter Tryz.func64, Tryz.ntmps64
    go_wp2_with (first | (go_at_call 104; have c := vnd_w x hx w; (try simp only [Int.cast_ofNat_Int, Int.natCast_zero, Int.natCast_one] at c); with_reducible refine c.mono ?_; rintro e' w1 ⟨rfl, rfl⟩) | (go_at_call 71; have c := vf_11_10 x hx w; rw [HA.out] at c; (try simp only [Int.cast_ofNat_Int, Int.natCast_zero, Int.natCast_one] at c); with_reducible refine c.mono ?_; rintro e' w1 ⟨rfl, rfl⟩) | (go_at_call 99; have c := num_w 0 (by decide) x hx w TB.out; (try simp only [Int.cast_ofNat_Int, Int.natCast_zero, Int.natCast_one] at c); with_reducible refine c.mono ?_; rintro e' w1 ⟨rfl, rfl⟩) | (go_at_call 101; have c := wI_w 19 5 (nD x) (nD x) (nm 0 x) (by decide) (by decide) nd0 nd0 (nm_32 0 x (by decide)) w TB.out; (try simp only [Int.cast_ofNat_Int, Int.natCast_zero, Int.natCast_one] at c); with_reducible refine c.mono ?_; rintro e' w1 ⟨rfl, rfl⟩))
    go_ret2
    exact ⟨ret_two (vr_or _ (wI_32 _ _ _ _ _ (by decide) (by decide) nd0 nd0)) rfl, rfl⟩
  · have e : rNear x = some (wI 19 7 (nD x) (nD x) (sg 5 (nm 0 x))) := by simp [rNear, ha]
    rw [e]
    have HA := Lib.hid ha
    clear e ha
    go_enter Tryz.func64, Tryz.ntmps64
    go_wp2_with (first | (go_at_call 104; have c := vnd_w x hx w; (try simp only [Int.cast_ofNat_Int, Int.natCast_zero, Int.natCast_one] at c); with_reducible refine c.mono ?_; rintro e' w1 ⟨rfl, rfl⟩) | (go_at_call 71; have c := vf_11_10 x hx w; rw [HA.out] at c; (try simp only [Int.cast_ofNat_Int, Int.natCast_zero, Int.natCast_one] at c); with_reducible refine c.mono ?_; rintro e' w1 ⟨rfl, rfl⟩) | (go_at_call 108; have c := sgn_0 x hx w TB.out; (try simp only [Int.cast_ofNat_Int, Int.natCast_zero, Int.natCast_one] at c); with_reducible refine c.mono ?_; rintro e' w1 ⟨rfl, rfl⟩) | (go_at_call 101; have c := wI_w 19 7 (nD x) (nD x) (sg 5 (nm 0 x)) (by decide) (by decide) nd0 nd0 (sg_lt 5 (nm 0 x) (by decide) (nm_32 0 x (by decide)) (nm_lt 0 5 x (by decide) (by decide))) w TB.out; (try simp only [Int.cast_ofNat_Int, Int.natCast_zero, Int.natCast_one] at c); with_reducible refine c.mono ?_; rintro e' w1 ⟨rfl, rfl⟩))
    go_ret2
    exact ⟨rfl, rfl⟩
  · have e : rNear x = rPair x := by simp [rNear, ha]
    rw [e]
    have HA := Lib.hid ha
    clear e ha
    generalize hv : rPair x = v
    have HV := Lib.hid hv
    clear hv
    cases v
    · go_enter Tryz.func64, Tryz.ntmps64
      go_wp2_with (first | (go_at_call 104; have c := vnd_w x hx w; (try simp only [Int.cast_ofNat_Int, Int.natCast_zero, Int.natCast_one] at c); with_reducible refine c.mono ?_; rintro e' w1 ⟨rfl, rfl⟩) | (go_at_call 71; have c := vf_11_10 x hx w; rw [HA.out] at c; (try simp only [Int.cast_ofNat_Int, Int.natCast_zero, Int.natCast_one] at c); with_reducible refine c.mono ?_; rintro e' w1 ⟨rfl, rfl⟩) | (go_at_call 110; have c := r_pair x hx w TB.out; rw [HV.out] at c; dsimp only [VR] at c; with_reducible refine c.mono ?_; rintro e' w1 ⟨rfl, rfl⟩))
      go_ret2
      exact ⟨rfl, rfl⟩
    · go_enter Tryz.func64, Tryz.ntmps64
      go_wp2_with (first | (go_at_call 104; have c := vnd_w x hx w; (try simp only [Int.cast_ofNat_Int, Int.natCast_zero, Int.natCast_one] at c); with_reducible refine c.mono ?_; rintro e' w1 ⟨rfl, rfl⟩) | (go_at_call 71; have c := vf_11_10 x hx w; rw [HA.out] at c; (try simp only [Int.cast_ofNat_Int, Int.natCast_zero, Int.natCast_one] at c); with_reducible refine c.mono ?_; rintro e' w1 ⟨rfl, rfl⟩) | (go_at_call 110; have c := r_pair x hx w TB.out; rw [HV.out] at c; dsimp only [VR] at c; with_reducible refine c.mono ?_; rintro e' w1 ⟨rfl, rfl⟩))
      go_ret2
      exact ⟨rfl, rfl⟩
set_option maxHeartbeats 1000000 in
theorem r_move (x : Nat) (hx : x < 65536) (w : World) (tb : Tb w) :
    Calls Tryz.prog 69 #[.int .u16 (x : Int)] w fun e w' => e = .returned (VR (rMove x)) ∧ w = w' := by
  have TB := Lib.hid tb
  clear tb
  have rd0 := rD_lt x
  have rs0 := rS_lt x
  have nd0 := nD_lt x
  have ns0 := nS_lt x
  have a0 : x / 4096 % 2 = 0 ∨ x / 4096 % 2 = 1 := by omega
  have hs : (((rS x : Nat) : Int) == 0) = (rS x == 0) := beqc _
  have hd : (((rD x : Nat) : Int) == 0) = (rD x == 0) := beqc _
  have e : rMove x = (if x / 4096 % 2 = 0 then (if (rS x == 0) = true then unl (rD x == 0) (wI 103 0 0 (rD x) 0) else some (R5 51 0 (rD x) 0 (rS x))) else if (rS x == 0) = true then (if (rD x == 0) = true then some 1048691 else some (wI 103 0 1 (rD x) 0)) else some (R5 51 0 (rD x) (rD x) (rS x))) := by simp [rMove]
  rw [e]
  clear e
  generalize hp : (rS x == 0) = p at *
  generalize hq : (rD x == 0) = q at *
  clear hp hq
  rcases a0 with ha | ha <;> rw [ha] <;> have HA := Lib.hid ha <;> clear ha <;> rcases bft p with rfl | rfl <;> rcases bft q with rfl | rfl
  · go_enter Tryz.func69, Tryz.ntmps69
    go_wp2_with (first | (go_at_call 107; have c := vrd_w x hx w; (try simp only [Int.cast_ofNat_Int, Int.natCast_zero, Int.natCast_one] at c); with_reducible refine c.mono ?_; rintro e' w1 ⟨rfl, rfl⟩) | (go_at_call 113; have c := vrs_w x hx w; (try simp only [Int.cast_ofNat_Int, Int.natCast_zero, Int.natCast_one] at c); with_reducible refine c.mono ?_; rintro e' w1 ⟨rfl, rfl⟩) | (go_at_call 114; have c := vb12_w x hx w; rw [HA.out] at c; (try simp only [Int.cast_ofNat_Int, Int.natCast_zero, Int.natCast_one] at c); with_reducible refine c.mono ?_; rintro e' w1 ⟨rfl, rfl⟩) | (go_at_call 101; have c := wI_w 103 0 0 (rD x) 0 (by decide) (by decide) (by decide) rd0 (by decide) w TB.out; (try simp only [Int.cast_ofNat_Int, Int.natCast_zero, Int.natCast_one] at c); with_reducible refine c.mono ?_; rintro e' w1 ⟨rfl, rfl⟩) | (go_at_call 100; have c := unl_t (wI 103 0 0 (rD x) 0) w; (try simp only [Int.cast_ofNat_Int, Int.natCast_zero, Int.natCast_one] at c); with_reducible refine c.mono ?_; rintro e' w1 ⟨rfl, rfl⟩))
    go_ret2
    exact ⟨rfl, rfl⟩
  · go_enter Tryz.func69, Tryz.ntmps69
    go_wp2_with (first | (go_at_call 107; have c := vrd_w x hx w; (try simp only [Int.cast_ofNat_Int, Int.natCast_zero, Int.natCast_one] at c); with_reducible refine c.mono ?_; rintro e' w1 ⟨rfl, rfl⟩) | (go_at_call 113; have c := vrs_w x hx w; (try simp only [Int.cast_ofNat_Int, Int.natCast_zero, Int.natCast_one] at c); with_reducible refine c.mono ?_; rintro e' w1 ⟨rfl, rfl⟩) | (go_at_call 114; have c := vb12_w x hx w; rw [HA.out] at c; (try simp only [Int.cast_ofNat_Int, Int.natCast_zero, Int.natCast_one] at c); with_reducible refine c.mono ?_; rintro e' w1 ⟨rfl, rfl⟩) | (go_at_call 101; have c := wI_w 103 0 0 (rD x) 0 (by decide) (by decide) (by decide) rd0 (by decide) w TB.out; (try simp only [Int.cast_ofNat_Int, Int.natCast_zero, Int.natCast_one] at c); with_reducible refine c.mono ?_; rintro e' w1 ⟨rfl, rfl⟩) | (go_at_call 100; have c := unl_f (wI 103 0 0 (rD x) 0) w; (try simp only [Int.cast_ofNat_Int, Int.natCast_zero, Int.natCast_one] at c); with_reducible refine c.mono ?_; rintro e' w1 ⟨rfl, rfl⟩))
    go_ret2
    exact ⟨rfl, rfl⟩
  · go_enter Tryz.func69, Tryz.ntmps69
    go_wp2_with (first | (go_at_call 107; have c := vrd_w x hx w; (try simp only [Int.cast_ofNat_Int, Int.natCast_zero, Int.natCast_one] at c); with_reducible refine c.mono ?_; rintro e' w1 ⟨rfl, rfl⟩) | (go_at_call 113; have c := vrs_w x hx w; (try simp only [Int.cast_ofNat_Int, Int.natCast_zero, Int.natCast_one] at c); with_reducible refine c.mono ?_; rintro e' w1 ⟨rfl, rfl⟩) | (go_at_call 114; have c := vb12_w x hx w; rw [HA.out] at c; (try simp only [Int.cast_ofNat_Int, Int.natCast_zero, Int.natCast_one] at c); with_reducible refine c.mono ?_; rintro e' w1 ⟨rfl, rfl⟩) | (go_at_call 115; have c := wR_w 51 0 (rD x) 0 (rS x) (by decide) (by decide) rd0 (by decide) rs0 w; (try simp only [Int.cast_ofNat_Int, Int.natCast_zero, Int.natCast_one] at c); with_reducible refine c.mono ?_; rintro e' w1 ⟨rfl, rfl⟩))
    go_ret2
    exact ⟨rfl, rfl⟩
  · go_enter Tryz.func69, Tryz.ntmps69
    go_wp2_with (first | (go_at_call 107; have c := vrd_w x hx w; (try simp only [Int.cast_ofNat_Int, Int.natCast_zero, Int.natCast_one] at c); with_reducible refine c.mono ?_; rintro e' w1 ⟨rfl, rfl⟩) | (go_at_call 113; have c := vrs_w x hx w; (try simp only [Int.cast_ofNat_Int, Int.natCast_zero, Int.natCast_one] at c); with_reducible refine c.mono ?_; rintro e' w1 ⟨rfl, rfl⟩) | (go_at_call 114; have c := vb12_w x hx w; rw [HA.out] at c; (try simp only [Int.cast_ofNat_Int, Int.natCast_zero, Int.natCast_one] at c); with_reducible refine c.mono ?_; rintro e' w1 ⟨rfl, rfl⟩) | (go_at_call 115; have c := wR_w 51 0 (rD x) 0 (rS x) (by decide) (by decide) rd0 (by decide) rs0 w; (try simp only [Int.cast_ofNat_Int, Int.natCast_zero, Int.natCast_one] at c); with_reducible refine c.mono ?_; rintro e' w1 ⟨rfl, rfl⟩))
    go_ret2
    exact ⟨rfl, rfl⟩
  · go_enter Tryz.func69, Tryz.ntmps69
    go_wp2_with (first | (go_at_call 107; have c := vrd_w x hx w; (try simp only [Int.cast_ofNat_Int, Int.natCast_zero, Int.natCast_one] at c); with_reducible refine c.mono ?_; rintro e' w1 ⟨rfl, rfl⟩) | (go_at_call 113; have c := vrs_w x hx w; (try simp only [Int.cast_ofNat_Int, Int.natCast_zero, Int.natCast_one] at c); with_reducible refine c.mono ?_; rintro e' w1 ⟨rfl, rfl⟩) | (go_at_call 114; have c := vb12_w x hx w; rw [HA.out] at c; (try simp only [Int.cast_ofNat_Int, Int.natCast_zero, Int.natCast_one] at c); with_reducible refine c.mono ?_; rintro e' w1 ⟨rfl, rfl⟩))
    go_ret2
    exact ⟨rfl, rfl⟩
  · go_enter Tryz.func69, Tryz.ntmps69
    go_wp2_with (first | (go_at_call 107; have c := vrd_w x hx w; (try simp only [Int.cast_ofNat_Int, Int.natCast_zero, Int.natCast_one] at c); with_reducible refine c.mono ?_; rintro e' w1 ⟨rfl, rfl⟩) | (go_at_call 113; have c := vrs_w x hx w; (try simp only [Int.cast_ofNat_Int, Int.natCast_zero, Int.natCast_one] at c); with_reducible refine c.mono ?_; rintro e' w1 ⟨rfl, rfl⟩) | (go_at_call 114; have c := vb12_w x hx w; rw [HA.out] at c; (try simp only [Int.cast_ofNat_Int, Int.natCast_zero, Int.natCast_one] at c); with_reducible refine c.mono ?_; rintro e' w1 ⟨rfl, rfl⟩) | (go_at_call 101; have c := wI_w 103 0 1 (rD x) 0 (by decide) (by decide) (by decide) rd0 (by decide) w TB.out; (try simp only [Int.cast_ofNat_Int, Int.natCast_zero, Int.natCast_one] at c); with_reducible refine c.mono ?_; rintro e' w1 ⟨rfl, rfl⟩))
    go_ret2
    exact ⟨rfl, rfl⟩
  · go_enter Tryz.func69, Tryz.ntmps69
    go_wp2_with (first | (go_at_call 107; have c := vrd_w x hx w; (try simp only [Int.cast_ofNat_Int, Int.natCast_zero, Int.natCast_one] at c); with_reducible refine c.mono ?_; rintro e' w1 ⟨rfl, rfl⟩) | (go_at_call 113; have c := vrs_w x hx w; (try simp only [Int.cast_ofNat_Int, Int.natCast_zero, Int.natCast_one] at c); with_reducible refine c.mono ?_; rintro e' w1 ⟨rfl, rfl⟩) | (go_at_call 114; have c := vb12_w x hx w; rw [HA.out] at c; (try simp only [Int.cast_ofNat_Int, Int.natCast_zero, Int.natCast_one] at c); with_reducible refine c.mono ?_; rintro e' w1 ⟨rfl, rfl⟩) | (go_at_call 115; have c := wR_w 51 0 (rD x) (rD x) (rS x) (by decide) (by decide) rd0 rd0 rs0 w; (try simp only [Int.cast_ofNat_Int, Int.natCast_zero, Int.natCast_one] at c); with_reducible refine c.mono ?_; rintro e' w1 ⟨rfl, rfl⟩))
    go_ret2
    exact ⟨rfl, rfl⟩
  · go_enter Tryz.func69, Tryz.ntmps69
    go_wp2_with (first | (go_at_call 107; have c := vrd_w x hx w; (try simp only [Int.cast_ofNat_Int, Int.natCast_zero, Int.natCast_one] at c); with_reducible refine c.mono ?_; rintro e' w1 ⟨rfl, rfl⟩) | (go_at_call 113; have c := vrs_w x hx w; (try simp only [Int.cast_ofNat_Int, Int.natCast_zero, Int.natCast_one] at c); with_reducible refine c.mono ?_; rintro e' w1 ⟨rfl, rfl⟩) | (go_at_call 114; have c := vb12_w x hx w; rw [HA.out] at c; (try simp only [Int.cast_ofNat_Int, Int.natCast_zero, Int.natCast_one] at c); with_reducible refine c.mono ?_; rintro e' w1 ⟨rfl, rfl⟩) | (go_at_call 115; have c := wR_w 51 0 (rD x) (rD x) (rS x) (by decide) (by decide) rd0 rd0 rs0 w; (try simp only [Int.cast_ofNat_Int, Int.natCast_zero, Int.natCast_one] at c); with_reducible refine c.mono ?_; rintro e' w1 ⟨rfl, rfl⟩))
    go_ret2
    exact ⟨rfl, rfl⟩
end Go.Proofs.YtlfeandnpflaaaaGreatDoor
