/-
  SerialPower of layer 14: its walk. No condition but what the calls lean on.
-/
import Derived.Test.YtnimpgamiagedaaUWorks
import Derived.Test.YtnimpgamiagedaaUList
namespace Go.Proofs.Ytnimpgamiagedaa
open Go.ChangeShapes Go.WideShapes Go.ChangeAt Go.RowKit
set_option linter.unusedVariables false
set_option linter.unusedSimpArgs false
set_option maxRecDepth 100000 in
set_option maxHeartbeats 16000000 in
theorem power14_a  (v : Int) (v0 : 0 ≤ v) (v1 : v < 18446744073709551616) (l : List Uv) (A : Option Addr) (cap : Nat) (W : World) (hrd : RdUv W W.heap.size A l) (hraw : ∀ c ∈ l, c.Raw) (hlen : l.length ≤ 9223372036854775807) (tb : UTb W) :
    Calls Try.prog 6 #[.int .i64 0, .int .i64 4, .int .u64 v, .slice A l.length cap] W fun e w' => e = .returned (.bool true) ∧ Below W.heap.size W w' := by
  have HRD := Lib.hid hrd
  have HRAW := Lib.hid hraw
  have HTB := Lib.hid tb
  clear hrd hraw tb
  obtain ⟨p, hp⟩ : ∃ p, (v % 4294967296 == 21845) = p := ⟨_, rfl⟩
  have HP := Lib.hid (show pwS false 0 4 v = p by rw [← hp]; rfl)
  have e1 : (p != p) = false := by simp
  go_enter Try.func6, Try.ntmps6
  go_wp2_with (first | (go_at_call 11; (with_reducible refine (cpwnew_w _ HTB.out).mono ?_); rintro e' w0 ⟨g, rfl, m0, b0⟩; have hs0 := b0.size; have H0 := Lib.hid (OneP.mk m0 b0 (Nat.le_refl _)); clear m0 b0) | (go_at_call 23; (with_reducible refine (cpwstore_at H0.out.o (UTb.h1 HTB (Lib.hid H0.out.b)) 0 4 v true p rfl HP.out (by decide) (by decide) (by decide) (by decide) v0 v1).mono ?_); rintro e' w1 ⟨rfl, m1, f1⟩; have hs1 := f1.size; have H1 := Lib.hid (H0.out.code m1 f1); clear m1 f1) | (go_at_call 21; (with_reducible refine (cpwload_at H1.out.o (UTb.h1 HTB (Lib.hid H1.out.b)) 0 4 true rfl (by decide) (by decide) (by decide) (by decide)).mono ?_); rintro e' w2 ⟨rfl, m2, f2⟩; have hs2 := f2.size; have H2 := Lib.hid (H1.out.code m2 f2); clear m2 f2) | (go_at_call 27; (with_reducible refine (cpwoff_w H2.out.o (UTb.h1 HTB (Lib.hid H2.out.b)) ).mono ?_); rintro e' w3 ⟨rfl, m3, f3⟩; have hs3 := f3.size; have H3 := Lib.hid (H2.out.code m3 f3); clear m3 f3) | (go_at_call 27; (with_reducible refine (cpwoff_w H3.out.o (UTb.h1 HTB (Lib.hid H3.out.b)) ).mono ?_); rintro e' w4 ⟨rfl, m4, f4⟩; have hs4 := f4.size; have H4 := Lib.hid (H3.out.code m4 f4); clear m4 f4))
  generalize hhi : w0.heap.size = hi at *
  clear hhi
  go_loopw [14, 15] (fun wv i wr => ∃ (k : Nat) (q : Bool), k ≤ 100 ∧ i = .int .i64 (k : Int) ∧ wv = .bool q ∧ OneP W wr W.heap.size hi g q) (fun _ i _ => 100 - (intOf i).toNat)
  case atStart => exact ⟨0, p, by omega, rfl, rfl, H4.out⟩
  case round =>
    clear H0 H1 H2 H3 H4
    obtain ⟨k, q, hk, rfl, rfl, h⟩ := hrel
    have hWs := h.b.size
    have H := Lib.hid h
    have hL := HRD.out.below h.b
    clear h
    by_cases hlt : k < l.length
    · by_cases h100 : k < 100
      · obtain ⟨bb, oo, rfl, hbb, c, hc, hrow⟩ := hL.at_ hlt
        have q0 := hrow.out
        have hraw := HRAW.out c (List.mem_of_getElem? hc)
        clear hrow hc hL
        obtain ⟨x⟩ := c
        dsimp only [Uv.Raw] at *
        obtain ⟨x0, x1⟩ := hraw
        rw [Nat.mul_one] at q0
        have hj : (k : Int) < 100 := by omega
        have hn : pwS q 0 4 x = (q || x % 4294967296 == 21845) := rfl
        obtain ⟨t, ht⟩ : ∃ t, (x % 4294967296 == 21845) = t := ⟨_, rfl⟩
        rw [ht] at hn
        have HN := Lib.hid hn
        clear hn
        have q1 : ∀ w' : World, Below W.heap.size wr w' → w'.cell? ⟨bb, oo + k, none⟩ = some (.int .u64 x) := fun w' kk => (kk.cell (p := ⟨bb, oo + k, none⟩) hbb).trans q0
        have HQ1 := Lib.hid q1
        clear q1
        cases q <;> cases t
        all_goals
          go_wp2_with (first | (go_at_call 23; (with_reducible refine (cpwstore_at H.out.o (UTb.h1 HTB (Lib.hid H.out.b)) 0 4 x true _ rfl HN.out (by decide) (by decide) (by decide) (by decide) x0 x1).mono ?_); rintro e' w21 ⟨rfl, m21, f21⟩; have hs21 := f21.size; have H21 := Lib.hid (H.out.code m21 f21); have qx := HQ1.out w21 (f21.lows hWs (Nat.le_refl _)); clear m21 f21) | (go_at_call 27; (with_reducible refine (cpwoff_w H21.out.o (UTb.h1 HTB (Lib.hid H21.out.b)) ).mono ?_); rintro e' w22 ⟨rfl, m22, f22⟩; have hs22 := f22.size; have H22 := Lib.hid (H21.out.code m22 f22); clear m22 f22))
          go_roundw
          case rel => exact ⟨k + 1, _, by omega, by go_num, rfl, H22.out⟩
          case measure => simp [intOf]; omega
      · have d0 : decide ((k : Int) < 100) = false := by simp; omega
        clear hL
        go_wp2_with (go_at_call 8; (with_reducible refine (works14_w _ (UTb.h1 HTB (Lib.hid H.out.b))).mono ?_); rintro e' w1 ⟨rfl, b1⟩; have HZ := Lib.hid (H.out.b.trans (b1.mono H.out.b.size)); clear b1)
        go_ret
        exact ⟨rfl, HZ.out⟩
    · clear hL
      have d0 : decide ((k : Int) < (l.length : Int)) = false := by simp; omega
      go_wp2_with (go_at_call 8; (with_reducible refine (works14_w _ (UTb.h1 HTB (Lib.hid H.out.b))).mono ?_); rintro e' w1 ⟨rfl, b1⟩; have HZ := Lib.hid (H.out.b.trans (b1.mono H.out.b.size)); clear b1)
      go_ret
      exact ⟨rfl, HZ.out⟩
set_option maxRecDepth 100000 in
set_option maxHeartbeats 16000000 in
theorem power14_b (off size : Int) (o0 : -9223372036854775808 ≤ off) (o1 : off < 9223372036854775808) (s0 : -9223372036854775808 ≤ size) (s1 : size < 9223372036854775808) (ho : (off == 0) = false) (v : Int) (v0 : 0 ≤ v) (v1 : v < 18446744073709551616) (l : List Uv) (A : Option Addr) (cap : Nat) (W : World) (hrd : RdUv W W.heap.size A l) (hraw : ∀ c ∈ l, c.Raw) (hlen : l.length ≤ 9223372036854775807) (tb : UTb W) :
    Calls Try.prog 6 #[.int .i64 off, .int .i64 size, .int .u64 v, .slice A l.length cap] W fun e w' => e = .returned (.bool true) ∧ Below W.heap.size W w' := by
  have HRD := Lib.hid hrd
  have HRAW := Lib.hid hraw
  have HTB := Lib.hid tb
  clear hrd hraw tb
  have hO : pwO off size = false := by simp [pwO, ho]
  have HO := Lib.hid hO
  have HP := Lib.hid (show pwS false off size v = false by unfold pwS; rw [hO]; rfl)
  clear hO
  go_enter Try.func6, Try.ntmps6
  go_wp2_with (first | (go_at_call 11; (with_reducible refine (cpwnew_w _ HTB.out).mono ?_); rintro e' w0 ⟨g, rfl, m0, b0⟩; have hs0 := b0.size; have H0 := Lib.hid (OneP.mk m0 b0 (Nat.le_refl _)); clear m0 b0) | (go_at_call 23; (with_reducible refine (cpwstore_at H0.out.o (UTb.h1 HTB (Lib.hid H0.out.b)) off size v false false HO.out HP.out o0 o1 s0 s1 v0 v1).mono ?_); rintro e' w1 ⟨rfl, m1, f1⟩; have hs1 := f1.size; have H1 := Lib.hid (H0.out.code m1 f1); clear m1 f1) | (go_at_call 21; (with_reducible refine (cpwload_at H1.out.o (UTb.h1 HTB (Lib.hid H1.out.b)) off size false HO.out o0 o1 s0 s1).mono ?_); rintro e' w2 ⟨rfl, m2, f2⟩; have hs2 := f2.size; have H2 := Lib.hid (H1.out.code m2 f2); clear m2 f2) | (go_at_call 27; (with_reducible refine (cpwoff_w H2.out.o (UTb.h1 HTB (Lib.hid H2.out.b)) ).mono ?_); rintro e' w3 ⟨rfl, m3, f3⟩; have hs3 := f3.size; have H3 := Lib.hid (H2.out.code m3 f3); clear m3 f3) | (go_at_call 27; (with_reducible refine (cpwoff_w H3.out.o (UTb.h1 HTB (Lib.hid H3.out.b)) ).mono ?_); rintro e' w4 ⟨rfl, m4, f4⟩; have hs4 := f4.size; have H4 := Lib.hid (H3.out.code m4 f4); clear m4 f4))
  generalize hhi : w0.heap.size = hi at *
  clear hhi
  go_loopw [14, 15] (fun wv i wr => ∃ (k : Nat) (q : Bool), k ≤ 100 ∧ i = .int .i64 (k : Int) ∧ wv = .bool q ∧ OneP W wr W.heap.size hi g q) (fun _ i _ => 100 - (intOf i).toNat)
  case atStart => exact ⟨0, false, by omega, rfl, rfl, H4.out⟩
  case round =>
    clear H0 H1 H2 H3 H4
    obtain ⟨k, q, hk, rfl, rfl, h⟩ := hrel
    have hWs := h.b.size
    have H := Lib.hid h
    have hL := HRD.out.below h.b
    clear h
    by_cases hlt : k < l.length
    · by_cases h100 : k < 100
      · obtain ⟨bb, oo, rfl, hbb, c, hc, hrow⟩ := hL.at_ hlt
        have q0 := hrow.out
        have hraw := HRAW.out c (List.mem_of_getElem? hc)
        clear hrow hc hL
        obtain ⟨x⟩ := c
        dsimp only [Uv.Raw] at *
        obtain ⟨x0, x1⟩ := hraw
        rw [Nat.mul_one] at q0
        have hj : (k : Int) < 100 := by omega
        have hn : pwS q 0 4 x = (q || x % 4294967296 == 21845) := rfl
        obtain ⟨t, ht⟩ : ∃ t, (x % 4294967296 == 21845) = t := ⟨_, rfl⟩
        rw [ht] at hn
        have HN := Lib.hid hn
        clear hn
        have q1 : ∀ w' : World, Below W.heap.size wr w' → w'.cell? ⟨bb, oo + k, none⟩ = some (.int .u64 x) := fun w' kk => (kk.cell (p := ⟨bb, oo + k, none⟩) hbb).trans q0
        have HQ1 := Lib.hid q1
        clear q1
        cases q <;> cases t
        all_goals
          go_wp2_with (first | (go_at_call 23; (with_reducible refine (cpwstore_at H.out.o (UTb.h1 HTB (Lib.hid H.out.b)) 0 4 x true _ rfl HN.out (by decide) (by decide) (by decide) (by decide) x0 x1).mono ?_); rintro e' w21 ⟨rfl, m21, f21⟩; have hs21 := f21.size; have H21 := Lib.hid (H.out.code m21 f21); have qx := HQ1.out w21 (f21.lows hWs (Nat.le_refl _)); clear m21 f21) | (go_at_call 27; (with_reducible refine (cpwoff_w H21.out.o (UTb.h1 HTB (Lib.hid H21.out.b)) ).mono ?_); rintro e' w22 ⟨rfl, m22, f22⟩; have hs22 := f22.size; have H22 := Lib.hid (H21.out.code m22 f22); clear m22 f22))
          go_roundw
          case rel => exact ⟨k + 1, _, by omega, by go_num, rfl, H22.out⟩
          case measure => simp [intOf]; omega
      · have d0 : decide ((k : Int) < 100) = false := by simp; omega
        clear hL
        go_wp2_with (go_at_call 8; (with_reducible refine (works14_w _ (UTb.h1 HTB (Lib.hid H.out.b))).mono ?_); rintro e' w1 ⟨rfl, b1⟩; have HZ := Lib.hid (H.out.b.trans (b1.mono H.out.b.size)); clear b1)
        go_ret
        exact ⟨rfl, HZ.out⟩
    · clear hL
      have d0 : decide ((k : Int) < (l.length : Int)) = false := by simp; omega
      go_wp2_with (go_at_call 8; (with_reducible refine (works14_w _ (UTb.h1 HTB (Lib.hid H.out.b))).mono ?_); rintro e' w1 ⟨rfl, b1⟩; have HZ := Lib.hid (H.out.b.trans (b1.mono H.out.b.size)); clear b1)
      go_ret
      exact ⟨rfl, HZ.out⟩
set_option maxRecDepth 100000 in
set_option maxHeartbeats 16000000 in
theorem power14_c (size : Int) (s0 : -9223372036854775808 ≤ size) (s1 : size < 9223372036854775808) (hz : (size == 4) = false) (v : Int) (v0 : 0 ≤ v) (v1 : v < 18446744073709551616) (l : List Uv) (A : Option Addr) (cap : Nat) (W : World) (hrd : RdUv W W.heap.size A l) (hraw : ∀ c ∈ l, c.Raw) (hlen : l.length ≤ 9223372036854775807) (tb : UTb W) :
    Calls Try.prog 6 #[.int .i64 0, .int .i64 size, .int .u64 v, .slice A l.length cap] W fun e w' => e = .returned (.bool true) ∧ Below W.heap.size W w' := by
  have HRD := Lib.hid hrd
  have HRAW := Lib.hid hraw
  have HTB := Lib.hid tb
  clear hrd hraw tb
  have hO : pwO 0 size = false := by simp [pwO, hz]
  have HO := Lib.hid hO
  have HP := Lib.hid (show pwS false 0 size v = false by unfold pwS; rw [hO]; rfl)
  clear hO
  go_enter Try.func6, Try.ntmps6
  go_wp2_with (first | (go_at_call 11; (with_reducible refine (cpwnew_w _ HTB.out).mono ?_); rintro e' w0 ⟨g, rfl, m0, b0⟩; have hs0 := b0.size; have H0 := Lib.hid (OneP.mk m0 b0 (Nat.le_refl _)); clear m0 b0) | (go_at_call 23; (with_reducible refine (cpwstore_at H0.out.o (UTb.h1 HTB (Lib.hid H0.out.b)) 0 size v false false HO.out HP.out (by decide) (by decide) s0 s1 v0 v1).mono ?_); rintro e' w1 ⟨rfl, m1, f1⟩; have hs1 := f1.size; have H1 := Lib.hid (H0.out.code m1 f1); clear m1 f1) | (go_at_call 21; (with_reducible refine (cpwload_at H1.out.o (UTb.h1 HTB (Lib.hid H1.out.b)) 0 size false HO.out (by decide) (by decide) s0 s1).mono ?_); rintro e' w2 ⟨rfl, m2, f2⟩; have hs2 := f2.size; have H2 := Lib.hid (H1.out.code m2 f2); clear m2 f2) | (go_at_call 27; (with_reducible refine (cpwoff_w H2.out.o (UTb.h1 HTB (Lib.hid H2.out.b)) ).mono ?_); rintro e' w3 ⟨rfl, m3, f3⟩; have hs3 := f3.size; have H3 := Lib.hid (H2.out.code m3 f3); clear m3 f3) | (go_at_call 27; (with_reducible refine (cpwoff_w H3.out.o (UTb.h1 HTB (Lib.hid H3.out.b)) ).mono ?_); rintro e' w4 ⟨rfl, m4, f4⟩; have hs4 := f4.size; have H4 := Lib.hid (H3.out.code m4 f4); clear m4 f4))
  generalize hhi : w0.heap.size = hi at *
  clear hhi
  go_loopw [14, 15] (fun wv i wr => ∃ (k : Nat) (q : Bool), k ≤ 100 ∧ i = .int .i64 (k : Int) ∧ wv = .bool q ∧ OneP W wr W.heap.size hi g q) (fun _ i _ => 100 - (intOf i).toNat)
  case atStart => exact ⟨0, false, by omega, rfl, rfl, H4.out⟩
  case round =>
    clear H0 H1 H2 H3 H4
    obtain ⟨k, q, hk, rfl, rfl, h⟩ := hrel
    have hWs := h.b.size
    have H := Lib.hid h
    have hL := HRD.out.below h.b
    clear h
    by_cases hlt : k < l.length
    · by_cases h100 : k < 100
      · obtain ⟨bb, oo, rfl, hbb, c, hc, hrow⟩ := hL.at_ hlt
        have q0 := hrow.out
        have hraw := HRAW.out c (List.mem_of_getElem? hc)
        clear hrow hc hL
        obtain ⟨x⟩ := c
        dsimp only [Uv.Raw] at *
        obtain ⟨x0, x1⟩ := hraw
        rw [Nat.mul_one] at q0
        have hj : (k : Int) < 100 := by omega
        have hn : pwS q 0 4 x = (q || x % 4294967296 == 21845) := rfl
        obtain ⟨t, ht⟩ : ∃ t, (x % 4294967296 == 21845) = t := ⟨_, rfl⟩
        rw [ht] at hn
        have HN := Lib.hid hn
        clear hn
        have q1 : ∀ w' : World, Below W.heap.size wr w' → w'.cell? ⟨bb, oo + k, none⟩ = some (.int .u64 x) := fun w' kk => (kk.cell (p := ⟨bb, oo + k, none⟩) hbb).trans q0
        have HQ1 := Lib.hid q1
        clear q1
        cases q <;> cases t
        all_goals
          go_wp2_with (first | (go_at_call 23; (with_reducible refine (cpwstore_at H.out.o (UTb.h1 HTB (Lib.hid H.out.b)) 0 4 x true _ rfl HN.out (by decide) (by decide) (by decide) (by decide) x0 x1).mono ?_); rintro e' w21 ⟨rfl, m21, f21⟩; have hs21 := f21.size; have H21 := Lib.hid (H.out.code m21 f21); have qx := HQ1.out w21 (f21.lows hWs (Nat.le_refl _)); clear m21 f21) | (go_at_call 27; (with_reducible refine (cpwoff_w H21.out.o (UTb.h1 HTB (Lib.hid H21.out.b)) ).mono ?_); rintro e' w22 ⟨rfl, m22, f22⟩; have hs22 := f22.size; have H22 := Lib.hid (H21.out.code m22 f22); clear m22 f22))
          go_roundw
          case rel => exact ⟨k + 1, _, by omega, by go_num, rfl, H22.out⟩
          case measure => simp [intOf]; omega
      · have d0 : decide ((k : Int) < 100) = false := by simp; omega
        clear hL
        go_wp2_with (go_at_call 8; (with_reducible refine (works14_w _ (UTb.h1 HTB (Lib.hid H.out.b))).mono ?_); rintro e' w1 ⟨rfl, b1⟩; have HZ := Lib.hid (H.out.b.trans (b1.mono H.out.b.size)); clear b1)
        go_ret
        exact ⟨rfl, HZ.out⟩
    · clear hL
      have d0 : decide ((k : Int) < (l.length : Int)) = false := by simp; omega
      go_wp2_with (go_at_call 8; (with_reducible refine (works14_w _ (UTb.h1 HTB (Lib.hid H.out.b))).mono ?_); rintro e' w1 ⟨rfl, b1⟩; have HZ := Lib.hid (H.out.b.trans (b1.mono H.out.b.size)); clear b1)
      go_ret
      exact ⟨rfl, HZ.out⟩
theorem power14_w (off size v : Int) (o0 : -9223372036854775808 ≤ off) (o1 : off < 9223372036854775808) (s0 : -9223372036854775808 ≤ size) (s1 : size < 9223372036854775808) (v0 : 0 ≤ v) (v1 : v < 18446744073709551616) (l : List Uv) (A : Option Addr) (cap : Nat) (W : World) (hrd : RdUv W W.heap.size A l) (hraw : ∀ c ∈ l, c.Raw) (hlen : l.length ≤ 9223372036854775807) (tb : UTb W) :
    Calls Try.prog 6 #[.int .i64 off, .int .i64 size, .int .u64 v, .slice A l.length cap] W fun e w' => e = .returned (.bool true) ∧ Below W.heap.size W w' := by
  by_cases h : off = 0
  · subst h
    by_cases h4 : size = 4
    · subst h4; exact power14_a v v0 v1 l A cap W hrd hraw hlen tb
    · exact power14_c size s0 s1 (by simpa using h4) v v0 v1 l A cap W hrd hraw hlen tb
  · exact power14_b off size o0 o1 s0 s1 (by simpa using h) v v0 v1 l A cap W hrd hraw hlen tb
end Go.Proofs.Ytnimpgamiagedaa
