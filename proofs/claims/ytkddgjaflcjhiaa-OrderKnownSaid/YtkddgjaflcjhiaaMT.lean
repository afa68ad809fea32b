/-
  The contracts of the document's Less and 'with': is a capability no more than another one; is there one that may open, or seal with, a type? Capabilities' numbers are in their places.
  The contract of the document's 'with': is there one with a tag, not sealed, with a permission, and a type in its bounds? Capabilities' numbers are in their places, the type is one that can be sealed with.
  The contract of the document's Close: it tells the closure, in memory of its own. Capabilities' numbers are in their places, at most a thousand of them.
  The contract of the document's Has: it tells what order's Has tells. Capabilities' numbers are in their places, at most a thousand of them.
  Contracts of the lists that laws lend: their marks, a list that is written over, one that is looked at again. Lists of a thousand at most.
  The contract of LentCaps: the list, and five marks behind it, in new memory. Lists of a thousand at most.
  OrderTells: what comes of some is told in new memory, and whether another one does; what is handed in stays: the walk of the law. No condition.
-/
import Derived.Test.YtkddgjaflcjhiaaMF
import Derived.Test.YtkddgjaflcjhiaaOSmall
import Derived.Test.YtkddgjaflcjhiaaMC
import Derived.Test.YtkddgjaflcjhiaaOThere
import Derived.Test.YtkddgjaflcjhiaaOHas
import Derived.StillTailTactics
import Derived.Test.YtkddgjaflcjhiaaOMath
import Derived.Test.YtkddgjaflcjhiaaOSame
import Derived.LoopN
import Derived.Test.YtkddgjaflcjhiaaOHasL
import Derived.Test.YtkddgjaflcjhiaaOWorks
namespace Go.Proofs.Ytkddgjaflcjhiaa
open Go.ChangeShapes Go.WideShapes Go.ChangeAt Go.RowKit
set_option linter.unusedVariables false
set_option linter.unusedSimpArgs false

theorem hasP_two (pe : Int) (j : Nat) (hj : j < 62) (p0 : 0 ≤ pe) (p1 : pe < 65536) (p : Int) (hp : ((2 ^ j : Nat) : Int) = p) : hasP pe p = (pe / p % 2 == 1) := by
  have hq : 2 ^ j ≤ 2 ^ 61 := Nat.pow_le_pow_right (by omega) (by omega)
  have hpos : 0 < 2 ^ j := Nat.two_pow_pos j
  have hv : ∀ i, i < 64 → (bv p).getLsbD i = decide (i = j) := by rw [← hp]; exact fun i hi => bv_one j (by omega) i hi
  obtain ⟨m, hm⟩ : ∃ m : Nat, 2 ^ j = m := ⟨_, rfl⟩
  rw [hm] at hp hq hpos
  have hb : (bv pe).getLsbD j = (pe / p % 2 == 1) := by
    obtain ⟨n, rfl⟩ := Int.eq_ofNat_of_zero_le p0
    unfold bv
    rw [BitVec.ofInt_natCast, BitVec.getLsbD_ofNat, Nat.testBit_eq_decide_div_mod_eq, Bool.eq_iff_iff, hm, ← hp]
    have h64 : j < 64 := by omega
    simp only [h64, decide_true, Bool.true_and, decide_eq_true_eq, beq_iff_eq]
    have e : ((n : Int) / (m : Int) % 2) = ((n / m % 2 : Nat) : Int) := by simp
    rw [e]; omega
  rw [← hb]
  unfold hasP
  rw [and_ub]
  cases h : (bv pe).getLsbD j
  · have e : bv pe &&& bv p = 0#64 := by
      rw [bit_iff]; intro k hk
      rw [BitVec.getLsbD_and, hv k hk]
      by_cases e : k = j
      · subst e; rw [h]; rfl
      · simp [e]
    rw [e]
    have e0 : ub 0#64 = 0 := (ub_0 _).2 rfl
    rw [e0]; simp; omega
  · have e : bv pe &&& bv p = bv p := by
      apply BitVec.eq_of_getLsbD_eq; intro k hk
      rw [BitVec.getLsbD_and, hv k hk]
      by_cases e : k = j
      · subst e; rw [h]; rfl
      · simp [e]
    rw [e, ub_bv _ (by omega) (by omega)]; simp
theorem or_per (x y : Int) (x0 : 0 ≤ x) (x1 : x < 65536) (y0 : 0 ≤ y) (y1 : y < 65536) : (bits .or .i64 x y == y) = perB y x := by
  rw [Bool.eq_iff_iff, per_bits, beq_iff_eq]
  have hy : ub (bv y) = y := ub_bv y (by omega) (by omega)
  constructor
  · intro h i hi hx
    rw [or_ub] at h
    have h2 : bv x ||| bv y = bv y := by rw [← bv_ub (bv x ||| bv y), h]
    have h3 : (bv x ||| bv y).getLsbD i = true := by rw [BitVec.getLsbD_or, hx]; rfl
    rw [h2] at h3; exact h3
  · intro h
    rw [or_ub]
    have h2 : bv x ||| bv y = bv y := by
      apply BitVec.eq_of_getLsbD_eq
      intro i hi
      rw [BitVec.getLsbD_or]
      cases hx : (bv x).getLsbD i
      · simp
      · rw [h i hi hx]; rfl
    rw [h2, hy]
theorem rwi_c (e b t : Int) (g : Bool) (a de db dt : Int) (dg : Bool) (da : Int) (x : Bool) (h : wiB e b t g a de db dt dg da = x) (w : World) :
    Calls Try.prog 59 #[.agg #[.int .u64 (ofB de db da), .int .u64 (ofT de db dt dg da), .bool (ofO de db dt dg da)], .agg #[.int .u64 (ofB e b a), .int .u64 (ofT e b t g a), .bool (ofO e b t g a)]] w fun e' w' => e' = .returned (.bool x) ∧ Kp w w' := by
  rw [← h]
  exact rwithin_w _ _ _ _ _ _ (ofT_bd de db dt dg da).1 (ofT_bd de db dt dg da).2 (ofT_bd e b t g a).1 (ofT_bd e b t g a).2 w
theorem rsealed9 (tg : Bool) (pe ty mo e b t : Int) (g : Bool) (a : Int) (v : Bool) (hv : sealedB ty = v) (w : World) : Calls Try.prog 58 #[.agg #[tg, pe, ty, mo, e, b, t, g, .int .u64 a]] w fun e' w' => e' = .returned (.bool v) ∧ Kp w w' := rsealed_w ⟨tg, pe, ty, mo, e, b, t, g, a⟩ v hv w
theorem less_sym (x y : Cp) (hx : RC x) (hy : RC y) : lessB x y = (x.tg && y.tg && !x.sealed && !y.sealed && (bits .or .i64 x.pe y.pe == y.pe) && wiB y.e y.b y.t y.g y.a x.e x.b x.t x.g x.a) := by
  rw [or_per _ _ hx.p0 hx.p1 hy.p0 hy.p1]
  unfold lessB subB
  cases x.tg <;> cases y.tg <;> cases x.sealed <;> cases y.sealed <;> cases perB y.pe x.pe <;> simp
set_option maxHeartbeats 2000000 in
set_option maxRecDepth 100000 in
theorem rless_w (x y : Cp) (hx : RC x) (hy : RC y) (v : Bool) (hv : lessB x y = v) (w : World) : Calls Try.prog 26 #[.agg #[x.tg, x.pe, x.ty, x.mo, x.e, x.b, x.t, x.g, .int .u64 x.a], .agg #[y.tg, y.pe, y.ty, y.mo, y.e, y.b, y.t, y.g, .int .u64 y.a]] w fun e' w' => e' = .returned (.bool v) ∧ Kp w w' := by
  rw [less_sym x y hx hy] at hv
  have HX := Lib.hid hx.f
  have HY := Lib.hid hy.f
  clear hx hy
  obtain ⟨ctg, cpe, cty, cmo, ce, cb, ct, cg, ca⟩ := x
  obtain ⟨dtg, dpe, dty, dmo, de, db, dt, dg, da⟩ := y
  dsimp only at HX HY
  simp only [Cp.sealed] at hv
  obtain ⟨sb, hsb⟩ : ∃ sb, wiB de db dt dg da ce cb ct cg ca = sb := ⟨_, rfl⟩
  obtain ⟨po, hpo⟩ : ∃ po, (bits .or .i64 cpe dpe == dpe) = po := ⟨_, rfl⟩
  rw [hsb, hpo] at hv
  have HSB := Lib.hid hsb
  have hpo' : (bits .or .i64 cpe dpe != dpe) = !po := by rw [← hpo]; rfl
  clear hsb
  cases ctg
  · obtain rfl : false = v := by simpa using hv
    clear hv hpo hpo'
    go_enter Try.func26, Try.ntmps26
    go_wp2
    go_ret
    exact ⟨rfl, ((Kp.refl w).allocs _ _).allocs _ _⟩
  · cases dtg
    · obtain rfl : false = v := by simpa using hv
      clear hv hpo hpo'
      go_enter Try.func26, Try.ntmps26
      go_wp2
      go_ret
      exact ⟨rfl, ((Kp.refl w).allocs _ _).allocs _ _⟩
    · cases hc : sealedB cty <;> cases hd : sealedB dty <;> cases po
      all_goals
        rw [hc, hd] at hv
        have HC := Lib.hid hc
        have HD := Lib.hid hd
        clear hc hd
        simp only [Bool.not_true, Bool.not_false, Bool.and_false, Bool.false_and, Bool.true_and, Bool.and_true] at hv hpo'
        subst hv
        have HPO := Lib.hid hpo
        clear hpo
        go_enter Try.func26, Try.ntmps26
        go_wp2_with (first
          | (go_at_call 58; (with_reducible refine (rsealed9 true cpe cty cmo ce cb ct cg ca _ HC.out _).mono ?_); rintro e' w1 ⟨rfl, qk⟩; have HKw1 := Lib.hid qk; have qw10 : w1.cell? ⟨w.heap.size, 0, none⟩ = some (.bool true) := qk.c; have qw11 : w1.cell? ⟨w.heap.size, 1, none⟩ = some (.int .i64 cpe) := qk.c; have qw12 : w1.cell? ⟨w.heap.size, 2, none⟩ = some (.int .i64 cty) := qk.c; have qw13 : w1.cell? ⟨w.heap.size, 3, none⟩ = some (.int .i64 cmo) := qk.c; have qw14 : w1.cell? ⟨w.heap.size, 4, none⟩ = some (.int .i64 ce) := qk.c; have qw15 : w1.cell? ⟨w.heap.size, 5, none⟩ = some (.int .i64 cb) := qk.c; have qw16 : w1.cell? ⟨w.heap.size, 6, none⟩ = some (.int .i64 ct) := qk.c; have qw17 : w1.cell? ⟨w.heap.size, 7, none⟩ = some (.bool cg) := qk.c; have qw18 : w1.cell? ⟨w.heap.size, 8, none⟩ = some (.int .u64 ca) := qk.c; have qw19 : w1.cell? ⟨w.heap.size + 1, 0, none⟩ = some (.bool true) := qk.c; have qw110 : w1.cell? ⟨w.heap.size + 1, 1, none⟩ = some (.int .i64 dpe) := qk.c; have qw111 : w1.cell? ⟨w.heap.size + 1, 2, none⟩ = some (.int .i64 dty) := qk.c; have qw112 : w1.cell? ⟨w.heap.size + 1, 3, none⟩ = some (.int .i64 dmo) := qk.c; have qw113 : w1.cell? ⟨w.heap.size + 1, 4, none⟩ = some (.int .i64 de) := qk.c; have qw114 : w1.cell? ⟨w.heap.size + 1, 5, none⟩ = some (.int .i64 db) := qk.c; have qw115 : w1.cell? ⟨w.heap.size + 1, 6, none⟩ = some (.int .i64 dt) := qk.c; have qw116 : w1.cell? ⟨w.heap.size + 1, 7, none⟩ = some (.bool dg) := qk.c; have qw117 : w1.cell? ⟨w.heap.size + 1, 8, none⟩ = some (.int .u64 da) := qk.c; have K1 := Lib.hid (Kp.trans (((Kp.refl w).allocs _ _).allocs _ _) qk); have s1 := qk.size; (try simp at s1); clear qk)
          | (go_at_call 58; (with_reducible refine (rsealed9 true dpe dty dmo de db dt dg da _ HD.out _).mono ?_); rintro e' w2 ⟨rfl, qk⟩; have HKw2 := Lib.hid qk; have qw20 : w2.cell? ⟨w.heap.size, 0, none⟩ = some (.bool true) := qk.c; have qw21 : w2.cell? ⟨w.heap.size, 1, none⟩ = some (.int .i64 cpe) := qk.c; have qw22 : w2.cell? ⟨w.heap.size, 2, none⟩ = some (.int .i64 cty) := qk.c; have qw23 : w2.cell? ⟨w.heap.size, 3, none⟩ = some (.int .i64 cmo) := qk.c; have qw24 : w2.cell? ⟨w.heap.size, 4, none⟩ = some (.int .i64 ce) := qk.c; have qw25 : w2.cell? ⟨w.heap.size, 5, none⟩ = some (.int .i64 cb) := qk.c; have qw26 : w2.cell? ⟨w.heap.size, 6, none⟩ = some (.int .i64 ct) := qk.c; have qw27 : w2.cell? ⟨w.heap.size, 7, none⟩ = some (.bool cg) := qk.c; have qw28 : w2.cell? ⟨w.heap.size, 8, none⟩ = some (.int .u64 ca) := qk.c; have qw29 : w2.cell? ⟨w.heap.size + 1, 0, none⟩ = some (.bool true) := qk.c; have qw210 : w2.cell? ⟨w.heap.size + 1, 1, none⟩ = some (.int .i64 dpe) := qk.c; have qw211 : w2.cell? ⟨w.heap.size + 1, 2, none⟩ = some (.int .i64 dty) := qk.c; have qw212 : w2.cell? ⟨w.heap.size + 1, 3, none⟩ = some (.int .i64 dmo) := qk.c; have qw213 : w2.cell? ⟨w.heap.size + 1, 4, none⟩ = some (.int .i64 de) := qk.c; have qw214 : w2.cell? ⟨w.heap.size + 1, 5, none⟩ = some (.int .i64 db) := qk.c; have qw215 : w2.cell? ⟨w.heap.size + 1, 6, none⟩ = some (.int .i64 dt) := qk.c; have qw216 : w2.cell? ⟨w.heap.size + 1, 7, none⟩ = some (.bool dg) := qk.c; have qw217 : w2.cell? ⟨w.heap.size + 1, 8, none⟩ = some (.int .u64 da) := qk.c; have K2 := Lib.hid (Kp.trans K1.out qk); have s2 := qk.size; clear qk))
        first
          | (go_ret; first | exact ⟨rfl, K2.out⟩ | exact ⟨rfl, K1.out⟩)
          | skip
      have k0 : Bh w (w.heap.size + 2) w2 := ⟨K2.out, by omega, by omega⟩
      have A0 : At w.heap.size [true, cpe, cty, cmo, ce, cb, ct, cg, .int .u64 ca] w2 := At.of9 (by assumption) (by assumption) (by assumption) (by assumption) (by assumption) (by assumption) (by assumption) (by assumption) (by assumption)
      have A1 : At (w.heap.size + 1) [true, dpe, dty, dmo, de, db, dt, dg, .int .u64 da] w2 := At.of9 (by assumption) (by assumption) (by assumption) (by assumption) (by assumption) (by assumption) (by assumption) (by assumption) (by assumption)
      refine wp_region_held_drew (S := (fun w' => At (w.heap.size) [true, cpe, cty, cmo, ce, cb, ct, cg, .int .u64 ca] w' ∧ At (w.heap.size + 1) [true, dpe, dty, dmo, de, db, dt, dg, .int .u64 da] w' ∧ Bh w (w.heap.size + 2) w')) (by kernel_rfl) ⟨At.drew (by with_reducible assumption), At.drew (by with_reducible assumption), Bh.drew (by with_reducible assumption)⟩ (fun hS => ?_)
      (refine tk 0 ?_ rfl (Or.inl ⟨by rfl, ?_⟩) hS ?_; rotate_left; focus (intro w' hSw; obtain ⟨s0, s1, sb⟩ := hSw; obtain ⟨_, _, _, _, _, _, _, _, _⟩ := s0.out9; obtain ⟨_, _, _, _, _, _, _, _, _⟩ := s1.out9; go_simp <;> try with_reducible rfl))
      try simp only [Act.put, zA, zB, zC]
      (refine tk 2 ?_ rfl (Or.inl ⟨by rfl, ?_⟩) hS ?_; rotate_left; focus (intro w' hSw; obtain ⟨s0, s1, sb⟩ := hSw; obtain ⟨_, _, _, _, _, _, _, _, _⟩ := s0.out9; obtain ⟨_, _, _, _, _, _, _, _, _⟩ := s1.out9; go_simp <;> try with_reducible rfl))
      try simp only [Act.put, zA, zB, zC]
      refine rdy 1 rfl (fun K hK => ?_)
      (first | (refine take_if (by rfl) ?_; obtain ⟨s0, s1, sb⟩ := hS; go_simp; (with_reducible refine (refOf_w true cpe cty cmo ce cb ct cg ca HX.out _).mono ?_); rintro e' w' ⟨rfl, qk⟩; have t0 := At.kp s0 qk (Nat.lt_of_lt_of_le (show w.heap.size < w.heap.size + 2 by omega) sb.le); have t1 := At.kp s1 qk (Nat.lt_of_lt_of_le (show w.heap.size + 1 < w.heap.size + 2 by omega) sb.le); have tb := Bh.step sb qk; clear qk; refine hK.out _ _ ⟨t0, t1, tb⟩ (fun hS => ?_)) | (refine take_if (by rfl) ?_; obtain ⟨s0, s1, sb⟩ := hS; go_simp; (with_reducible refine (refOf_w true dpe dty dmo de db dt dg da HY.out _).mono ?_); rintro e' w' ⟨rfl, qk⟩; have t0 := At.kp s0 qk (Nat.lt_of_lt_of_le (show w.heap.size < w.heap.size + 2 by omega) sb.le); have t1 := At.kp s1 qk (Nat.lt_of_lt_of_le (show w.heap.size + 1 < w.heap.size + 2 by omega) sb.le); have tb := Bh.step sb qk; clear qk; refine hK.out _ _ ⟨t0, t1, tb⟩ (fun hS => ?_)))
      clear hK K
      try simp only [Act.put, zA, zB, zC]
      refine rdy 3 rfl (fun K hK => ?_)
      (first | (refine take_if (by rfl) ?_; obtain ⟨s0, s1, sb⟩ := hS; go_simp; (with_reducible refine (refOf_w true cpe cty cmo ce cb ct cg ca HX.out _).mono ?_); rintro e' w' ⟨rfl, qk⟩; have t0 := At.kp s0 qk (Nat.lt_of_lt_of_le (show w.heap.size < w.heap.size + 2 by omega) sb.le); have t1 := At.kp s1 qk (Nat.lt_of_lt_of_le (show w.heap.size + 1 < w.heap.size + 2 by omega) sb.le); have tb := Bh.step sb qk; clear qk; refine hK.out _ _ ⟨t0, t1, tb⟩ (fun hS => ?_)) | (refine take_if (by rfl) ?_; obtain ⟨s0, s1, sb⟩ := hS; go_simp; (with_reducible refine (refOf_w true dpe dty dmo de db dt dg da HY.out _).mono ?_); rintro e' w' ⟨rfl, qk⟩; have t0 := At.kp s0 qk (Nat.lt_of_lt_of_le (show w.heap.size < w.heap.size + 2 by omega) sb.le); have t1 := At.kp s1 qk (Nat.lt_of_lt_of_le (show w.heap.size + 1 < w.heap.size + 2 by omega) sb.le); have tb := Bh.step sb qk; clear qk; refine hK.out _ _ ⟨t0, t1, tb⟩ (fun hS => ?_)))
      clear hK K
      try simp only [Act.put, zA, zB, zC]
      refine rdy 4 rfl (fun K hK => ?_)
      (refine take_if (by rfl) ?_; obtain ⟨s0, s1, sb⟩ := hS; go_simp; (with_reducible refine (rwi_c _ _ _ _ _ _ _ _ _ _ _ HSB.out _).mono ?_); rintro e' w' ⟨rfl, qk⟩; have t0 := At.kp s0 qk (Nat.lt_of_lt_of_le (show w.heap.size < w.heap.size + 2 by omega) sb.le); have t1 := At.kp s1 qk (Nat.lt_of_lt_of_le (show w.heap.size + 1 < w.heap.size + 2 by omega) sb.le); have tb := Bh.step sb qk; clear qk; refine hK.out _ _ ⟨t0, t1, tb⟩ (fun hS => ?_))
      clear hK K
      try simp only [Act.put, zA, zB, zC]
      (refine tk 5 ?_ rfl (Or.inl ⟨by rfl, ?_⟩) hS ?_; rotate_left; focus (intro w' hSw; obtain ⟨s0, s1, sb⟩ := hSw; go_simp <;> try with_reducible rfl))
      try simp only [Act.put, zA, zB, zC]
      refine wpAnyH_done (by kernel_rfl) ?_ _
      obtain ⟨s0, s1, sb⟩ := hS
      obtain ⟨_, _, _, _, _, _, _, _, _⟩ := s0.out9; obtain ⟨_, _, _, _, _, _, _, _, _⟩ := s1.out9
      go_wp2
      go_ret
      exact ⟨rfl, sb.kp⟩
end Go.Proofs.Ytkddgjaflcjhiaa
namespace Go.Proofs.Ytkddgjaflcjhiaa
open Go.ChangeShapes Go.WideShapes Go.ChangeAt Go.RowKit
set_option linter.unusedVariables false
set_option linter.unusedSimpArgs false
set_option maxHeartbeats 2000000 in
set_option maxRecDepth 100000 in
theorem with256_w (L : List Cp) (A : Option Addr) (n : Nat) (kd : Int) (hL : ∀ c ∈ L, RC c) (k0 : 0 ≤ kd) (k1 : kd ≤ 262135) (w : World) (h : Rd w w.heap.size A L) (hl : L.length ≤ 1000000) :
    Calls Try.prog 56 #[.slice A L.length n, .int .i64 256, kd] w fun e' w' => e' = .returned (.bool (L.any (fun x => x.tg && canD x 256 kd))) ∧ Kp w w' := by
  have HR := Lib.hid h
  have HL := Lib.hid hL
  clear h hL
  go_enter Try.func56, Try.ntmps56
  go_wp2
  go_loopw [7] (fun i wr => ∃ k : Nat, k ≤ L.length ∧ i = .int .i64 k ∧ (∀ c ∈ L.take k, (c.tg && canD c 256 kd) = false) ∧ Kp w wr) (fun i _ => L.length - (intOf i).toNat)
  case atStart => exact ⟨0, Nat.zero_le _, rfl, by simp, Kp.refl w⟩
  case round =>
    obtain ⟨k, hk, rfl, hx, hkp⟩ := hrel
    have HX := Lib.hid hx
    have HKP := Lib.hid hkp
    have hws : w.heap.size ≤ wr.heap.size := hkp.size
    clear hx hkp
    by_cases hlt : k < L.length
    · obtain ⟨b, o, rfl, hb, c, hc, hr⟩ := (HR.out.kp HKP.out (Nat.le_refl _)).at_ hlt
      obtain ⟨r0, r1, r2, r3, r4, r5, r6, r7, r8⟩ := hr.out
      have hcm := List.mem_of_getElem? hc
      have RCc := HL.out c hcm
      have hb' : b < wr.heap.size := by omega
      have HC := Lib.hid hc
      have hP := hasP_two c.pe 8 (by omega) RCc.p0 RCc.p1 256 (by decide)
      have hfin : ∀ d ∈ L.take (k + 1), d ∈ L.take k ∨ d = c := by
        intro d hd
        rw [List.take_add_one, HC.out] at hd
        rcases List.mem_append.1 hd with hd | hd
        · exact Or.inl hd
        · exact Or.inr (by simpa using hd)
      have HFN := Lib.hid hfin
      have HCM := Lib.hid hcm
      have p0 := RCc.p0
      have p1 := RCc.p1
      have HF := Lib.hid RCc.f
      obtain ⟨v, hv⟩ : ∃ v, (c.tg && canD c 256 kd) = v := ⟨_, rfl⟩
      have HV := Lib.hid hv
      simp only [canD, Cp.sealed, hP, rngIn, namesB, k1, decide_true, Bool.true_and] at hv
      clear hc hr hcm RCc hfin hP
      have fin_no : v = false → ∀ d ∈ L.take (k + 1), (d.tg && canD d 256 kd) = false := fun e d hd => by
        rcases HFN.out d hd with h | h
        · exact HX.out d h
        · subst h; rw [HV.out, e]
      have fin_yes : v = true → L.any (fun x => x.tg && canD x 256 kd) = true := fun e => List.any_eq_true.2 ⟨c, HCM.out, by rw [HV.out, e]⟩
      have HNO := Lib.hid fin_no
      have HYES := Lib.hid fin_yes
      clear fin_no fin_yes HFN HCM HV HC HX
      obtain ⟨ctg, cpe, cty, cmo, ce, cb, ct, cg, ca⟩ := c
      dsimp only at r0 r1 r2 r3 r4 r5 r6 r7 r8 hv p0 p1 HF
      obtain ⟨pb, hpb⟩ : ∃ pb, (cpe / 256 % 2 == 1) = pb := ⟨_, rfl⟩
      obtain ⟨RB, hRB⟩ : ∃ RB, ofB ce cb ca = RB := ⟨_, rfl⟩
      obtain ⟨RT, hRT⟩ : ∃ RT, ofT ce cb ct cg ca = RT := ⟨_, rfl⟩
      obtain ⟨RO, hRO⟩ : ∃ RO, ofO ce cb ct cg ca = RO := ⟨_, rfl⟩
      have HOF : ∀ w, Calls Try.prog 60 #[.agg #[ctg, cpe, cty, cmo, ce, cb, ct, cg, .int .u64 ca]] w fun e' w' => e' = .returned (.agg #[.int .u64 RB, .int .u64 RT, RO]) ∧ Kp w w' := fun w => hRB ▸ hRT ▸ hRO ▸ refOf_w ctg cpe cty cmo ce cb ct cg ca HF.out w
      have T := ofs_bd ce cb ct cg ca
      rw [hRT] at T
      obtain ⟨t0, t1⟩ := T
      rw [hRB, hRT, hRO, hpb] at hv
      obtain ⟨ib, hib⟩ : ∃ ib, inB RB RT RO kd 1 = ib := ⟨_, rfl⟩
      rw [hib] at hv
      have HIN : ∀ w, Calls Try.prog 81 #[.agg #[.int .u64 RB, .int .u64 RT, RO], .int .u64 kd, .int .i64 1] w fun e' w' => e' = .returned (.bool ib) ∧ Kp w w' := fun w => hib ▸ rin_w RB RT RO kd 1 t0 t1 k0 (by omega) (by omega) (by omega) w
      have hkw : IntKind.u64.wrap kd = kd := by rw [IntKind.wrap_u64]; omega
      have HO := Lib.hid HOF
      have HI := Lib.hid HIN
      clear hRB hRT hRO hib HOF HIN
      cases ctg
      · obtain rfl : false = v := by simpa using hv
        clear hv hpb
        go_wp2
        go_roundw
        case rel => exact ⟨k + 1, by omega, by go_num, HNO.out (by first | rfl | trivial), HKP.out⟩
        case measure => simp [intOf]; omega
      · cases hs : sealedB cty <;> cases pb <;> cases ib
        all_goals
          rw [hs] at hv
          simp only [Bool.not_true, Bool.not_false, Bool.and_false, Bool.false_and, Bool.true_and, Bool.and_true] at hv
          have HS := Lib.hid hs
          subst hv
          clear hs
          go_wp2_with (first
            | (go_at_call 58; (with_reducible refine (rsealed9 true cpe cty cmo ce cb ct cg ca _ HS.out _).mono ?_); rintro e' w1 ⟨rfl, qk⟩; have HKw1 := Lib.hid qk; have qw10 : w1.cell? ⟨b, o + k * 9, none⟩ = some (.bool true) := qk.c; have qw11 : w1.cell? ⟨b, o + k * 9 + 1, none⟩ = some (.int .i64 cpe) := qk.c; have qw12 : w1.cell? ⟨b, o + k * 9 + 2, none⟩ = some (.int .i64 cty) := qk.c; have qw13 : w1.cell? ⟨b, o + k * 9 + 3, none⟩ = some (.int .i64 cmo) := qk.c; have qw14 : w1.cell? ⟨b, o + k * 9 + 4, none⟩ = some (.int .i64 ce) := qk.c; have qw15 : w1.cell? ⟨b, o + k * 9 + 5, none⟩ = some (.int .i64 cb) := qk.c; have qw16 : w1.cell? ⟨b, o + k * 9 + 6, none⟩ = some (.int .i64 ct) := qk.c; have qw17 : w1.cell? ⟨b, o + k * 9 + 7, none⟩ = some (.bool cg) := qk.c; have qw18 : w1.cell? ⟨b, o + k * 9 + 8, none⟩ = some (.int .u64 ca) := qk.c; have K1 := Lib.hid (Kp.trans HKP.out qk); have s1 := qk.size; clear qk)
            | (go_at_call 60; (with_reducible refine (HO.out _).mono ?_); rintro e' w2 ⟨rfl, qk⟩; have HKw2 := Lib.hid qk; have K2 := Lib.hid (Kp.trans K1.out qk); clear qk)
            | (go_at_call 81; (with_reducible refine (HI.out _).mono ?_); rintro e' w3 ⟨rfl, qk⟩; have HKw3 := Lib.hid qk; have K3 := Lib.hid (Kp.trans K2.out qk); clear qk))
        all_goals first
          | (go_roundw
             case rel => exact ⟨k + 1, by omega, by go_num, HNO.out (by first | rfl | trivial), by first | exact K3.out | exact K1.out⟩
             case measure => simp [intOf]; omega)
          | (go_ret
             exact ⟨ret_bool (HYES.out (by first | rfl | trivial)).symm, K3.out⟩)
    · go_wp2
      go_ret
      exact ⟨ret_bool (by rw [eq_comm, List.any_eq_false]; have e : L.take k = L := List.take_of_length_le (by omega); rw [e] at HX; exact fun x hx => by simp [HX.out x hx]), HKP.out⟩
set_option maxHeartbeats 2000000 in
set_option maxRecDepth 100000 in
theorem with128_w (L : List Cp) (A : Option Addr) (n : Nat) (kd : Int) (hL : ∀ c ∈ L, RC c) (k0 : 0 ≤ kd) (k1 : kd ≤ 262135) (w : World) (h : Rd w w.heap.size A L) (hl : L.length ≤ 1000000) :
    Calls Try.prog 56 #[.slice A L.length n, .int .i64 128, kd] w fun e' w' => e' = .returned (.bool (L.any (fun x => x.tg && canD x 128 kd))) ∧ Kp w w' := by
  have HR := Lib.hid h
  have HL := Lib.hid hL
  clear h hL
  go_enter Try.func56, Try.ntmps56
  go_wp2
  go_loopw [7] (fun i wr => ∃ k : Nat, k ≤ L.length ∧ i = .int .i64 k ∧ (∀ c ∈ L.take k, (c.tg && canD c 128 kd) = false) ∧ Kp w wr) (fun i _ => L.length - (intOf i).toNat)
  case atStart => exact ⟨0, Nat.zero_le _, rfl, by simp, Kp.refl w⟩
  case round =>
    obtain ⟨k, hk, rfl, hx, hkp⟩ := hrel
    have HX := Lib.hid hx
    have HKP := Lib.hid hkp
    have hws : w.heap.size ≤ wr.heap.size := hkp.size
    clear hx hkp
    by_cases hlt : k < L.length
    · obtain ⟨b, o, rfl, hb, c, hc, hr⟩ := (HR.out.kp HKP.out (Nat.le_refl _)).at_ hlt
      obtain ⟨r0, r1, r2, r3, r4, r5, r6, r7, r8⟩ := hr.out
      have hcm := List.mem_of_getElem? hc
      have RCc := HL.out c hcm
      have hb' : b < wr.heap.size := by omega
      have HC := Lib.hid hc
      have hP := hasP_two c.pe 7 (by omega) RCc.p0 RCc.p1 128 (by decide)
      have hfin : ∀ d ∈ L.take (k + 1), d ∈ L.take k ∨ d = c := by
        intro d hd
        rw [List.take_add_one, HC.out] at hd
        rcases List.mem_append.1 hd with hd | hd
        · exact Or.inl hd
        · exact Or.inr (by simpa using hd)
      have HFN := Lib.hid hfin
      have HCM := Lib.hid hcm
      have p0 := RCc.p0
      have p1 := RCc.p1
      have HF := Lib.hid RCc.f
      obtain ⟨v, hv⟩ : ∃ v, (c.tg && canD c 128 kd) = v := ⟨_, rfl⟩
      have HV := Lib.hid hv
      simp only [canD, Cp.sealed, hP, rngIn, namesB, k1, decide_true, Bool.true_and] at hv
      clear hc hr hcm RCc hfin hP
      have fin_no : v = false → ∀ d ∈ L.take (k + 1), (d.tg && canD d 128 kd) = false := fun e d hd => by
        rcases HFN.out d hd with h | h
        · exact HX.out d h
        · subst h; rw [HV.out, e]
      have fin_yes : v = true → L.any (fun x => x.tg && canD x 128 kd) = true := fun e => List.any_eq_true.2 ⟨c, HCM.out, by rw [HV.out, e]⟩
      have HNO := Lib.hid fin_no
      have HYES := Lib.hid fin_yes
      clear fin_no fin_yes HFN HCM HV HC HX
      obtain ⟨ctg, cpe, cty, cmo, ce, cb, ct, cg, ca⟩ := c
      dsimp only at r0 r1 r2 r3 r4 r5 r6 r7 r8 hv p0 p1 HF
      obtain ⟨pb, hpb⟩ : ∃ pb, (cpe / 128 % 2 == 1) = pb := ⟨_, rfl⟩
      obtain ⟨RB, hRB⟩ : ∃ RB, ofB ce cb ca = RB := ⟨_, rfl⟩
      obtain ⟨RT, hRT⟩ : ∃ RT, ofT ce cb ct cg ca = RT := ⟨_, rfl⟩
      obtain ⟨RO, hRO⟩ : ∃ RO, ofO ce cb ct cg ca = RO := ⟨_, rfl⟩
      have HOF : ∀ w, Calls Try.prog 60 #[.agg #[ctg, cpe, cty, cmo, ce, cb, ct, cg, .int .u64 ca]] w fun e' w' => e' = .returned (.agg #[.int .u64 RB, .int .u64 RT, RO]) ∧ Kp w w' := fun w => hRB ▸ hRT ▸ hRO ▸ refOf_w ctg cpe cty cmo ce cb ct cg ca HF.out w
      have T := ofs_bd ce cb ct cg ca
      rw [hRT] at T
      obtain ⟨t0, t1⟩ := T
      rw [hRB, hRT, hRO, hpb] at hv
      obtain ⟨ib, hib⟩ : ∃ ib, inB RB RT RO kd 1 = ib := ⟨_, rfl⟩
      rw [hib] at hv
      have HIN : ∀ w, Calls Try.prog 81 #[.agg #[.int .u64 RB, .int .u64 RT, RO], .int .u64 kd, .int .i64 1] w fun e' w' => e' = .returned (.bool ib) ∧ Kp w w' := fun w => hib ▸ rin_w RB RT RO kd 1 t0 t1 k0 (by omega) (by omega) (by omega) w
      have hkw : IntKind.u64.wrap kd = kd := by rw [IntKind.wrap_u64]; omega
      have HO := Lib.hid HOF
      have HI := Lib.hid HIN
      clear hRB hRT hRO hib HOF HIN
      cases ctg
      · obtain rfl : false = v := by simpa using hv
        clear hv hpb
        go_wp2
        go_roundw
        case rel => exact ⟨k + 1, by omega, by go_num, HNO.out (by first | rfl | trivial), HKP.out⟩
        case measure => simp [intOf]; omega
      · cases hs : sealedB cty <;> cases pb <;> cases ib
        all_goals
          rw [hs] at hv
          simp only [Bool.not_true, Bool.not_false, Bool.and_false, Bool.false_and, Bool.true_and, Bool.and_true] at hv
          have HS := Lib.hid hs
          subst hv
          clear hs
          go_wp2_with (first
            | (go_at_call 58; (with_reducible refine (rsealed9 true cpe cty cmo ce cb ct cg ca _ HS.out _).mono ?_); rintro e' w1 ⟨rfl, qk⟩; have HKw1 := Lib.hid qk; have qw10 : w1.cell? ⟨b, o + k * 9, none⟩ = some (.bool true) := qk.c; have qw11 : w1.cell? ⟨b, o + k * 9 + 1, none⟩ = some (.int .i64 cpe) := qk.c; have qw12 : w1.cell? ⟨b, o + k * 9 + 2, none⟩ = some (.int .i64 cty) := qk.c; have qw13 : w1.cell? ⟨b, o + k * 9 + 3, none⟩ = some (.int .i64 cmo) := qk.c; have qw14 : w1.cell? ⟨b, o + k * 9 + 4, none⟩ = some (.int .i64 ce) := qk.c; have qw15 : w1.cell? ⟨b, o + k * 9 + 5, none⟩ = some (.int .i64 cb) := qk.c; have qw16 : w1.cell? ⟨b, o + k * 9 + 6, none⟩ = some (.int .i64 ct) := qk.c; have qw17 : w1.cell? ⟨b, o + k * 9 + 7, none⟩ = some (.bool cg) := qk.c; have qw18 : w1.cell? ⟨b, o + k * 9 + 8, none⟩ = some (.int .u64 ca) := qk.c; have K1 := Lib.hid (Kp.trans HKP.out qk); have s1 := qk.size; clear qk)
            | (go_at_call 60; (with_reducible refine (HO.out _).mono ?_); rintro e' w2 ⟨rfl, qk⟩; have HKw2 := Lib.hid qk; have K2 := Lib.hid (Kp.trans K1.out qk); clear qk)
            | (go_at_call 81; (with_reducible refine (HI.out _).mono ?_); rintro e' w3 ⟨rfl, qk⟩; have HKw3 := Lib.hid qk; have K3 := Lib.hid (Kp.trans K2.out qk); clear qk))
        all_goals first
          | (go_roundw
             case rel => exact ⟨k + 1, by omega, by go_num, HNO.out (by first | rfl | trivial), by first | exact K3.out | exact K1.out⟩
             case measure => simp [intOf]; omega)
          | (go_ret
             exact ⟨ret_bool (HYES.out (by first | rfl | trivial)).symm, K3.out⟩)
    · go_wp2
      go_ret
      exact ⟨ret_bool (by rw [eq_comm, List.any_eq_false]; have e : L.take k = L := List.take_of_length_le (by omega); rw [e] at HX; exact fun x hx => by simp [HX.out x hx]), HKP.out⟩
end Go.Proofs.Ytkddgjaflcjhiaa
namespace Go.Proofs.Ytkddgjaflcjhiaa
open Go.ChangeShapes Go.WideShapes Go.ChangeAt Go.RowKit
set_option linter.unusedVariables false
set_option linter.unusedSimpArgs false

theorem there_v (L : List Cp) (A : Option Addr) (n : Nat) (x : Cp) (w : World) (h : Rd w w.heap.size A L) (hl : L.length ≤ 1000000) (v : Bool) (hv : decide (x ∈ L) = v) :
    Calls Try.prog 55 #[.slice A L.length n, .agg #[x.tg, x.pe, x.ty, x.mo, x.e, x.b, x.t, x.g, .int .u64 x.a]] w fun e' w' => e' = .returned (.bool v) ∧ Kp w w' := hv ▸ there_w L A n x w h hl
set_option maxHeartbeats 8000000 in
set_option maxRecDepth 100000 in
theorem rclose_w (l : List Cp) (A : Option Addr) (n : Nat) (hL : ∀ c ∈ l, RC c) (hl : l.length ≤ 1000) (w : World) (h : Rd w w.heap.size A l) :
    Calls Try.prog 23 #[.slice A l.length n] w (CloPost l w) := by
  have HR := Lib.hid h
  have HL := Lib.hid hL
  clear h hL
  go_enter Try.func23, Try.ntmps23
  go_wp2
  go_loopw [3, 4] (fun s i wr => ∃ (k : Nat) (v : Value), k ≤ l.length ∧ i = .int .i64 k ∧ v = s ∧ OwnC wr w.heap.size v (baseL (l.take k)) ∧ Below w.heap.size w wr) (fun _ i _ => l.length - (intOf i).toNat)
  case atStart => exact ⟨0, _, Nat.zero_le _, rfl, rfl, OwnC.nil _ _, Below.refl _ _⟩
  case round =>
    obtain ⟨k, v, hk, rfl, rfl, hown, hbl⟩ := hrel
    have hws : w.heap.size ≤ wr.heap.size := hbl.size
    have HOWN := Lib.hid hown
    have HBL := Lib.hid hbl
    clear hown hbl
    by_cases hlt : k < l.length
    · obtain ⟨b, o, rfl, hb, c, hc, hr⟩ := (HR.out.keep (w' := wr) (fun p hp => HBL.out.cell hp)).at_ hlt
      obtain ⟨r0, r1, r2, r3, r4, r5, r6, r7, r8⟩ := hr.out
      have hb' : b < wr.heap.size := by omega
      obtain ⟨out, hout⟩ : ∃ out, baseL (l.take k) = out := ⟨_, rfl⟩
      have hstep := base_step l k c hc
      rw [hout] at hstep
      have HST := Lib.hid hstep
      have hlen : out.length ≤ k := by rw [← hout]; have := base_len (l.take k); rw [List.length_take] at this; omega
      have HO : Hid (OwnC wr w.heap.size v out) := Lib.hid (hout ▸ HOWN.out)
      clear hc hr hstep hout HOWN
      obtain ⟨A', cap, e, hcap, hrd, -⟩ := HO.out.rd
      subst e
      have HRD := Lib.hid hrd
      clear hrd
      obtain ⟨m, hm⟩ : ∃ m, decide (c ∈ out) = m := ⟨_, rfl⟩
      have C := fun w1 h1 => there_v out A' cap c w1 h1 (by omega) m hm
      have HM := Lib.hid hm
      clear hm
      cases htg : c.tg
      · rw [htg] at r0
        have HT := Lib.hid htg
        clear htg C
        go_wp2
        go_roundw
        case rel => exact ⟨k + 1, _, by omega, by go_num, rfl, by rw [HST.out, HT.out]; exact HO.out, HBL.out⟩
        case measure => simp [intOf]; omega
      · rw [htg] at r0 C
        have HC := Lib.hid C
        have HVS : Hid (c.vs = [.bool true, .int .i64 c.pe, .int .i64 c.ty, .int .i64 c.mo, .int .i64 c.e, .int .i64 c.b, .int .i64 c.t, .bool c.g, .int .u64 c.a]) := Lib.hid (by simp [Cp.vs, htg])
        have HT := Lib.hid htg
        clear C htg
        cases m
        · go_wp2_with (first
            | (go_at_call 55; (with_reducible refine (HC.out _ HRD.out).mono ?_); rintro e' w1 ⟨rfl, qk⟩; have HKw1 := Lib.hid qk; have qw10 : w1.cell? ⟨b, o + k * 9, none⟩ = some (.bool true) := qk.c; have qw11 : w1.cell? ⟨b, o + k * 9 + 1, none⟩ = some (.int .i64 c.pe) := qk.c; have qw12 : w1.cell? ⟨b, o + k * 9 + 2, none⟩ = some (.int .i64 c.ty) := qk.c; have qw13 : w1.cell? ⟨b, o + k * 9 + 3, none⟩ = some (.int .i64 c.mo) := qk.c; have qw14 : w1.cell? ⟨b, o + k * 9 + 4, none⟩ = some (.int .i64 c.e) := qk.c; have qw15 : w1.cell? ⟨b, o + k * 9 + 5, none⟩ = some (.int .i64 c.b) := qk.c; have qw16 : w1.cell? ⟨b, o + k * 9 + 6, none⟩ = some (.int .i64 c.t) := qk.c; have qw17 : w1.cell? ⟨b, o + k * 9 + 7, none⟩ = some (.bool c.g) := qk.c; have qw18 : w1.cell? ⟨b, o + k * 9 + 8, none⟩ = some (.int .u64 c.a) := qk.c; have hw1 : w.heap.size ≤ w1.heap.size := Nat.le_trans hws qk.size; have HO1 := Lib.hid (HO.out.kp qk); have HB1 := Lib.hid (HBL.out.trans (qk.1.mono hws)); clear qk)            | (at_builtin; refine app_c rfl (.tmp 29) (.tmp 34) rfl w.heap.size _ out rfl (HO1.out.alloc _) ⟨w1.heap.size, 0, none⟩ 1 c rfl (fun j u hu => World.news_of_block (heap_alloc_new w1 _) j u (by rw [HVS.out] at hu; exact hu)) (by omega) (by simp; omega) (w1.heap.size + 1) (by simp) ?_; intro g cap' w2 hown2 hg2 hat2 hlt2; have HO2 := Lib.hid hown2; have HB2 := Lib.hid (below_grown (HB1.out.alloc hw1 _) hg2 (by simp; omega) (HO1.out.alloc _)); clear hown2 hg2 hat2))
          go_roundw
          case rel => exact ⟨k + 1, _, by omega, by go_num, rfl, by rw [HST.out, HT.out, if_pos rfl, addC, if_neg (of_decide_eq_false HM.out)]; exact HO2.out, HB2.out⟩
          case measure => simp [intOf]; omega
        · go_wp2_with (first
            | (go_at_call 55; (with_reducible refine (HC.out _ HRD.out).mono ?_); rintro e' w1 ⟨rfl, qk⟩; have HKw1 := Lib.hid qk; have HO1 := Lib.hid (HO.out.kp qk); have HB1 := Lib.hid (HBL.out.trans (qk.1.mono hws)); clear qk)            )
          go_roundw
          case rel => exact ⟨k + 1, _, by omega, by go_num, rfl, by rw [HST.out, HT.out, if_pos rfl, addC, if_pos (of_decide_eq_true HM.out)]; exact HO1.out, HB1.out⟩
          case measure => simp [intOf]; omega
    · have e0 : l.take k = l := List.take_of_length_le (by omega)
      rw [e0] at HOWN
      obtain ⟨bs, hbs⟩ : ∃ bs, baseL l = bs := ⟨_, rfl⟩
      rw [hbs] at HOWN
      have hAll : AllT bs := hbs ▸ base_all l HL.out
      have hbl : bs.length ≤ 1000 := by have := base_len l; rw [hbs] at this; omega
      have HBS := Lib.hid hbs
      have HALL := Lib.hid hAll
      clear e0 hbs hAll
      go_wp2
      obtain ⟨wo, hwo⟩ : ∃ wo : World, wo = wr := ⟨_, rfl⟩
      subst hwo
      go_loopw [3, 5] (fun s n wx => ∃ (v : Value) (out : List Cp) (N : Int), v = s ∧ n = .int .i64 N ∧ OwnC wx w.heap.size v out ∧ (∃ m, out = rounds bs m) ∧ Grown6 bs out ∧ Below w.heap.size w wx ∧ -1 ≤ N ∧ N ≤ 2000 ∧ (N = out.length → IsClo l out)) (fun s n _ => 2 * (2000 - sliceLen s) + (if intOf n = sliceLen s then 0 else 1))
      case atStart => exact ⟨_, bs, -1, rfl, rfl, HOWN.out, ⟨0, rfl⟩, Grown6.refl bs, HBL.out, by omega, by omega, fun h => by omega⟩
      case round =>
        clear HOWN HBL hws
        obtain ⟨v, out, N, rfl, rfl, hown, hm, hg, hbl, N0, N1, hN⟩ := hrel
        have hws : w.heap.size ≤ wr.heap.size := hbl.size
        have hol : out.length ≤ 2000 := by have := hg.len; omega
        obtain ⟨A', cap, e, hcap, hrd, -⟩ := hown.rd
        subst e
        have HO := Lib.hid hown
        have HB := Lib.hid hbl
        have HG := Lib.hid hg
        have HMM := Lib.hid hm
        have HNN := Lib.hid hN
        clear hown hbl hg hm hN hrd
        by_cases hNe : N = out.length
        · have HI := Lib.hid (HNN.out hNe)
          subst hNe
          clear HNN
          go_wp2
          go_ret
          exact ⟨_, out, rfl, HI.out, HO.out, HB.out⟩
        · have e1 : (N == (out.length : Int)) = false := by simpa using hNe
          have e2 : (N != (out.length : Int)) = true := by simpa using hNe
          have HNN2 := Lib.hid hNe
          clear HNN hNe
          go_wp2
          obtain ⟨wo, hwo⟩ : ∃ wo : World, wo = wr := ⟨_, rfl⟩
          subst hwo
          go_loopw [3, 6] (fun s i wx => ∃ (k : Nat) (v : Value) (cur : List Cp), i = .int .i64 k ∧ v = s ∧ cur = roundC (out.take k) out ∧ k ≤ cur.length ∧ OwnC wx w.heap.size v cur ∧ Below w.heap.size w wx) (fun _ i _ => 2000 - (intOf i).toNat)
          case atStart => exact ⟨0, _, out, rfl, rfl, rfl, Nat.zero_le _, HO.out, HB.out⟩
          case round =>
            clear HO HB hws e1 e2 hcap
            obtain ⟨k, v, cur, rfl, rfl, hcur, hk, hown, hbl⟩ := hrel
            have hws : w.heap.size ≤ wr.heap.size := hbl.size
            have hgc : Grown6 bs cur := by rw [hcur]; exact HG.out.part k
            have hcl : cur.length ≤ 2000 := by have := hgc.len; omega
            have hca : AllT cur := hgc.all_ HALL.out
            obtain ⟨A1, cap1, e, hcap, hrd, -⟩ := hown.rd
            subst e
            have HO := Lib.hid hown
            have HBL := Lib.hid hbl
            have hwo : w.heap.size ≤ wr.heap.size := hws
            by_cases hlt : k < cur.length
            · obtain ⟨b, o, rfl, hb, c, hc, hr⟩ := hrd.at_ hlt
              obtain ⟨r0, r1, r2, r3, r4, r5, r6, r7, r8⟩ := hr.out
              have HIN := Lib.hid (inner_step HG.out k c hcur hc)
              have HLE : Hid (cur.length ≤ (stepC cur c).length) := by
                obtain ⟨u, e, _⟩ := step_pre cur c
                exact Lib.hid (by rw [e, List.length_append]; omega)
              have RCc := (hca c (List.mem_of_getElem? hc)).1
              obtain ⟨m, hm⟩ : ∃ m, decide (uns c ∈ cur) = m := ⟨_, rfl⟩
              obtain ⟨kb, hkb⟩ : ∃ kb, keyB cur c.ty = kb := ⟨_, rfl⟩
              have C : ∀ w1, OwnC w1 w.heap.size (.slice (some ⟨b, o, none⟩) cur.length cap1) cur → Calls Try.prog 55 #[.slice (some ⟨b, o, none⟩) cur.length cap1, .agg #[c.tg, c.pe, .int .i64 262143, c.mo, c.e, c.b, c.t, c.g, .int .u64 c.a]] w1 fun e' w' => e' = .returned (.bool m) ∧ Kp w1 w' := fun w1 h1 => by
                obtain ⟨A2, cap2, e, _, hr2, -⟩ := h1.rd
                cases e
                exact there_v cur _ cap1 (uns c) w1 hr2 (by omega) m hm
              have CW : ∀ w1, OwnC w1 w.heap.size (.slice (some ⟨b, o, none⟩) cur.length cap1) cur → c.ty ≤ 262135 → Calls Try.prog 56 #[.slice (some ⟨b, o, none⟩) cur.length cap1, .int .i64 256, c.ty] w1 fun e' w' => e' = .returned (.bool kb) ∧ Kp w1 w' := fun w1 h1 ht => by
                obtain ⟨A2, cap2, e, _, hr2, -⟩ := h1.rd
                cases e
                have := with256_w cur _ cap1 c.ty (fun d hd => (hca d hd).1) RCc.y0 ht w1 hr2 (by omega)
                rw [key_with cur hca] at this
                exact hkb ▸ this
              have HNE : Hid (∀ g, Value.ownBlock (.slice (some ⟨b, o, none⟩) cur.length cap1) = some g → g ≠ wr.heap.size) := Lib.hid (fun g hg => Nat.ne_of_lt (hown.lt g hg).2)
              have HC := Lib.hid C
              have HM := Lib.hid hm
              have HKB := Lib.hid hkb
              have ty0 := RCc.y0
              have ty1 := RCc.y1
              have hb' : b < wr.heap.size := hb
              clear C hm hkb hc hr hca hcur hgc hown hbl hrd RCc hb
              by_cases hA : c.ty = 262142
              · have eA : (c.ty == 262142) = true := by simpa using hA
                have HOP : Hid (opensB cur c = true) := Lib.hid (by simp [opensB, hA])
                clear hA CW
                cases m
                · go_wp2_with (first
                    | (go_at_call 55; (with_reducible refine (HC.out _ (own_fr HO.out ((Fr.refl wr (fun _ => False)).alloc _) (fun _ _ h => h))).mono ?_); rintro e' w2 ⟨rfl, qk⟩; have BKw2 : Blk w2 wr.heap.size 25 [c.tg, c.pe, .int .i64 262143, c.mo, c.e, c.b, c.t, c.g, .int .u64 c.a] := ((Blk.new wr 25 [c.tg, c.pe, .int .i64 262143, c.mo, c.e, c.b, c.t, c.g, .int .u64 c.a])).fr (Fr.of_kp qk (fun _ => False)) id; obtain ⟨_, _, _, _, _, _, _, _, _⟩ := BKw2.at_.out9; have hw2 : w.heap.size ≤ w2.heap.size := (by have := qk.size; (try simp at this); omega); have HOw2 := Lib.hid (OwnC.kp (own_fr HO.out ((Fr.refl wr (fun _ => False)).alloc _) (fun _ _ h => h)) qk); have HBw2 := Lib.hid ((HBL.out.alloc hwo _).trans (qk.1.mono (by first | (simp; done) | (simp; omega) | omega))); clear qk)
                    | (at_builtin; refine app_c rfl (.tmp 74) (.tmp 76) rfl w.heap.size _ cur rfl (own_fr HOw2.out ((Fr.refl w2 (fun _ => False)).alloc _) (fun _ _ h => h)) ⟨w2.heap.size, 0, none⟩ 1 (uns c) rfl (fun j u hu => World.news_of_block (heap_alloc_new w2 _) j u hu) (by omega) (by simp; omega) (w2.heap.size + 1) (by simp) ?_; intro g cap' w3 hown2 hg2 hat2 hlt2; have HOw3 := Lib.hid hown2; have HBw3 := Lib.hid (below_grown (HBw2.out.alloc hw2 _) hg2 (by simp; omega) (own_fr HOw2.out ((Fr.refl w2 (fun _ => False)).alloc _) (fun _ _ h => h))); clear hown2 hg2 hat2))
                  go_roundw
                  case rel => exact ⟨k + 1, _, stepC cur c, by go_num, rfl, HIN.out.symm, by have := HLE.out; omega, by rw [stepC, HOP.out, if_pos rfl, addC, if_neg (of_decide_eq_false HM.out)]; exact HOw3.out, HBw3.out⟩
                  case measure => simp [intOf]; omega
                · go_wp2_with (first
                    | (go_at_call 55; (with_reducible refine (HC.out _ (own_fr HO.out ((Fr.refl wr (fun _ => False)).alloc _) (fun _ _ h => h))).mono ?_); rintro e' w2 ⟨rfl, qk⟩; have BKw2 : Blk w2 wr.heap.size 25 [c.tg, c.pe, .int .i64 262143, c.mo, c.e, c.b, c.t, c.g, .int .u64 c.a] := ((Blk.new wr 25 [c.tg, c.pe, .int .i64 262143, c.mo, c.e, c.b, c.t, c.g, .int .u64 c.a])).fr (Fr.of_kp qk (fun _ => False)) id; obtain ⟨_, _, _, _, _, _, _, _, _⟩ := BKw2.at_.out9; have hw2 : w.heap.size ≤ w2.heap.size := (by have := qk.size; (try simp at this); omega); have HOw2 := Lib.hid (OwnC.kp (own_fr HO.out ((Fr.refl wr (fun _ => False)).alloc _) (fun _ _ h => h)) qk); have HBw2 := Lib.hid ((HBL.out.alloc hwo _).trans (qk.1.mono (by first | (simp; done) | (simp; omega) | omega))); clear qk))
                  go_roundw
                  case rel => exact ⟨k + 1, _, stepC cur c, by go_num, rfl, HIN.out.symm, by have := HLE.out; omega, by rw [stepC, HOP.out, if_pos rfl, addC, if_pos (of_decide_eq_true HM.out)]; exact HOw2.out, HBw2.out⟩
                  case measure => simp [intOf]; omega
              · have eA : (c.ty == 262142) = false := by simpa using hA
                by_cases hB : c.ty ≤ 262135
                · have HOP : Hid (opensB cur c = kb) := Lib.hid (by rw [opensB, eA, HKB.out]; rfl)
                  have HCW := Lib.hid (fun w1 h1 => CW w1 h1 hB)
                  clear CW hA
                  cases kb
                  · go_wp2_with (first
                      | (go_at_call 56; (with_reducible refine (HCW.out _ (own_fr HO.out ((Fr.refl wr (fun _ => False)).alloc _) (fun _ _ h => h))).mono ?_); rintro e' w1 ⟨rfl, qk⟩; have BK1 : Blk w1 wr.heap.size 25 [c.tg, c.pe, c.ty, c.mo, c.e, c.b, c.t, c.g, .int .u64 c.a] := ((Blk.new wr 25 [c.tg, c.pe, c.ty, c.mo, c.e, c.b, c.t, c.g, .int .u64 c.a])).fr (Fr.of_kp qk (fun _ => False)) id; obtain ⟨_, _, _, _, _, _, _, _, _⟩ := BK1.at_.out9; have zf1 := BK1.frozen 2; have hw1 : w.heap.size ≤ w1.heap.size := (by have := qk.size; (try simp at this); omega); have hwr1 : wr.heap.size < w1.heap.size := (by have := qk.size; (try simp at this); omega); have HO1 := Lib.hid (OwnC.kp (own_fr HO.out ((Fr.refl wr (fun _ => False)).alloc _) (fun _ _ h => h)) qk); have HOX := Lib.hid (OwnC.set HO1.out ⟨wr.heap.size, 2, none⟩ (.int .i64 262143) HNE.out); have HB1 := Lib.hid ((HBL.out.alloc hwo _).trans (qk.1.mono (by first | (simp; done) | (simp; omega) | omega))); clear qk))
                    go_roundw
                    case rel => exact ⟨k + 1, _, stepC cur c, by go_num, rfl, HIN.out.symm, by have := HLE.out; omega, by rw [stepC, HOP.out, if_neg (by simp)]; exact HOX.out, HB1.out.setCell hwo _⟩
                    case measure => simp [intOf]; omega
                  · cases m
                    · go_wp2_with (first
                        | (go_at_call 56; (with_reducible refine (HCW.out _ (own_fr HO.out ((Fr.refl wr (fun _ => False)).alloc _) (fun _ _ h => h))).mono ?_); rintro e' w1 ⟨rfl, qk⟩; have BK1 : Blk w1 wr.heap.size 25 [c.tg, c.pe, c.ty, c.mo, c.e, c.b, c.t, c.g, .int .u64 c.a] := ((Blk.new wr 25 [c.tg, c.pe, c.ty, c.mo, c.e, c.b, c.t, c.g, .int .u64 c.a])).fr (Fr.of_kp qk (fun _ => False)) id; obtain ⟨_, _, _, _, _, _, _, _, _⟩ := BK1.at_.out9; have zf1 := BK1.frozen 2; have hw1 : w.heap.size ≤ w1.heap.size := (by have := qk.size; (try simp at this); omega); have hwr1 : wr.heap.size < w1.heap.size := (by have := qk.size; (try simp at this); omega); have HO1 := Lib.hid (OwnC.kp (own_fr HO.out ((Fr.refl wr (fun _ => False)).alloc _) (fun _ _ h => h)) qk); have HOX := Lib.hid (OwnC.set HO1.out ⟨wr.heap.size, 2, none⟩ (.int .i64 262143) HNE.out); have HB1 := Lib.hid ((HBL.out.alloc hwo _).trans (qk.1.mono (by first | (simp; done) | (simp; omega) | omega))); clear qk)
                        | (go_at_call 55; (with_reducible refine (HC.out _ (HOX.out)).mono ?_); rintro e' w2 ⟨rfl, qk⟩; have BKw2 : Blk w2 wr.heap.size 25 [c.tg, c.pe, .int .i64 262143, c.mo, c.e, c.b, c.t, c.g, .int .u64 c.a] := (BK1.set_ 2 _).fr (Fr.of_kp qk (fun _ => False)) id; obtain ⟨_, _, _, _, _, _, _, _, _⟩ := BKw2.at_.out9; have hw2 : w.heap.size ≤ w2.heap.size := (by have := qk.size; (try simp at this); omega); have HOw2 := Lib.hid (OwnC.kp (HOX.out) qk); have HBw2 := Lib.hid ((HB1.out.setCell hwo _).trans (qk.1.mono (by first | (simp; done) | (simp; omega) | omega))); clear qk)
                        | (at_builtin; refine app_c rfl (.tmp 74) (.tmp 76) rfl w.heap.size _ cur rfl (own_fr HOw2.out ((Fr.refl w2 (fun _ => False)).alloc _) (fun _ _ h => h)) ⟨w2.heap.size, 0, none⟩ 1 (uns c) rfl (fun j u hu => World.news_of_block (heap_alloc_new w2 _) j u hu) (by omega) (by simp; omega) (w2.heap.size + 1) (by simp) ?_; intro g cap' w3 hown2 hg2 hat2 hlt2; have HOw3 := Lib.hid hown2; have HBw3 := Lib.hid (below_grown (HBw2.out.alloc hw2 _) hg2 (by simp; omega) (own_fr HOw2.out ((Fr.refl w2 (fun _ => False)).alloc _) (fun _ _ h => h))); clear hown2 hg2 hat2))
                      go_roundw
                      case rel => exact ⟨k + 1, _, stepC cur c, by go_num, rfl, HIN.out.symm, by have := HLE.out; omega, by rw [stepC, HOP.out, if_pos rfl, addC, if_neg (of_decide_eq_false HM.out)]; exact HOw3.out, HBw3.out⟩
                      case measure => simp [intOf]; omega
                    · go_wp2_with (first
                        | (go_at_call 56; (with_reducible refine (HCW.out _ (own_fr HO.out ((Fr.refl wr (fun _ => False)).alloc _) (fun _ _ h => h))).mono ?_); rintro e' w1 ⟨rfl, qk⟩; have BK1 : Blk w1 wr.heap.size 25 [c.tg, c.pe, c.ty, c.mo, c.e, c.b, c.t, c.g, .int .u64 c.a] := ((Blk.new wr 25 [c.tg, c.pe, c.ty, c.mo, c.e, c.b, c.t, c.g, .int .u64 c.a])).fr (Fr.of_kp qk (fun _ => False)) id; obtain ⟨_, _, _, _, _, _, _, _, _⟩ := BK1.at_.out9; have zf1 := BK1.frozen 2; have hw1 : w.heap.size ≤ w1.heap.size := (by have := qk.size; (try simp at this); omega); have hwr1 : wr.heap.size < w1.heap.size := (by have := qk.size; (try simp at this); omega); have HO1 := Lib.hid (OwnC.kp (own_fr HO.out ((Fr.refl wr (fun _ => False)).alloc _) (fun _ _ h => h)) qk); have HOX := Lib.hid (OwnC.set HO1.out ⟨wr.heap.size, 2, none⟩ (.int .i64 262143) HNE.out); have HB1 := Lib.hid ((HBL.out.alloc hwo _).trans (qk.1.mono (by first | (simp; done) | (simp; omega) | omega))); clear qk)
                        | (go_at_call 55; (with_reducible refine (HC.out _ (HOX.out)).mono ?_); rintro e' w2 ⟨rfl, qk⟩; have BKw2 : Blk w2 wr.heap.size 25 [c.tg, c.pe, .int .i64 262143, c.mo, c.e, c.b, c.t, c.g, .int .u64 c.a] := (BK1.set_ 2 _).fr (Fr.of_kp qk (fun _ => False)) id; obtain ⟨_, _, _, _, _, _, _, _, _⟩ := BKw2.at_.out9; have hw2 : w.heap.size ≤ w2.heap.size := (by have := qk.size; (try simp at this); omega); have HOw2 := Lib.hid (OwnC.kp (HOX.out) qk); have HBw2 := Lib.hid ((HB1.out.setCell hwo _).trans (qk.1.mono (by first | (simp; done) | (simp; omega) | omega))); clear qk))
                      go_roundw
                      case rel => exact ⟨k + 1, _, stepC cur c, by go_num, rfl, HIN.out.symm, by have := HLE.out; omega, by rw [stepC, HOP.out, if_pos rfl, addC, if_pos (of_decide_eq_true HM.out)]; exact HOw2.out, HBw2.out⟩
                      case measure => simp [intOf]; omega
                · have HOP : Hid (opensB cur c = false) := Lib.hid (by rw [opensB, eA, keyB]; simp only [Bool.false_or]; rw [List.any_eq_false]; intro x _; simp [canD, rngIn, namesB]; omega)
                  clear CW hA
                  go_wp2
                  go_roundw
                  case rel => exact ⟨k + 1, _, stepC cur c, by go_num, rfl, HIN.out.symm, by have := HLE.out; omega, by rw [stepC, HOP.out, if_neg (by simp)]; exact (own_fr HO.out ((Fr.refl wr (fun _ => False)).alloc _) (fun _ _ h => h)), HBL.out.alloc hwo _⟩
                  case measure => simp [intOf]; omega
            · have hkc : k = cur.length := by omega
              have hlast : out.take k = out := List.take_of_length_le (by
                obtain ⟨u, eu, _⟩ := fold_pre (out.take k) out
                rw [← hcur] at eu
                rw [hkc, eu, List.length_append]; omega)
              have e1 : cur = roundC out out := by rw [hlast] at hcur; exact hcur
              have HE := Lib.hid e1
              have HGC := Lib.hid hgc
              clear hcur hown hbl hca hgc hrd e1
              go_wp2
              go_roundw
              case rel =>
                obtain ⟨mm, hmm⟩ := HMM.out
                have e2 : cur = roundC bs out := by rw [HE.out]; exact HG.out.all out
                have hm2 : ∃ m, cur = rounds bs m := ⟨mm + 1, by rw [e2, hmm]; rfl⟩
                exact ⟨_, cur, (out.length : Int), rfl, rfl, HO.out, hm2, HGC.out, HBL.out, by omega, by omega, fun h => rclose_last (prev := out) (by rw [HBS.out]; exact e2) (by omega) (by rw [HBS.out]; exact hm2)⟩
              case measure =>
                obtain ⟨u, eu, _⟩ := fold_pre out out
                have hle : out.length ≤ cur.length := by rw [HE.out, eu, List.length_append]; omega
                have hn2 := HNN2.out
                simp only [sliceLen, intOf]
                rcases Nat.lt_or_ge out.length cur.length with h | h
                · have h' : ¬ ((out.length : Int) = (cur.length : Int)) := by omega
                  simp [h', hn2]; omega
                · have h' : out.length = cur.length := by omega
                  simp [h', hn2] at hn2 ⊢
                  simp [hn2]
end Go.Proofs.Ytkddgjaflcjhiaa
namespace Go.Proofs.Ytkddgjaflcjhiaa
open Go.ChangeShapes Go.WideShapes Go.ChangeAt Go.RowKit Go.Maps
set_option linter.unusedVariables false
set_option linter.unusedSimpArgs false

theorem rclo_w (l : List Cp) (A : Option Addr) (n : Nat) (hL : ∀ c ∈ l, RC c) (hl : l.length ≤ 1000) (w : World) (h : Rd w w.heap.size A l) :
    Calls Try.prog 23 #[.slice A l.length n] w (fun e w' => ∃ A' cap, e = .returned (.slice A' (clo l).length cap) ∧ OwnC w' w.heap.size (.slice A' (clo l).length cap) (clo l) ∧ Rd w' w'.heap.size A' (clo l) ∧ Below w.heap.size w w') :=
  (rclose_w l A n hL hl w h).mono (by
    rintro e w' ⟨v, out, rfl, hc, ho, hb⟩
    obtain rfl := hc.eq
    obtain ⟨A', cap, rfl, _, hr, -⟩ := ho.rd
    exact ⟨A', cap, rfl, ho, hr, hb⟩)
/-- What Has tells, way by way, as the document asks it. -/
theorem has_ways (l : List Cp) (c : Cp) (hL : ∀ c ∈ l, RC c) (hc : RC c) (v : Bool) (hv : hasB l c = v) (al an px m2 : Bool) (e1 : (clo l).any (fun b => lessB (uns c) b) = al) (e2 : (clo l).any (fun b => canD b 128 c.ty) = an) (e3 : hasP c.pe 2 = px) (e4 : decide (uns c ∈ l) = m2) (ht : c.tg = true) (hm : decide (c ∈ l) = false) :
    (c.sealed = false ∧ v = al) ∨ (c.sealed = true ∧ c.ty = 262142 ∧ px = false ∧ v = false) ∨ (c.sealed = true ∧ 262135 < c.ty ∧ c.ty ≠ 262142 ∧ v = false) ∨
    (c.sealed = true ∧ c.ty = 262142 ∧ px = true ∧ m2 = true ∧ v = true) ∨ (c.sealed = true ∧ c.ty = 262142 ∧ px = true ∧ m2 = false ∧ v = al) ∨
    (c.sealed = true ∧ c.ty ≤ 262135 ∧ an = false ∧ v = false) ∨ (c.sealed = true ∧ c.ty ≤ 262135 ∧ an = true ∧ m2 = true ∧ v = true) ∨ (c.sealed = true ∧ c.ty ≤ 262135 ∧ an = true ∧ m2 = false ∧ v = al) := by
  have hv' := hv
  rw [hasB, hm, e1, e2, e3, ht] at hv'
  have hal : m2 = true → al = true := by
    intro h
    rw [h, decide_eq_true_eq] at e4
    rw [← e1, List.any_eq_true]
    refine ⟨uns c, ?_, ?_⟩
    · obtain ⟨⟨u, e, _⟩, _⟩ := clo_grown l
      rw [e]; exact List.mem_append.2 (.inl ((base_mem l _).2 ⟨e4, ht⟩))
    · have t : (uns c).tg = true := ht
      unfold lessB subB
      rw [wi_refl, per_refl, t, uns_unsealed c]; rfl
  cases hs : c.sealed
  · left
    rw [hs] at hv'
    exact ⟨rfl, by rw [← hv']; simp⟩
  · right
    rw [hs] at hv'
    by_cases h2 : c.ty = 262142
    · rw [if_pos h2] at hv'
      cases px
      · left; exact ⟨rfl, h2, rfl, by rw [← hv']; simp⟩
      · right; right
        cases m2
        · right; left; exact ⟨rfl, h2, rfl, rfl, by rw [← hv']; simp⟩
        · left; exact ⟨rfl, h2, rfl, rfl, by rw [← hv', hal rfl]; simp⟩
    · rw [if_neg h2] at hv'
      by_cases h3 : c.ty ≤ 262135
      · right; right; right; right
        cases an
        · left; exact ⟨rfl, h3, rfl, by rw [← hv']; simp⟩
        · right
          cases m2
          · right; exact ⟨rfl, h3, rfl, rfl, by rw [← hv']; simp⟩
          · left; exact ⟨rfl, h3, rfl, rfl, by rw [← hv', hal rfl]; simp⟩
      · right; left
        have : an = false := by
          rw [← e2, List.any_eq_false]; intro x _; simp [canD, rngIn, namesB]; omega
        exact ⟨rfl, by omega, h2, by rw [← hv', this]; simp⟩
theorem Blk.below {w w' : World} {g n : Nat} {t : TypeId} {cs : List Value} (h : Blk w g t cs) (k : Below n w w') (hg : g < n) : Blk w' g t cs := h.block (k.block g hg)
set_option maxHeartbeats 2000000 in
set_option maxRecDepth 100000 in
theorem rhas_0 (l : List Cp) (A : Option Addr) (n : Nat) (c : Cp) (hL : ∀ c ∈ l, RC c) (hl : l.length ≤ 1000) (hc : RC c) (al an px m2 : Bool) (e1 : (clo l).any (fun b => lessB (uns c) b) = al) (e2 : (clo l).any (fun b => canD b 128 c.ty) = an) (e3 : hasP c.pe 2 = px) (e4 : decide (uns c ∈ l) = m2) (ht : c.tg = true) (hm : decide (c ∈ l) = false) (hw : c.sealed = false) (w : World) (h : Rd w w.heap.size A l) :
    Calls Try.prog 28 #[.slice A l.length n, .agg #[true, c.pe, c.ty, c.mo, c.e, c.b, c.t, c.g, .int .u64 c.a]] w fun e w' => e = .returned (.bool al) ∧ Below w.heap.size w w' := by
  have hcl : (clo l).length ≤ 2000 := by have := clo_len l; omega
  have hca := clo_all l hL
  have hpx := hasP_two c.pe 1 (by omega) hc.p0 hc.p1 2 (by decide)
  have p0 := hc.p0
  have p1 := hc.p1
  have HT1 : Hid (∀ w1 : World, Rd w1 w1.heap.size A l → Calls Try.prog 55 #[.slice A l.length n, .agg #[true, c.pe, c.ty, c.mo, c.e, c.b, c.t, c.g, .int .u64 c.a]] w1 fun e' w' => e' = .returned (.bool false) ∧ Kp w1 w') := Lib.hid (fun w1 h1 => by have := there_v l A n c w1 h1 (by omega) false hm; rw [ht] at this; exact this)
  have HT2 : Hid (∀ w1 : World, Rd w1 w1.heap.size A l → Calls Try.prog 55 #[.slice A l.length n, .agg #[true, c.pe, .int .i64 262143, c.mo, c.e, c.b, c.t, c.g, .int .u64 c.a]] w1 fun e' w' => e' = .returned (.bool m2) ∧ Kp w1 w') := Lib.hid (fun w1 h1 => by have := there_v l A n (uns c) w1 h1 (by omega) m2 e4; rw [show (uns c).tg = true from ht] at this; exact this)
  have HCL := Lib.hid (fun w1 h1 => rclo_w l A n hL hl w1 h1)
  have HSE : Hid (∀ w1 : World, Calls Try.prog 58 #[.agg #[true, c.pe, c.ty, c.mo, c.e, c.b, c.t, c.g, .int .u64 c.a]] w1 fun e' w' => e' = .returned (.bool false) ∧ Kp w1 w') := Lib.hid (fun w1 => by have := rsealed_w c false hw w1; rw [ht] at this; exact this)
  have HWI : Hid (c.ty ≤ 262135 → ∀ (A' : Option Addr) (cap : Nat) (w1 : World), Rd w1 w1.heap.size A' (clo l) → Calls Try.prog 56 #[.slice A' (clo l).length cap, .int .i64 128, c.ty] w1 fun e' w' => e' = .returned (.bool an) ∧ Kp w1 w') := Lib.hid (fun hy A' cap w1 h1 => by
    have := with128_w (clo l) A' cap c.ty (fun d hd => (hca d hd).1) hc.y0 hy w1 h1 (by omega)
    rw [key_with (clo l) hca, e2] at this; exact this)
  have HLE : Hid (∀ b ∈ clo l, ∀ w1 : World, Calls Try.prog 26 #[.agg #[true, c.pe, .int .i64 262143, c.mo, c.e, c.b, c.t, c.g, .int .u64 c.a], .agg #[b.tg, b.pe, b.ty, b.mo, b.e, b.b, b.t, b.g, .int .u64 b.a]] w1 fun e' w' => e' = .returned (.bool (lessB (uns c) b)) ∧ Kp w1 w') := Lib.hid (fun b hb w1 => by have := rless_w (uns c) b hc.uns (hca b hb).1 _ rfl w1; rw [show (uns c).tg = true from ht] at this; exact this)
  have HE1 := Lib.hid e1
  have HH := Lib.hid h
  have BK0 : Hid (Blk (w.alloc (.cells #[true, c.pe, c.ty, c.mo, c.e, c.b, c.t, c.g, .int .u64 c.a] 25)) (w.heap.size) 25 [true, c.pe, c.ty, c.mo, c.e, c.b, c.t, c.g, .int .u64 c.a]) := Lib.hid (Blk.new w 25 [true, c.pe, c.ty, c.mo, c.e, c.b, c.t, c.g, .int .u64 c.a])
  have RD0 : Hid (Rd (w.alloc (.cells #[true, c.pe, c.ty, c.mo, c.e, c.b, c.t, c.g, .int .u64 c.a] 25)) (w.alloc (.cells #[true, c.pe, c.ty, c.mo, c.e, c.b, c.t, c.g, .int .u64 c.a] 25)).heap.size A l) := Lib.hid ((h.alloc (Nat.le_refl _) _).more (by simp))
  have BL0 : Hid (Below (w.heap.size) w (w.alloc (.cells #[true, c.pe, c.ty, c.mo, c.e, c.b, c.t, c.g, .int .u64 c.a] 25))) := Lib.hid ((Below.refl _ _).alloc (Nat.le_refl _) _)
  have hty : c.ty = 262143 := by simpa [Cp.sealed, sealedB] using hw
  have hU : Hid (([true, c.pe, c.ty, c.mo, c.e, c.b, c.t, c.g, .int .u64 c.a] : List Value) = [.bool true, .int .i64 c.pe, .int .i64 262143, .int .i64 c.mo, .int .i64 c.e, .int .i64 c.b, .int .i64 c.t, .bool c.g, .int .u64 c.a]) := Lib.hid (by rw [hty])
  clear hty
  clear h hL hc e1 e2 e3 e4 ht hm hw hpx hca HWI
  go_enter Try.func28, Try.ntmps28
  go_wp2_with (first
    | (go_at_call 55; (with_reducible refine (HT1.out _ RD0.out).mono ?_); rintro e' w1 ⟨rfl, qk⟩; have BK1 := Lib.hid (BK0.out.fr (Fr.of_kp qk (fun _ => False)) id); obtain ⟨_, _, _, _, _, _, _, _, _⟩ := BK1.out.at_.out9; have hs1 := BK1.out.lt; have RD1 := Lib.hid ((RD0.out.kp qk (Nat.le_refl _)).more qk.size); have BL1 := Lib.hid (BL0.out.trans (qk.1.mono (by simp))); clear qk)
    | (go_at_call 23; (with_reducible refine (HCL.out _ RD1.out).mono ?_); rintro e' w2 ⟨A', cap, rfl, ho2, hr2, hb2⟩; have OC2 := Lib.hid ho2; have BK2 := Lib.hid (BK1.out.below hb2 hs1); obtain ⟨_, _, _, _, _, _, _, _, _⟩ := BK2.out.at_.out9; have hs2 := BK2.out.lt; have RC2 := Lib.hid hr2; have RD2 := Lib.hid ((RD1.out.keep fun p hp => hb2.cell hp).more hb2.size); have BL2 := Lib.hid (BL1.out.trans (hb2.mono (Nat.le_of_lt hs1))); clear ho2 hr2 hb2)
    | (go_at_call 58; (with_reducible refine (HSE.out _).mono ?_); rintro e' w3 ⟨rfl, qk⟩; have BK3 := Lib.hid (BK2.out.fr (Fr.of_kp qk (fun _ => False)) id); obtain ⟨_, _, _, _, _, _, _, _, _⟩ := BK3.out.at_.out9; have zf3 := BK3.out.frozen 2; have hs3 := BK3.out.lt; have RC3 := Lib.hid ((RC2.out.kp qk (Nat.le_refl _)).more qk.size); have OC3 := Lib.hid (own_fr OC2.out (Fr.of_kp qk (fun _ => False)) (fun _ _ h => h)); have RD3 := Lib.hid ((RD2.out.kp qk (Nat.le_refl _)).more qk.size); have BL3 := Lib.hid (BL2.out.trans (qk.1.mono (Nat.le_of_lt hs2))); clear qk))
  have BK5 : Hid (Blk w3 (w.heap.size) 25 [true, c.pe, .int .i64 262143, c.mo, c.e, c.b, c.t, c.g, .int .u64 c.a]) := Lib.hid (by have := BK3.out; rw [hU.out] at this; exact this)
  go_loopw [6] (fun i wr => ∃ k : Nat, k ≤ (clo l).length ∧ i = .int .i64 k ∧ (∀ b ∈ (clo l).take k, lessB (uns c) b = false) ∧ Blk wr (w.heap.size) 25 [true, c.pe, .int .i64 262143, c.mo, c.e, c.b, c.t, c.g, .int .u64 c.a] ∧ OwnC wr w1.heap.size (.slice A' (clo l).length cap) (clo l) ∧ Below (w.heap.size) w wr) (fun i _ => (clo l).length - (intOf i).toNat)
  case atStart => exact ⟨0, Nat.zero_le _, rfl, by simp, BK5.out, OC3.out, BL3.out⟩
  case round =>
    obtain ⟨k, hk, rfl, hx, hbk, hoc, hbl⟩ := hrel
    have HX := Lib.hid hx
    have HB := Lib.hid hbk
    have HO := Lib.hid hoc
    have HL2 := Lib.hid hbl
    clear hx hbk hoc hbl
    obtain ⟨_, _, _, _, _, _, _, _, _⟩ := HB.out.at_.out9
    by_cases hlt : k < (clo l).length
    · obtain ⟨A2, cap2, ev, _, hr2, -⟩ := HO.out.rd
      cases ev
      obtain ⟨bb, oo, rfl, hbb, b, hb, hr⟩ := hr2.at_ hlt
      obtain ⟨r0, r1, r2, r3, r4, r5, r6, r7, r8⟩ := hr.out
      have HBM := Lib.hid hb
      have HC := Lib.hid (HLE.out b (List.mem_of_getElem? hb))
      obtain ⟨lv, hlv⟩ : ∃ lv, lessB (uns c) b = lv := ⟨_, rfl⟩
      rw [hlv] at HC
      have HLV := Lib.hid hlv
      clear hlv hb hr hr2
      cases lv
      all_goals
        go_upto_region 15 with fail
        refine wp_region_still_tail 5 (by kernel_rfl) (by kernel_rfl) ?_
        simp only [List.take_succ_cons, List.take_zero, List.drop_succ_cons, List.drop_zero]
        repeat still_step
        refine wpStill_nil ?_
        change wpList _ _ _ _ _ wr.drew
        go_wp2_with (go_at_call 26; (with_reducible refine (HC.out _).mono ?_); rintro e' w6 ⟨rfl, qk⟩; have K6 := Lib.hid (((Kp.refl wr).drew).trans qk); clear qk)
      · go_roundw
        case rel => exact ⟨k + 1, by omega, by go_num, by
          rw [List.take_add_one, HBM.out]; intro d hd; rcases List.mem_append.1 hd with hd | hd
          · exact HX.out d hd
          · have : d = b := by simpa using hd
            subst this; exact HLV.out, HB.out.fr (Fr.of_kp K6.out (fun _ => False)) id, own_fr HO.out (Fr.of_kp K6.out (fun _ => False)) (fun _ _ h => h), HL2.out.trans (K6.out.1.mono HL2.out.size)⟩
        case measure => simp [intOf]; omega
      · go_ret
        exact ⟨ret_bool (by rw [← HE1.out, eq_comm, List.any_eq_true]; exact ⟨b, List.mem_of_getElem? HBM.out, HLV.out⟩), HL2.out.trans (K6.out.1.mono HL2.out.size)⟩
    · go_wp2
      go_ret
      exact ⟨ret_bool (by
        have e : (clo l).take k = clo l := List.take_of_length_le (by omega)
        rw [e] at HX
        rw [← HE1.out, eq_comm, List.any_eq_false]; intro x hx; rw [HX.out x hx]; decide), HL2.out⟩
set_option maxHeartbeats 2000000 in
set_option maxRecDepth 100000 in
theorem rhas_1 (l : List Cp) (A : Option Addr) (n : Nat) (c : Cp) (hL : ∀ c ∈ l, RC c) (hl : l.length ≤ 1000) (hc : RC c) (al an px m2 : Bool) (e1 : (clo l).any (fun b => lessB (uns c) b) = al) (e2 : (clo l).any (fun b => canD b 128 c.ty) = an) (e3 : hasP c.pe 2 = px) (e4 : decide (uns c ∈ l) = m2) (ht : c.tg = true) (hm : decide (c ∈ l) = false) (hw : c.sealed = true ∧ c.ty = 262142 ∧ px = false) (w : World) (h : Rd w w.heap.size A l) :
    Calls Try.prog 28 #[.slice A l.length n, .agg #[true, c.pe, c.ty, c.mo, c.e, c.b, c.t, c.g, .int .u64 c.a]] w fun e w' => e = .returned (.bool false) ∧ Below w.heap.size w w' := by
  have hcl : (clo l).length ≤ 2000 := by have := clo_len l; omega
  have hca := clo_all l hL
  have hpx := hasP_two c.pe 1 (by omega) hc.p0 hc.p1 2 (by decide)
  have p0 := hc.p0
  have p1 := hc.p1
  have HT1 : Hid (∀ w1 : World, Rd w1 w1.heap.size A l → Calls Try.prog 55 #[.slice A l.length n, .agg #[true, c.pe, c.ty, c.mo, c.e, c.b, c.t, c.g, .int .u64 c.a]] w1 fun e' w' => e' = .returned (.bool false) ∧ Kp w1 w') := Lib.hid (fun w1 h1 => by have := there_v l A n c w1 h1 (by omega) false hm; rw [ht] at this; exact this)
  have HT2 : Hid (∀ w1 : World, Rd w1 w1.heap.size A l → Calls Try.prog 55 #[.slice A l.length n, .agg #[true, c.pe, .int .i64 262143, c.mo, c.e, c.b, c.t, c.g, .int .u64 c.a]] w1 fun e' w' => e' = .returned (.bool m2) ∧ Kp w1 w') := Lib.hid (fun w1 h1 => by have := there_v l A n (uns c) w1 h1 (by omega) m2 e4; rw [show (uns c).tg = true from ht] at this; exact this)
  have HCL := Lib.hid (fun w1 h1 => rclo_w l A n hL hl w1 h1)
  have HSE : Hid (∀ w1 : World, Calls Try.prog 58 #[.agg #[true, c.pe, c.ty, c.mo, c.e, c.b, c.t, c.g, .int .u64 c.a]] w1 fun e' w' => e' = .returned (.bool true) ∧ Kp w1 w') := Lib.hid (fun w1 => by have := rsealed_w c true hw.1 w1; rw [ht] at this; exact this)
  have HWI : Hid (c.ty ≤ 262135 → ∀ (A' : Option Addr) (cap : Nat) (w1 : World), Rd w1 w1.heap.size A' (clo l) → Calls Try.prog 56 #[.slice A' (clo l).length cap, .int .i64 128, c.ty] w1 fun e' w' => e' = .returned (.bool an) ∧ Kp w1 w') := Lib.hid (fun hy A' cap w1 h1 => by
    have := with128_w (clo l) A' cap c.ty (fun d hd => (hca d hd).1) hc.y0 hy w1 h1 (by omega)
    rw [key_with (clo l) hca, e2] at this; exact this)
  have HLE : Hid (∀ b ∈ clo l, ∀ w1 : World, Calls Try.prog 26 #[.agg #[true, c.pe, .int .i64 262143, c.mo, c.e, c.b, c.t, c.g, .int .u64 c.a], .agg #[b.tg, b.pe, b.ty, b.mo, b.e, b.b, b.t, b.g, .int .u64 b.a]] w1 fun e' w' => e' = .returned (.bool (lessB (uns c) b)) ∧ Kp w1 w') := Lib.hid (fun b hb w1 => by have := rless_w (uns c) b hc.uns (hca b hb).1 _ rfl w1; rw [show (uns c).tg = true from ht] at this; exact this)
  have HE1 := Lib.hid e1
  have HH := Lib.hid h
  have BK0 : Hid (Blk (w.alloc (.cells #[true, c.pe, c.ty, c.mo, c.e, c.b, c.t, c.g, .int .u64 c.a] 25)) (w.heap.size) 25 [true, c.pe, c.ty, c.mo, c.e, c.b, c.t, c.g, .int .u64 c.a]) := Lib.hid (Blk.new w 25 [true, c.pe, c.ty, c.mo, c.e, c.b, c.t, c.g, .int .u64 c.a])
  have RD0 : Hid (Rd (w.alloc (.cells #[true, c.pe, c.ty, c.mo, c.e, c.b, c.t, c.g, .int .u64 c.a] 25)) (w.alloc (.cells #[true, c.pe, c.ty, c.mo, c.e, c.b, c.t, c.g, .int .u64 c.a] 25)).heap.size A l) := Lib.hid ((h.alloc (Nat.le_refl _) _).more (by simp))
  have BL0 : Hid (Below (w.heap.size) w (w.alloc (.cells #[true, c.pe, c.ty, c.mo, c.e, c.b, c.t, c.g, .int .u64 c.a] 25))) := Lib.hid ((Below.refl _ _).alloc (Nat.le_refl _) _)
  have f1 : (c.ty == 262142) = true := by simpa using hw.2.1
  have f2 : (c.pe / 2 % 2 == 0) = true := by have := hw.2.2; rw [← e3, hpx] at this; simp at this ⊢; omega
  clear h hL hc e1 e2 e3 e4 ht hm hw hpx hca HWI
  go_enter Try.func28, Try.ntmps28
  go_wp2_with (first
    | (go_at_call 55; (with_reducible refine (HT1.out _ RD0.out).mono ?_); rintro e' w1 ⟨rfl, qk⟩; have BK1 := Lib.hid (BK0.out.fr (Fr.of_kp qk (fun _ => False)) id); obtain ⟨_, _, _, _, _, _, _, _, _⟩ := BK1.out.at_.out9; have hs1 := BK1.out.lt; have RD1 := Lib.hid ((RD0.out.kp qk (Nat.le_refl _)).more qk.size); have BL1 := Lib.hid (BL0.out.trans (qk.1.mono (by simp))); clear qk)
    | (go_at_call 23; (with_reducible refine (HCL.out _ RD1.out).mono ?_); rintro e' w2 ⟨A', cap, rfl, ho2, hr2, hb2⟩; have OC2 := Lib.hid ho2; have BK2 := Lib.hid (BK1.out.below hb2 hs1); obtain ⟨_, _, _, _, _, _, _, _, _⟩ := BK2.out.at_.out9; have hs2 := BK2.out.lt; have RC2 := Lib.hid hr2; have RD2 := Lib.hid ((RD1.out.keep fun p hp => hb2.cell hp).more hb2.size); have BL2 := Lib.hid (BL1.out.trans (hb2.mono (Nat.le_of_lt hs1))); clear ho2 hr2 hb2)
    | (go_at_call 58; (with_reducible refine (HSE.out _).mono ?_); rintro e' w3 ⟨rfl, qk⟩; have BK3 := Lib.hid (BK2.out.fr (Fr.of_kp qk (fun _ => False)) id); obtain ⟨_, _, _, _, _, _, _, _, _⟩ := BK3.out.at_.out9; have zf3 := BK3.out.frozen 2; have hs3 := BK3.out.lt; have RC3 := Lib.hid ((RC2.out.kp qk (Nat.le_refl _)).more qk.size); have OC3 := Lib.hid (own_fr OC2.out (Fr.of_kp qk (fun _ => False)) (fun _ _ h => h)); have RD3 := Lib.hid ((RD2.out.kp qk (Nat.le_refl _)).more qk.size); have BL3 := Lib.hid (BL2.out.trans (qk.1.mono (Nat.le_of_lt hs2))); clear qk))
  go_ret
  exact ⟨rfl, BL3.out⟩
set_option maxHeartbeats 2000000 in
set_option maxRecDepth 100000 in
theorem rhas_2 (l : List Cp) (A : Option Addr) (n : Nat) (c : Cp) (hL : ∀ c ∈ l, RC c) (hl : l.length ≤ 1000) (hc : RC c) (al an px m2 : Bool) (e1 : (clo l).any (fun b => lessB (uns c) b) = al) (e2 : (clo l).any (fun b => canD b 128 c.ty) = an) (e3 : hasP c.pe 2 = px) (e4 : decide (uns c ∈ l) = m2) (ht : c.tg = true) (hm : decide (c ∈ l) = false) (hw : c.sealed = true ∧ 262135 < c.ty ∧ c.ty ≠ 262142) (w : World) (h : Rd w w.heap.size A l) :
    Calls Try.prog 28 #[.slice A l.length n, .agg #[true, c.pe, c.ty, c.mo, c.e, c.b, c.t, c.g, .int .u64 c.a]] w fun e w' => e = .returned (.bool false) ∧ Below w.heap.size w w' := by
  have hcl : (clo l).length ≤ 2000 := by have := clo_len l; omega
  have hca := clo_all l hL
  have hpx := hasP_two c.pe 1 (by omega) hc.p0 hc.p1 2 (by decide)
  have p0 := hc.p0
  have p1 := hc.p1
  have HT1 : Hid (∀ w1 : World, Rd w1 w1.heap.size A l → Calls Try.prog 55 #[.slice A l.length n, .agg #[true, c.pe, c.ty, c.mo, c.e, c.b, c.t, c.g, .int .u64 c.a]] w1 fun e' w' => e' = .returned (.bool false) ∧ Kp w1 w') := Lib.hid (fun w1 h1 => by have := there_v l A n c w1 h1 (by omega) false hm; rw [ht] at this; exact this)
  have HT2 : Hid (∀ w1 : World, Rd w1 w1.heap.size A l → Calls Try.prog 55 #[.slice A l.length n, .agg #[true, c.pe, .int .i64 262143, c.mo, c.e, c.b, c.t, c.g, .int .u64 c.a]] w1 fun e' w' => e' = .returned (.bool m2) ∧ Kp w1 w') := Lib.hid (fun w1 h1 => by have := there_v l A n (uns c) w1 h1 (by omega) m2 e4; rw [show (uns c).tg = true from ht] at this; exact this)
  have HCL := Lib.hid (fun w1 h1 => rclo_w l A n hL hl w1 h1)
  have HSE : Hid (∀ w1 : World, Calls Try.prog 58 #[.agg #[true, c.pe, c.ty, c.mo, c.e, c.b, c.t, c.g, .int .u64 c.a]] w1 fun e' w' => e' = .returned (.bool true) ∧ Kp w1 w') := Lib.hid (fun w1 => by have := rsealed_w c true hw.1 w1; rw [ht] at this; exact this)
  have HWI : Hid (c.ty ≤ 262135 → ∀ (A' : Option Addr) (cap : Nat) (w1 : World), Rd w1 w1.heap.size A' (clo l) → Calls Try.prog 56 #[.slice A' (clo l).length cap, .int .i64 128, c.ty] w1 fun e' w' => e' = .returned (.bool an) ∧ Kp w1 w') := Lib.hid (fun hy A' cap w1 h1 => by
    have := with128_w (clo l) A' cap c.ty (fun d hd => (hca d hd).1) hc.y0 hy w1 h1 (by omega)
    rw [key_with (clo l) hca, e2] at this; exact this)
  have HLE : Hid (∀ b ∈ clo l, ∀ w1 : World, Calls Try.prog 26 #[.agg #[true, c.pe, .int .i64 262143, c.mo, c.e, c.b, c.t, c.g, .int .u64 c.a], .agg #[b.tg, b.pe, b.ty, b.mo, b.e, b.b, b.t, b.g, .int .u64 b.a]] w1 fun e' w' => e' = .returned (.bool (lessB (uns c) b)) ∧ Kp w1 w') := Lib.hid (fun b hb w1 => by have := rless_w (uns c) b hc.uns (hca b hb).1 _ rfl w1; rw [show (uns c).tg = true from ht] at this; exact this)
  have HE1 := Lib.hid e1
  have HH := Lib.hid h
  have BK0 : Hid (Blk (w.alloc (.cells #[true, c.pe, c.ty, c.mo, c.e, c.b, c.t, c.g, .int .u64 c.a] 25)) (w.heap.size) 25 [true, c.pe, c.ty, c.mo, c.e, c.b, c.t, c.g, .int .u64 c.a]) := Lib.hid (Blk.new w 25 [true, c.pe, c.ty, c.mo, c.e, c.b, c.t, c.g, .int .u64 c.a])
  have RD0 : Hid (Rd (w.alloc (.cells #[true, c.pe, c.ty, c.mo, c.e, c.b, c.t, c.g, .int .u64 c.a] 25)) (w.alloc (.cells #[true, c.pe, c.ty, c.mo, c.e, c.b, c.t, c.g, .int .u64 c.a] 25)).heap.size A l) := Lib.hid ((h.alloc (Nat.le_refl _) _).more (by simp))
  have BL0 : Hid (Below (w.heap.size) w (w.alloc (.cells #[true, c.pe, c.ty, c.mo, c.e, c.b, c.t, c.g, .int .u64 c.a] 25))) := Lib.hid ((Below.refl _ _).alloc (Nat.le_refl _) _)
  have f1 : (c.ty == 262142) = false := by simpa using hw.2.2
  have f3 : (c.ty != 262142) = true := by simpa using hw.2.2
  have f4 := hw.2.1
  clear h hL hc e1 e2 e3 e4 ht hm hw hpx hca HWI
  go_enter Try.func28, Try.ntmps28
  go_wp2_with (first
    | (go_at_call 55; (with_reducible refine (HT1.out _ RD0.out).mono ?_); rintro e' w1 ⟨rfl, qk⟩; have BK1 := Lib.hid (BK0.out.fr (Fr.of_kp qk (fun _ => False)) id); obtain ⟨_, _, _, _, _, _, _, _, _⟩ := BK1.out.at_.out9; have hs1 := BK1.out.lt; have RD1 := Lib.hid ((RD0.out.kp qk (Nat.le_refl _)).more qk.size); have BL1 := Lib.hid (BL0.out.trans (qk.1.mono (by simp))); clear qk)
    | (go_at_call 23; (with_reducible refine (HCL.out _ RD1.out).mono ?_); rintro e' w2 ⟨A', cap, rfl, ho2, hr2, hb2⟩; have OC2 := Lib.hid ho2; have BK2 := Lib.hid (BK1.out.below hb2 hs1); obtain ⟨_, _, _, _, _, _, _, _, _⟩ := BK2.out.at_.out9; have hs2 := BK2.out.lt; have RC2 := Lib.hid hr2; have RD2 := Lib.hid ((RD1.out.keep fun p hp => hb2.cell hp).more hb2.size); have BL2 := Lib.hid (BL1.out.trans (hb2.mono (Nat.le_of_lt hs1))); clear ho2 hr2 hb2)
    | (go_at_call 58; (with_reducible refine (HSE.out _).mono ?_); rintro e' w3 ⟨rfl, qk⟩; have BK3 := Lib.hid (BK2.out.fr (Fr.of_kp qk (fun _ => False)) id); obtain ⟨_, _, _, _, _, _, _, _, _⟩ := BK3.out.at_.out9; have zf3 := BK3.out.frozen 2; have hs3 := BK3.out.lt; have RC3 := Lib.hid ((RC2.out.kp qk (Nat.le_refl _)).more qk.size); have OC3 := Lib.hid (own_fr OC2.out (Fr.of_kp qk (fun _ => False)) (fun _ _ h => h)); have RD3 := Lib.hid ((RD2.out.kp qk (Nat.le_refl _)).more qk.size); have BL3 := Lib.hid (BL2.out.trans (qk.1.mono (Nat.le_of_lt hs2))); clear qk))
  go_ret
  exact ⟨rfl, BL3.out⟩
set_option maxHeartbeats 2000000 in
set_option maxRecDepth 100000 in
theorem rhas_3 (l : List Cp) (A : Option Addr) (n : Nat) (c : Cp) (hL : ∀ c ∈ l, RC c) (hl : l.length ≤ 1000) (hc : RC c) (al an px m2 : Bool) (e1 : (clo l).any (fun b => lessB (uns c) b) = al) (e2 : (clo l).any (fun b => canD b 128 c.ty) = an) (e3 : hasP c.pe 2 = px) (e4 : decide (uns c ∈ l) = m2) (ht : c.tg = true) (hm : decide (c ∈ l) = false) (hw : c.sealed = true ∧ c.ty = 262142 ∧ px = true ∧ m2 = true) (w : World) (h : Rd w w.heap.size A l) :
    Calls Try.prog 28 #[.slice A l.length n, .agg #[true, c.pe, c.ty, c.mo, c.e, c.b, c.t, c.g, .int .u64 c.a]] w fun e w' => e = .returned (.bool true) ∧ Below w.heap.size w w' := by
  have hcl : (clo l).length ≤ 2000 := by have := clo_len l; omega
  have hca := clo_all l hL
  have hpx := hasP_two c.pe 1 (by omega) hc.p0 hc.p1 2 (by decide)
  have p0 := hc.p0
  have p1 := hc.p1
  have HT1 : Hid (∀ w1 : World, Rd w1 w1.heap.size A l → Calls Try.prog 55 #[.slice A l.length n, .agg #[true, c.pe, c.ty, c.mo, c.e, c.b, c.t, c.g, .int .u64 c.a]] w1 fun e' w' => e' = .returned (.bool false) ∧ Kp w1 w') := Lib.hid (fun w1 h1 => by have := there_v l A n c w1 h1 (by omega) false hm; rw [ht] at this; exact this)
  have HT2 : Hid (∀ w1 : World, Rd w1 w1.heap.size A l → Calls Try.prog 55 #[.slice A l.length n, .agg #[true, c.pe, .int .i64 262143, c.mo, c.e, c.b, c.t, c.g, .int .u64 c.a]] w1 fun e' w' => e' = .returned (.bool m2) ∧ Kp w1 w') := Lib.hid (fun w1 h1 => by have := there_v l A n (uns c) w1 h1 (by omega) m2 e4; rw [show (uns c).tg = true from ht] at this; exact this)
  have HCL := Lib.hid (fun w1 h1 => rclo_w l A n hL hl w1 h1)
  have HSE : Hid (∀ w1 : World, Calls Try.prog 58 #[.agg #[true, c.pe, c.ty, c.mo, c.e, c.b, c.t, c.g, .int .u64 c.a]] w1 fun e' w' => e' = .returned (.bool true) ∧ Kp w1 w') := Lib.hid (fun w1 => by have := rsealed_w c true hw.1 w1; rw [ht] at this; exact this)
  have HWI : Hid (c.ty ≤ 262135 → ∀ (A' : Option Addr) (cap : Nat) (w1 : World), Rd w1 w1.heap.size A' (clo l) → Calls Try.prog 56 #[.slice A' (clo l).length cap, .int .i64 128, c.ty] w1 fun e' w' => e' = .returned (.bool an) ∧ Kp w1 w') := Lib.hid (fun hy A' cap w1 h1 => by
    have := with128_w (clo l) A' cap c.ty (fun d hd => (hca d hd).1) hc.y0 hy w1 h1 (by omega)
    rw [key_with (clo l) hca, e2] at this; exact this)
  have HLE : Hid (∀ b ∈ clo l, ∀ w1 : World, Calls Try.prog 26 #[.agg #[true, c.pe, .int .i64 262143, c.mo, c.e, c.b, c.t, c.g, .int .u64 c.a], .agg #[b.tg, b.pe, b.ty, b.mo, b.e, b.b, b.t, b.g, .int .u64 b.a]] w1 fun e' w' => e' = .returned (.bool (lessB (uns c) b)) ∧ Kp w1 w') := Lib.hid (fun b hb w1 => by have := rless_w (uns c) b hc.uns (hca b hb).1 _ rfl w1; rw [show (uns c).tg = true from ht] at this; exact this)
  have HE1 := Lib.hid e1
  have HH := Lib.hid h
  have BK0 : Hid (Blk (w.alloc (.cells #[true, c.pe, c.ty, c.mo, c.e, c.b, c.t, c.g, .int .u64 c.a] 25)) (w.heap.size) 25 [true, c.pe, c.ty, c.mo, c.e, c.b, c.t, c.g, .int .u64 c.a]) := Lib.hid (Blk.new w 25 [true, c.pe, c.ty, c.mo, c.e, c.b, c.t, c.g, .int .u64 c.a])
  have RD0 : Hid (Rd (w.alloc (.cells #[true, c.pe, c.ty, c.mo, c.e, c.b, c.t, c.g, .int .u64 c.a] 25)) (w.alloc (.cells #[true, c.pe, c.ty, c.mo, c.e, c.b, c.t, c.g, .int .u64 c.a] 25)).heap.size A l) := Lib.hid ((h.alloc (Nat.le_refl _) _).more (by simp))
  have BL0 : Hid (Below (w.heap.size) w (w.alloc (.cells #[true, c.pe, c.ty, c.mo, c.e, c.b, c.t, c.g, .int .u64 c.a] 25))) := Lib.hid ((Below.refl _ _).alloc (Nat.le_refl _) _)
  have f1 : (c.ty == 262142) = true := by simpa using hw.2.1
  have f2 : (c.pe / 2 % 2 == 0) = false := by have := hw.2.2.1; rw [← e3, hpx] at this; simp at this ⊢; omega
  have f3 : (c.ty != 262142) = false := by simpa using hw.2.1
  have f4 : 262135 < c.ty := by have := hw.2.1; omega
  obtain rfl := hw.2.2.2
  clear h hL hc e1 e2 e3 e4 ht hm hw hpx hca HWI
  go_enter Try.func28, Try.ntmps28
  go_upto_region 10 with (first
    | (go_at_call 55; (with_reducible refine (HT1.out _ RD0.out).mono ?_); rintro e' w1 ⟨rfl, qk⟩; have BK1 := Lib.hid (BK0.out.fr (Fr.of_kp qk (fun _ => False)) id); obtain ⟨_, _, _, _, _, _, _, _, _⟩ := BK1.out.at_.out9; have hs1 := BK1.out.lt; have RD1 := Lib.hid ((RD0.out.kp qk (Nat.le_refl _)).more qk.size); have BL1 := Lib.hid (BL0.out.trans (qk.1.mono (by simp))); clear qk)
    | (go_at_call 23; (with_reducible refine (HCL.out _ RD1.out).mono ?_); rintro e' w2 ⟨A', cap, rfl, ho2, hr2, hb2⟩; have OC2 := Lib.hid ho2; have BK2 := Lib.hid (BK1.out.below hb2 hs1); obtain ⟨_, _, _, _, _, _, _, _, _⟩ := BK2.out.at_.out9; have hs2 := BK2.out.lt; have RC2 := Lib.hid hr2; have RD2 := Lib.hid ((RD1.out.keep fun p hp => hb2.cell hp).more hb2.size); have BL2 := Lib.hid (BL1.out.trans (hb2.mono (Nat.le_of_lt hs1))); clear ho2 hr2 hb2)
    | (go_at_call 58; (with_reducible refine (HSE.out _).mono ?_); rintro e' w3 ⟨rfl, qk⟩; have BK3 := Lib.hid (BK2.out.fr (Fr.of_kp qk (fun _ => False)) id); obtain ⟨_, _, _, _, _, _, _, _, _⟩ := BK3.out.at_.out9; have zf3 := BK3.out.frozen 2; have hs3 := BK3.out.lt; have RC3 := Lib.hid ((RC2.out.kp qk (Nat.le_refl _)).more qk.size); have OC3 := Lib.hid (own_fr OC2.out (Fr.of_kp qk (fun _ => False)) (fun _ _ h => h)); have RD3 := Lib.hid ((RD2.out.kp qk (Nat.le_refl _)).more qk.size); have BL3 := Lib.hid (BL2.out.trans (qk.1.mono (Nat.le_of_lt hs2))); clear qk))
  have FS : Fr w3 (w3.setCell ⟨w.heap.size, 2, none⟩ (.int .i64 262143)) (fun k => k = w.heap.size) := (Fr.refl w3 (fun k => k = w.heap.size)).setCell (p := ⟨w.heap.size, 2, none⟩) (.inr rfl) _
  have BKS : Hid (Blk (w3.setCell ⟨w.heap.size, 2, none⟩ (.int .i64 262143)) (w.heap.size) 25 [true, c.pe, .int .i64 262143, c.mo, c.e, c.b, c.t, c.g, .int .u64 c.a]) := Lib.hid (BK3.out.set_ 2 (.int .i64 262143))
  have hsS : w.heap.size < (w3.setCell ⟨w.heap.size, 2, none⟩ (.int .i64 262143)).heap.size := BKS.out.lt
  have BLS : Hid (Below (w.heap.size) w (w3.setCell ⟨w.heap.size, 2, none⟩ (.int .i64 262143))) := Lib.hid (BL3.out.setCell (Nat.le_refl _) _)
  have RDS : Hid (Rd (w3.setCell ⟨w.heap.size, 2, none⟩ (.int .i64 262143)) (w3.setCell ⟨w.heap.size, 2, none⟩ (.int .i64 262143)).heap.size A l) := Lib.hid ((HH.out.keep fun p hp => BLS.out.cell hp).more BLS.out.size)
  have OCS := Lib.hid (own_fr OC3.out FS (fun g hg e => by have := (OC3.out.lt g hg).1; omega))
  clear FS
  obtain ⟨_, _, _, _, _, _, _, _, _⟩ := BKS.out.at_.out9
  go_wp2_with (go_at_call 55; (with_reducible refine (HT2.out _ RDS.out).mono ?_); rintro e' w5 ⟨rfl, qk⟩; have BK5 := Lib.hid (BKS.out.fr (Fr.of_kp qk (fun _ => False)) id); obtain ⟨_, _, _, _, _, _, _, _, _⟩ := BK5.out.at_.out9; have hs5 := BK5.out.lt; have OC5 := Lib.hid (own_fr OCS.out (Fr.of_kp qk (fun _ => False)) (fun _ _ h => h)); have BL5 := Lib.hid (BLS.out.trans (qk.1.mono (by first | exact Nat.le_of_lt hsS | simp))); clear qk)
  go_ret
  exact ⟨rfl, BL5.out⟩
set_option maxHeartbeats 2000000 in
set_option maxRecDepth 100000 in
theorem rhas_4 (l : List Cp) (A : Option Addr) (n : Nat) (c : Cp) (hL : ∀ c ∈ l, RC c) (hl : l.length ≤ 1000) (hc : RC c) (al an px m2 : Bool) (e1 : (clo l).any (fun b => lessB (uns c) b) = al) (e2 : (clo l).any (fun b => canD b 128 c.ty) = an) (e3 : hasP c.pe 2 = px) (e4 : decide (uns c ∈ l) = m2) (ht : c.tg = true) (hm : decide (c ∈ l) = false) (hw : c.sealed = true ∧ c.ty = 262142 ∧ px = true ∧ m2 = false) (w : World) (h : Rd w w.heap.size A l) :
    Calls Try.prog 28 #[.slice A l.length n, .agg #[true, c.pe, c.ty, c.mo, c.e, c.b, c.t, c.g, .int .u64 c.a]] w fun e w' => e = .returned (.bool al) ∧ Below w.heap.size w w' := by
  have hcl : (clo l).length ≤ 2000 := by have := clo_len l; omega
  have hca := clo_all l hL
  have hpx := hasP_two c.pe 1 (by omega) hc.p0 hc.p1 2 (by decide)
  have p0 := hc.p0
  have p1 := hc.p1
  have HT1 : Hid (∀ w1 : World, Rd w1 w1.heap.size A l → Calls Try.prog 55 #[.slice A l.length n, .agg #[true, c.pe, c.ty, c.mo, c.e, c.b, c.t, c.g, .int .u64 c.a]] w1 fun e' w' => e' = .returned (.bool false) ∧ Kp w1 w') := Lib.hid (fun w1 h1 => by have := there_v l A n c w1 h1 (by omega) false hm; rw [ht] at this; exact this)
  have HT2 : Hid (∀ w1 : World, Rd w1 w1.heap.size A l → Calls Try.prog 55 #[.slice A l.length n, .agg #[true, c.pe, .int .i64 262143, c.mo, c.e, c.b, c.t, c.g, .int .u64 c.a]] w1 fun e' w' => e' = .returned (.bool m2) ∧ Kp w1 w') := Lib.hid (fun w1 h1 => by have := there_v l A n (uns c) w1 h1 (by omega) m2 e4; rw [show (uns c).tg = true from ht] at this; exact this)
  have HCL := Lib.hid (fun w1 h1 => rclo_w l A n hL hl w1 h1)
  have HSE : Hid (∀ w1 : World, Calls Try.prog 58 #[.agg #[true, c.pe, c.ty, c.mo, c.e, c.b, c.t, c.g, .int .u64 c.a]] w1 fun e' w' => e' = .returned (.bool true) ∧ Kp w1 w') := Lib.hid (fun w1 => by have := rsealed_w c true hw.1 w1; rw [ht] at this; exact this)
  have HWI : Hid (c.ty ≤ 262135 → ∀ (A' : Option Addr) (cap : Nat) (w1 : World), Rd w1 w1.heap.size A' (clo l) → Calls Try.prog 56 #[.slice A' (clo l).length cap, .int .i64 128, c.ty] w1 fun e' w' => e' = .returned (.bool an) ∧ Kp w1 w') := Lib.hid (fun hy A' cap w1 h1 => by
    have := with128_w (clo l) A' cap c.ty (fun d hd => (hca d hd).1) hc.y0 hy w1 h1 (by omega)
    rw [key_with (clo l) hca, e2] at this; exact this)
  have HLE : Hid (∀ b ∈ clo l, ∀ w1 : World, Calls Try.prog 26 #[.agg #[true, c.pe, .int .i64 262143, c.mo, c.e, c.b, c.t, c.g, .int .u64 c.a], .agg #[b.tg, b.pe, b.ty, b.mo, b.e, b.b, b.t, b.g, .int .u64 b.a]] w1 fun e' w' => e' = .returned (.bool (lessB (uns c) b)) ∧ Kp w1 w') := Lib.hid (fun b hb w1 => by have := rless_w (uns c) b hc.uns (hca b hb).1 _ rfl w1; rw [show (uns c).tg = true from ht] at this; exact this)
  have HE1 := Lib.hid e1
  have HH := Lib.hid h
  have BK0 : Hid (Blk (w.alloc (.cells #[true, c.pe, c.ty, c.mo, c.e, c.b, c.t, c.g, .int .u64 c.a] 25)) (w.heap.size) 25 [true, c.pe, c.ty, c.mo, c.e, c.b, c.t, c.g, .int .u64 c.a]) := Lib.hid (Blk.new w 25 [true, c.pe, c.ty, c.mo, c.e, c.b, c.t, c.g, .int .u64 c.a])
  have RD0 : Hid (Rd (w.alloc (.cells #[true, c.pe, c.ty, c.mo, c.e, c.b, c.t, c.g, .int .u64 c.a] 25)) (w.alloc (.cells #[true, c.pe, c.ty, c.mo, c.e, c.b, c.t, c.g, .int .u64 c.a] 25)).heap.size A l) := Lib.hid ((h.alloc (Nat.le_refl _) _).more (by simp))
  have BL0 : Hid (Below (w.heap.size) w (w.alloc (.cells #[true, c.pe, c.ty, c.mo, c.e, c.b, c.t, c.g, .int .u64 c.a] 25))) := Lib.hid ((Below.refl _ _).alloc (Nat.le_refl _) _)
  have f1 : (c.ty == 262142) = true := by simpa using hw.2.1
  have f2 : (c.pe / 2 % 2 == 0) = false := by have := hw.2.2.1; rw [← e3, hpx] at this; simp at this ⊢; omega
  have f3 : (c.ty != 262142) = false := by simpa using hw.2.1
  have f4 : 262135 < c.ty := by have := hw.2.1; omega
  obtain rfl := hw.2.2.2
  clear h hL hc e1 e2 e3 e4 ht hm hw hpx hca HWI
  go_enter Try.func28, Try.ntmps28
  go_upto_region 10 with (first
    | (go_at_call 55; (with_reducible refine (HT1.out _ RD0.out).mono ?_); rintro e' w1 ⟨rfl, qk⟩; have BK1 := Lib.hid (BK0.out.fr (Fr.of_kp qk (fun _ => False)) id); obtain ⟨_, _, _, _, _, _, _, _, _⟩ := BK1.out.at_.out9; have hs1 := BK1.out.lt; have RD1 := Lib.hid ((RD0.out.kp qk (Nat.le_refl _)).more qk.size); have BL1 := Lib.hid (BL0.out.trans (qk.1.mono (by simp))); clear qk)
    | (go_at_call 23; (with_reducible refine (HCL.out _ RD1.out).mono ?_); rintro e' w2 ⟨A', cap, rfl, ho2, hr2, hb2⟩; have OC2 := Lib.hid ho2; have BK2 := Lib.hid (BK1.out.below hb2 hs1); obtain ⟨_, _, _, _, _, _, _, _, _⟩ := BK2.out.at_.out9; have hs2 := BK2.out.lt; have RC2 := Lib.hid hr2; have RD2 := Lib.hid ((RD1.out.keep fun p hp => hb2.cell hp).more hb2.size); have BL2 := Lib.hid (BL1.out.trans (hb2.mono (Nat.le_of_lt hs1))); clear ho2 hr2 hb2)
    | (go_at_call 58; (with_reducible refine (HSE.out _).mono ?_); rintro e' w3 ⟨rfl, qk⟩; have BK3 := Lib.hid (BK2.out.fr (Fr.of_kp qk (fun _ => False)) id); obtain ⟨_, _, _, _, _, _, _, _, _⟩ := BK3.out.at_.out9; have zf3 := BK3.out.frozen 2; have hs3 := BK3.out.lt; have RC3 := Lib.hid ((RC2.out.kp qk (Nat.le_refl _)).more qk.size); have OC3 := Lib.hid (own_fr OC2.out (Fr.of_kp qk (fun _ => False)) (fun _ _ h => h)); have RD3 := Lib.hid ((RD2.out.kp qk (Nat.le_refl _)).more qk.size); have BL3 := Lib.hid (BL2.out.trans (qk.1.mono (Nat.le_of_lt hs2))); clear qk))
  have FS : Fr w3 (w3.setCell ⟨w.heap.size, 2, none⟩ (.int .i64 262143)) (fun k => k = w.heap.size) := (Fr.refl w3 (fun k => k = w.heap.size)).setCell (p := ⟨w.heap.size, 2, none⟩) (.inr rfl) _
  have BKS : Hid (Blk (w3.setCell ⟨w.heap.size, 2, none⟩ (.int .i64 262143)) (w.heap.size) 25 [true, c.pe, .int .i64 262143, c.mo, c.e, c.b, c.t, c.g, .int .u64 c.a]) := Lib.hid (BK3.out.set_ 2 (.int .i64 262143))
  have hsS : w.heap.size < (w3.setCell ⟨w.heap.size, 2, none⟩ (.int .i64 262143)).heap.size := BKS.out.lt
  have BLS : Hid (Below (w.heap.size) w (w3.setCell ⟨w.heap.size, 2, none⟩ (.int .i64 262143))) := Lib.hid (BL3.out.setCell (Nat.le_refl _) _)
  have RDS : Hid (Rd (w3.setCell ⟨w.heap.size, 2, none⟩ (.int .i64 262143)) (w3.setCell ⟨w.heap.size, 2, none⟩ (.int .i64 262143)).heap.size A l) := Lib.hid ((HH.out.keep fun p hp => BLS.out.cell hp).more BLS.out.size)
  have OCS := Lib.hid (own_fr OC3.out FS (fun g hg e => by have := (OC3.out.lt g hg).1; omega))
  clear FS
  obtain ⟨_, _, _, _, _, _, _, _, _⟩ := BKS.out.at_.out9
  go_wp2_with (go_at_call 55; (with_reducible refine (HT2.out _ RDS.out).mono ?_); rintro e' w5 ⟨rfl, qk⟩; have BK5 := Lib.hid (BKS.out.fr (Fr.of_kp qk (fun _ => False)) id); obtain ⟨_, _, _, _, _, _, _, _, _⟩ := BK5.out.at_.out9; have hs5 := BK5.out.lt; have OC5 := Lib.hid (own_fr OCS.out (Fr.of_kp qk (fun _ => False)) (fun _ _ h => h)); have BL5 := Lib.hid (BLS.out.trans (qk.1.mono (by first | exact Nat.le_of_lt hsS | simp))); clear qk)
  go_loopw [6] (fun i wr => ∃ k : Nat, k ≤ (clo l).length ∧ i = .int .i64 k ∧ (∀ b ∈ (clo l).take k, lessB (uns c) b = false) ∧ Blk wr (w.heap.size) 25 [true, c.pe, .int .i64 262143, c.mo, c.e, c.b, c.t, c.g, .int .u64 c.a] ∧ OwnC wr w1.heap.size (.slice A' (clo l).length cap) (clo l) ∧ Below (w.heap.size) w wr) (fun i _ => (clo l).length - (intOf i).toNat)
  case atStart => exact ⟨0, Nat.zero_le _, rfl, by simp, BK5.out, OC5.out, BL5.out⟩
  case round =>
    obtain ⟨k, hk, rfl, hx, hbk, hoc, hbl⟩ := hrel
    have HX := Lib.hid hx
    have HB := Lib.hid hbk
    have HO := Lib.hid hoc
    have HL2 := Lib.hid hbl
    clear hx hbk hoc hbl
    obtain ⟨_, _, _, _, _, _, _, _, _⟩ := HB.out.at_.out9
    by_cases hlt : k < (clo l).length
    · obtain ⟨A2, cap2, ev, _, hr2, -⟩ := HO.out.rd
      cases ev
      obtain ⟨bb, oo, rfl, hbb, b, hb, hr⟩ := hr2.at_ hlt
      obtain ⟨r0, r1, r2, r3, r4, r5, r6, r7, r8⟩ := hr.out
      have HBM := Lib.hid hb
      have HC := Lib.hid (HLE.out b (List.mem_of_getElem? hb))
      obtain ⟨lv, hlv⟩ : ∃ lv, lessB (uns c) b = lv := ⟨_, rfl⟩
      rw [hlv] at HC
      have HLV := Lib.hid hlv
      clear hlv hb hr hr2
      cases lv
      all_goals
        go_upto_region 15 with fail
        refine wp_region_still_tail 5 (by kernel_rfl) (by kernel_rfl) ?_
        simp only [List.take_succ_cons, List.take_zero, List.drop_succ_cons, List.drop_zero]
        repeat still_step
        refine wpStill_nil ?_
        change wpList _ _ _ _ _ wr.drew
        go_wp2_with (go_at_call 26; (with_reducible refine (HC.out _).mono ?_); rintro e' w6 ⟨rfl, qk⟩; have K6 := Lib.hid (((Kp.refl wr).drew).trans qk); clear qk)
      · go_roundw
        case rel => exact ⟨k + 1, by omega, by go_num, by
          rw [List.take_add_one, HBM.out]; intro d hd; rcases List.mem_append.1 hd with hd | hd
          · exact HX.out d hd
          · have : d = b := by simpa using hd
            subst this; exact HLV.out, HB.out.fr (Fr.of_kp K6.out (fun _ => False)) id, own_fr HO.out (Fr.of_kp K6.out (fun _ => False)) (fun _ _ h => h), HL2.out.trans (K6.out.1.mono HL2.out.size)⟩
        case measure => simp [intOf]; omega
      · go_ret
        exact ⟨ret_bool (by rw [← HE1.out, eq_comm, List.any_eq_true]; exact ⟨b, List.mem_of_getElem? HBM.out, HLV.out⟩), HL2.out.trans (K6.out.1.mono HL2.out.size)⟩
    · go_wp2
      go_ret
      exact ⟨ret_bool (by
        have e : (clo l).take k = clo l := List.take_of_length_le (by omega)
        rw [e] at HX
        rw [← HE1.out, eq_comm, List.any_eq_false]; intro x hx; rw [HX.out x hx]; decide), HL2.out⟩
set_option maxHeartbeats 2000000 in
set_option maxRecDepth 100000 in
theorem rhas_5 (l : List Cp) (A : Option Addr) (n : Nat) (c : Cp) (hL : ∀ c ∈ l, RC c) (hl : l.length ≤ 1000) (hc : RC c) (al an px m2 : Bool) (e1 : (clo l).any (fun b => lessB (uns c) b) = al) (e2 : (clo l).any (fun b => canD b 128 c.ty) = an) (e3 : hasP c.pe 2 = px) (e4 : decide (uns c ∈ l) = m2) (ht : c.tg = true) (hm : decide (c ∈ l) = false) (hw : c.sealed = true ∧ c.ty ≤ 262135 ∧ an = false) (w : World) (h : Rd w w.heap.size A l) :
    Calls Try.prog 28 #[.slice A l.length n, .agg #[true, c.pe, c.ty, c.mo, c.e, c.b, c.t, c.g, .int .u64 c.a]] w fun e w' => e = .returned (.bool false) ∧ Below w.heap.size w w' := by
  have hcl : (clo l).length ≤ 2000 := by have := clo_len l; omega
  have hca := clo_all l hL
  have hpx := hasP_two c.pe 1 (by omega) hc.p0 hc.p1 2 (by decide)
  have p0 := hc.p0
  have p1 := hc.p1
  have HT1 : Hid (∀ w1 : World, Rd w1 w1.heap.size A l → Calls Try.prog 55 #[.slice A l.length n, .agg #[true, c.pe, c.ty, c.mo, c.e, c.b, c.t, c.g, .int .u64 c.a]] w1 fun e' w' => e' = .returned (.bool false) ∧ Kp w1 w') := Lib.hid (fun w1 h1 => by have := there_v l A n c w1 h1 (by omega) false hm; rw [ht] at this; exact this)
  have HT2 : Hid (∀ w1 : World, Rd w1 w1.heap.size A l → Calls Try.prog 55 #[.slice A l.length n, .agg #[true, c.pe, .int .i64 262143, c.mo, c.e, c.b, c.t, c.g, .int .u64 c.a]] w1 fun e' w' => e' = .returned (.bool m2) ∧ Kp w1 w') := Lib.hid (fun w1 h1 => by have := there_v l A n (uns c) w1 h1 (by omega) m2 e4; rw [show (uns c).tg = true from ht] at this; exact this)
  have HCL := Lib.hid (fun w1 h1 => rclo_w l A n hL hl w1 h1)
  have HSE : Hid (∀ w1 : World, Calls Try.prog 58 #[.agg #[true, c.pe, c.ty, c.mo, c.e, c.b, c.t, c.g, .int .u64 c.a]] w1 fun e' w' => e' = .returned (.bool true) ∧ Kp w1 w') := Lib.hid (fun w1 => by have := rsealed_w c true hw.1 w1; rw [ht] at this; exact this)
  have HWI : Hid (c.ty ≤ 262135 → ∀ (A' : Option Addr) (cap : Nat) (w1 : World), Rd w1 w1.heap.size A' (clo l) → Calls Try.prog 56 #[.slice A' (clo l).length cap, .int .i64 128, c.ty] w1 fun e' w' => e' = .returned (.bool an) ∧ Kp w1 w') := Lib.hid (fun hy A' cap w1 h1 => by
    have := with128_w (clo l) A' cap c.ty (fun d hd => (hca d hd).1) hc.y0 hy w1 h1 (by omega)
    rw [key_with (clo l) hca, e2] at this; exact this)
  have HLE : Hid (∀ b ∈ clo l, ∀ w1 : World, Calls Try.prog 26 #[.agg #[true, c.pe, .int .i64 262143, c.mo, c.e, c.b, c.t, c.g, .int .u64 c.a], .agg #[b.tg, b.pe, b.ty, b.mo, b.e, b.b, b.t, b.g, .int .u64 b.a]] w1 fun e' w' => e' = .returned (.bool (lessB (uns c) b)) ∧ Kp w1 w') := Lib.hid (fun b hb w1 => by have := rless_w (uns c) b hc.uns (hca b hb).1 _ rfl w1; rw [show (uns c).tg = true from ht] at this; exact this)
  have HE1 := Lib.hid e1
  have HH := Lib.hid h
  have BK0 : Hid (Blk (w.alloc (.cells #[true, c.pe, c.ty, c.mo, c.e, c.b, c.t, c.g, .int .u64 c.a] 25)) (w.heap.size) 25 [true, c.pe, c.ty, c.mo, c.e, c.b, c.t, c.g, .int .u64 c.a]) := Lib.hid (Blk.new w 25 [true, c.pe, c.ty, c.mo, c.e, c.b, c.t, c.g, .int .u64 c.a])
  have RD0 : Hid (Rd (w.alloc (.cells #[true, c.pe, c.ty, c.mo, c.e, c.b, c.t, c.g, .int .u64 c.a] 25)) (w.alloc (.cells #[true, c.pe, c.ty, c.mo, c.e, c.b, c.t, c.g, .int .u64 c.a] 25)).heap.size A l) := Lib.hid ((h.alloc (Nat.le_refl _) _).more (by simp))
  have BL0 : Hid (Below (w.heap.size) w (w.alloc (.cells #[true, c.pe, c.ty, c.mo, c.e, c.b, c.t, c.g, .int .u64 c.a] 25))) := Lib.hid ((Below.refl _ _).alloc (Nat.le_refl _) _)
  have f4 : c.ty ≤ 262135 := hw.2.1
  have f1 : (c.ty == 262142) = false := by simp; omega
  obtain rfl := hw.2.2
  have HWJ := Lib.hid (HWI.out f4)
  clear h hL hc e1 e2 e3 e4 ht hm hw hpx hca HWI
  go_enter Try.func28, Try.ntmps28
  go_wp2_with (first
    | (go_at_call 55; (with_reducible refine (HT1.out _ RD0.out).mono ?_); rintro e' w1 ⟨rfl, qk⟩; have BK1 := Lib.hid (BK0.out.fr (Fr.of_kp qk (fun _ => False)) id); obtain ⟨_, _, _, _, _, _, _, _, _⟩ := BK1.out.at_.out9; have hs1 := BK1.out.lt; have RD1 := Lib.hid ((RD0.out.kp qk (Nat.le_refl _)).more qk.size); have BL1 := Lib.hid (BL0.out.trans (qk.1.mono (by simp))); clear qk)
    | (go_at_call 23; (with_reducible refine (HCL.out _ RD1.out).mono ?_); rintro e' w2 ⟨A', cap, rfl, ho2, hr2, hb2⟩; have OC2 := Lib.hid ho2; have BK2 := Lib.hid (BK1.out.below hb2 hs1); obtain ⟨_, _, _, _, _, _, _, _, _⟩ := BK2.out.at_.out9; have hs2 := BK2.out.lt; have RC2 := Lib.hid hr2; have RD2 := Lib.hid ((RD1.out.keep fun p hp => hb2.cell hp).more hb2.size); have BL2 := Lib.hid (BL1.out.trans (hb2.mono (Nat.le_of_lt hs1))); clear ho2 hr2 hb2)
    | (go_at_call 58; (with_reducible refine (HSE.out _).mono ?_); rintro e' w3 ⟨rfl, qk⟩; have BK3 := Lib.hid (BK2.out.fr (Fr.of_kp qk (fun _ => False)) id); obtain ⟨_, _, _, _, _, _, _, _, _⟩ := BK3.out.at_.out9; have zf3 := BK3.out.frozen 2; have hs3 := BK3.out.lt; have RC3 := Lib.hid ((RC2.out.kp qk (Nat.le_refl _)).more qk.size); have OC3 := Lib.hid (own_fr OC2.out (Fr.of_kp qk (fun _ => False)) (fun _ _ h => h)); have RD3 := Lib.hid ((RD2.out.kp qk (Nat.le_refl _)).more qk.size); have BL3 := Lib.hid (BL2.out.trans (qk.1.mono (Nat.le_of_lt hs2))); clear qk)
    | (go_at_call 56; (with_reducible refine (HWJ.out _ _ _ RC3.out).mono ?_); rintro e' w4 ⟨rfl, qk⟩; have BK4 := Lib.hid (BK3.out.fr (Fr.of_kp qk (fun _ => False)) id); obtain ⟨_, _, _, _, _, _, _, _, _⟩ := BK4.out.at_.out9; have zf4 := BK4.out.frozen 2; have hs4 := BK4.out.lt; have RC4 := Lib.hid ((RC3.out.kp qk (Nat.le_refl _)).more qk.size); have OC4 := Lib.hid (own_fr OC3.out (Fr.of_kp qk (fun _ => False)) (fun _ _ h => h)); have RD4 := Lib.hid ((RD3.out.kp qk (Nat.le_refl _)).more qk.size); have BL4 := Lib.hid (BL3.out.trans (qk.1.mono (Nat.le_of_lt hs3))); clear qk))
  go_ret
  exact ⟨rfl, BL4.out⟩
set_option maxHeartbeats 2000000 in
set_option maxRecDepth 100000 in
theorem rhas_6 (l : List Cp) (A : Option Addr) (n : Nat) (c : Cp) (hL : ∀ c ∈ l, RC c) (hl : l.length ≤ 1000) (hc : RC c) (al an px m2 : Bool) (e1 : (clo l).any (fun b => lessB (uns c) b) = al) (e2 : (clo l).any (fun b => canD b 128 c.ty) = an) (e3 : hasP c.pe 2 = px) (e4 : decide (uns c ∈ l) = m2) (ht : c.tg = true) (hm : decide (c ∈ l) = false) (hw : c.sealed = true ∧ c.ty ≤ 262135 ∧ an = true ∧ m2 = true) (w : World) (h : Rd w w.heap.size A l) :
    Calls Try.prog 28 #[.slice A l.length n, .agg #[true, c.pe, c.ty, c.mo, c.e, c.b, c.t, c.g, .int .u64 c.a]] w fun e w' => e = .returned (.bool true) ∧ Below w.heap.size w w' := by
  have hcl : (clo l).length ≤ 2000 := by have := clo_len l; omega
  have hca := clo_all l hL
  have hpx := hasP_two c.pe 1 (by omega) hc.p0 hc.p1 2 (by decide)
  have p0 := hc.p0
  have p1 := hc.p1
  have HT1 : Hid (∀ w1 : World, Rd w1 w1.heap.size A l → Calls Try.prog 55 #[.slice A l.length n, .agg #[true, c.pe, c.ty, c.mo, c.e, c.b, c.t, c.g, .int .u64 c.a]] w1 fun e' w' => e' = .returned (.bool false) ∧ Kp w1 w') := Lib.hid (fun w1 h1 => by have := there_v l A n c w1 h1 (by omega) false hm; rw [ht] at this; exact this)
  have HT2 : Hid (∀ w1 : World, Rd w1 w1.heap.size A l → Calls Try.prog 55 #[.slice A l.length n, .agg #[true, c.pe, .int .i64 262143, c.mo, c.e, c.b, c.t, c.g, .int .u64 c.a]] w1 fun e' w' => e' = .returned (.bool m2) ∧ Kp w1 w') := Lib.hid (fun w1 h1 => by have := there_v l A n (uns c) w1 h1 (by omega) m2 e4; rw [show (uns c).tg = true from ht] at this; exact this)
  have HCL := Lib.hid (fun w1 h1 => rclo_w l A n hL hl w1 h1)
  have HSE : Hid (∀ w1 : World, Calls Try.prog 58 #[.agg #[true, c.pe, c.ty, c.mo, c.e, c.b, c.t, c.g, .int .u64 c.a]] w1 fun e' w' => e' = .returned (.bool true) ∧ Kp w1 w') := Lib.hid (fun w1 => by have := rsealed_w c true hw.1 w1; rw [ht] at this; exact this)
  have HWI : Hid (c.ty ≤ 262135 → ∀ (A' : Option Addr) (cap : Nat) (w1 : World), Rd w1 w1.heap.size A' (clo l) → Calls Try.prog 56 #[.slice A' (clo l).length cap, .int .i64 128, c.ty] w1 fun e' w' => e' = .returned (.bool an) ∧ Kp w1 w') := Lib.hid (fun hy A' cap w1 h1 => by
    have := with128_w (clo l) A' cap c.ty (fun d hd => (hca d hd).1) hc.y0 hy w1 h1 (by omega)
    rw [key_with (clo l) hca, e2] at this; exact this)
  have HLE : Hid (∀ b ∈ clo l, ∀ w1 : World, Calls Try.prog 26 #[.agg #[true, c.pe, .int .i64 262143, c.mo, c.e, c.b, c.t, c.g, .int .u64 c.a], .agg #[b.tg, b.pe, b.ty, b.mo, b.e, b.b, b.t, b.g, .int .u64 b.a]] w1 fun e' w' => e' = .returned (.bool (lessB (uns c) b)) ∧ Kp w1 w') := Lib.hid (fun b hb w1 => by have := rless_w (uns c) b hc.uns (hca b hb).1 _ rfl w1; rw [show (uns c).tg = true from ht] at this; exact this)
  have HE1 := Lib.hid e1
  have HH := Lib.hid h
  have BK0 : Hid (Blk (w.alloc (.cells #[true, c.pe, c.ty, c.mo, c.e, c.b, c.t, c.g, .int .u64 c.a] 25)) (w.heap.size) 25 [true, c.pe, c.ty, c.mo, c.e, c.b, c.t, c.g, .int .u64 c.a]) := Lib.hid (Blk.new w 25 [true, c.pe, c.ty, c.mo, c.e, c.b, c.t, c.g, .int .u64 c.a])
  have RD0 : Hid (Rd (w.alloc (.cells #[true, c.pe, c.ty, c.mo, c.e, c.b, c.t, c.g, .int .u64 c.a] 25)) (w.alloc (.cells #[true, c.pe, c.ty, c.mo, c.e, c.b, c.t, c.g, .int .u64 c.a] 25)).heap.size A l) := Lib.hid ((h.alloc (Nat.le_refl _) _).more (by simp))
  have BL0 : Hid (Below (w.heap.size) w (w.alloc (.cells #[true, c.pe, c.ty, c.mo, c.e, c.b, c.t, c.g, .int .u64 c.a] 25))) := Lib.hid ((Below.refl _ _).alloc (Nat.le_refl _) _)
  have f4 : c.ty ≤ 262135 := hw.2.1
  have f1 : (c.ty == 262142) = false := by simp; omega
  obtain rfl := hw.2.2.1
  obtain rfl := hw.2.2.2
  have HWJ := Lib.hid (HWI.out f4)
  clear h hL hc e1 e2 e3 e4 ht hm hw hpx hca HWI
  go_enter Try.func28, Try.ntmps28
  go_upto_region 10 with (first
    | (go_at_call 55; (with_reducible refine (HT1.out _ RD0.out).mono ?_); rintro e' w1 ⟨rfl, qk⟩; have BK1 := Lib.hid (BK0.out.fr (Fr.of_kp qk (fun _ => False)) id); obtain ⟨_, _, _, _, _, _, _, _, _⟩ := BK1.out.at_.out9; have hs1 := BK1.out.lt; have RD1 := Lib.hid ((RD0.out.kp qk (Nat.le_refl _)).more qk.size); have BL1 := Lib.hid (BL0.out.trans (qk.1.mono (by simp))); clear qk)
    | (go_at_call 23; (with_reducible refine (HCL.out _ RD1.out).mono ?_); rintro e' w2 ⟨A', cap, rfl, ho2, hr2, hb2⟩; have OC2 := Lib.hid ho2; have BK2 := Lib.hid (BK1.out.below hb2 hs1); obtain ⟨_, _, _, _, _, _, _, _, _⟩ := BK2.out.at_.out9; have hs2 := BK2.out.lt; have RC2 := Lib.hid hr2; have RD2 := Lib.hid ((RD1.out.keep fun p hp => hb2.cell hp).more hb2.size); have BL2 := Lib.hid (BL1.out.trans (hb2.mono (Nat.le_of_lt hs1))); clear ho2 hr2 hb2)
    | (go_at_call 58; (with_reducible refine (HSE.out _).mono ?_); rintro e' w3 ⟨rfl, qk⟩; have BK3 := Lib.hid (BK2.out.fr (Fr.of_kp qk (fun _ => False)) id); obtain ⟨_, _, _, _, _, _, _, _, _⟩ := BK3.out.at_.out9; have zf3 := BK3.out.frozen 2; have hs3 := BK3.out.lt; have RC3 := Lib.hid ((RC2.out.kp qk (Nat.le_refl _)).more qk.size); have OC3 := Lib.hid (own_fr OC2.out (Fr.of_kp qk (fun _ => False)) (fun _ _ h => h)); have RD3 := Lib.hid ((RD2.out.kp qk (Nat.le_refl _)).more qk.size); have BL3 := Lib.hid (BL2.out.trans (qk.1.mono (Nat.le_of_lt hs2))); clear qk)
    | (go_at_call 56; (with_reducible refine (HWJ.out _ _ _ RC3.out).mono ?_); rintro e' w4 ⟨rfl, qk⟩; have BK4 := Lib.hid (BK3.out.fr (Fr.of_kp qk (fun _ => False)) id); obtain ⟨_, _, _, _, _, _, _, _, _⟩ := BK4.out.at_.out9; have zf4 := BK4.out.frozen 2; have hs4 := BK4.out.lt; have RC4 := Lib.hid ((RC3.out.kp qk (Nat.le_refl _)).more qk.size); have OC4 := Lib.hid (own_fr OC3.out (Fr.of_kp qk (fun _ => False)) (fun _ _ h => h)); have RD4 := Lib.hid ((RD3.out.kp qk (Nat.le_refl _)).more qk.size); have BL4 := Lib.hid (BL3.out.trans (qk.1.mono (Nat.le_of_lt hs3))); clear qk))
  have FS : Fr w4 (w4.setCell ⟨w.heap.size, 2, none⟩ (.int .i64 262143)) (fun k => k = w.heap.size) := (Fr.refl w4 (fun k => k = w.heap.size)).setCell (p := ⟨w.heap.size, 2, none⟩) (.inr rfl) _
  have BKS : Hid (Blk (w4.setCell ⟨w.heap.size, 2, none⟩ (.int .i64 262143)) (w.heap.size) 25 [true, c.pe, .int .i64 262143, c.mo, c.e, c.b, c.t, c.g, .int .u64 c.a]) := Lib.hid (BK4.out.set_ 2 (.int .i64 262143))
  have hsS : w.heap.size < (w4.setCell ⟨w.heap.size, 2, none⟩ (.int .i64 262143)).heap.size := BKS.out.lt
  have BLS : Hid (Below (w.heap.size) w (w4.setCell ⟨w.heap.size, 2, none⟩ (.int .i64 262143))) := Lib.hid (BL4.out.setCell (Nat.le_refl _) _)
  have RDS : Hid (Rd (w4.setCell ⟨w.heap.size, 2, none⟩ (.int .i64 262143)) (w4.setCell ⟨w.heap.size, 2, none⟩ (.int .i64 262143)).heap.size A l) := Lib.hid ((HH.out.keep fun p hp => BLS.out.cell hp).more BLS.out.size)
  have OCS := Lib.hid (own_fr OC4.out FS (fun g hg e => by have := (OC4.out.lt g hg).1; omega))
  clear FS
  obtain ⟨_, _, _, _, _, _, _, _, _⟩ := BKS.out.at_.out9
  go_wp2_with (go_at_call 55; (with_reducible refine (HT2.out _ RDS.out).mono ?_); rintro e' w5 ⟨rfl, qk⟩; have BK5 := Lib.hid (BKS.out.fr (Fr.of_kp qk (fun _ => False)) id); obtain ⟨_, _, _, _, _, _, _, _, _⟩ := BK5.out.at_.out9; have hs5 := BK5.out.lt; have OC5 := Lib.hid (own_fr OCS.out (Fr.of_kp qk (fun _ => False)) (fun _ _ h => h)); have BL5 := Lib.hid (BLS.out.trans (qk.1.mono (by first | exact Nat.le_of_lt hsS | simp))); clear qk)
  go_ret
  exact ⟨rfl, BL5.out⟩
set_option maxHeartbeats 2000000 in
set_option maxRecDepth 100000 in
theorem rhas_7 (l : List Cp) (A : Option Addr) (n : Nat) (c : Cp) (hL : ∀ c ∈ l, RC c) (hl : l.length ≤ 1000) (hc : RC c) (al an px m2 : Bool) (e1 : (clo l).any (fun b => lessB (uns c) b) = al) (e2 : (clo l).any (fun b => canD b 128 c.ty) = an) (e3 : hasP c.pe 2 = px) (e4 : decide (uns c ∈ l) = m2) (ht : c.tg = true) (hm : decide (c ∈ l) = false) (hw : c.sealed = true ∧ c.ty ≤ 262135 ∧ an = true ∧ m2 = false) (w : World) (h : Rd w w.heap.size A l) :
    Calls Try.prog 28 #[.slice A l.length n, .agg #[true, c.pe, c.ty, c.mo, c.e, c.b, c.t, c.g, .int .u64 c.a]] w fun e w' => e = .returned (.bool al) ∧ Below w.heap.size w w' := by
  have hcl : (clo l).length ≤ 2000 := by have := clo_len l; omega
  have hca := clo_all l hL
  have hpx := hasP_two c.pe 1 (by omega) hc.p0 hc.p1 2 (by decide)
  have p0 := hc.p0
  have p1 := hc.p1
  have HT1 : Hid (∀ w1 : World, Rd w1 w1.heap.size A l → Calls Try.prog 55 #[.slice A l.length n, .agg #[true, c.pe, c.ty, c.mo, c.e, c.b, c.t, c.g, .int .u64 c.a]] w1 fun e' w' => e' = .returned (.bool false) ∧ Kp w1 w') := Lib.hid (fun w1 h1 => by have := there_v l A n c w1 h1 (by omega) false hm; rw [ht] at this; exact this)
  have HT2 : Hid (∀ w1 : World, Rd w1 w1.heap.size A l → Calls Try.prog 55 #[.slice A l.length n, .agg #[true, c.pe, .int .i64 262143, c.mo, c.e, c.b, c.t, c.g, .int .u64 c.a]] w1 fun e' w' => e' = .returned (.bool m2) ∧ Kp w1 w') := Lib.hid (fun w1 h1 => by have := there_v l A n (uns c) w1 h1 (by omega) m2 e4; rw [show (uns c).tg = true from ht] at this; exact this)
  have HCL := Lib.hid (fun w1 h1 => rclo_w l A n hL hl w1 h1)
  have HSE : Hid (∀ w1 : World, Calls Try.prog 58 #[.agg #[true, c.pe, c.ty, c.mo, c.e, c.b, c.t, c.g, .int .u64 c.a]] w1 fun e' w' => e' = .returned (.bool true) ∧ Kp w1 w') := Lib.hid (fun w1 => by have := rsealed_w c true hw.1 w1; rw [ht] at this; exact this)
  have HWI : Hid (c.ty ≤ 262135 → ∀ (A' : Option Addr) (cap : Nat) (w1 : World), Rd w1 w1.heap.size A' (clo l) → Calls Try.prog 56 #[.slice A' (clo l).length cap, .int .i64 128, c.ty] w1 fun e' w' => e' = .returned (.bool an) ∧ Kp w1 w') := Lib.hid (fun hy A' cap w1 h1 => by
    have := with128_w (clo l) A' cap c.ty (fun d hd => (hca d hd).1) hc.y0 hy w1 h1 (by omega)
    rw [key_with (clo l) hca, e2] at this; exact this)
  have HLE : Hid (∀ b ∈ clo l, ∀ w1 : World, Calls Try.prog 26 #[.agg #[true, c.pe, .int .i64 262143, c.mo, c.e, c.b, c.t, c.g, .int .u64 c.a], .agg #[b.tg, b.pe, b.ty, b.mo, b.e, b.b, b.t, b.g, .int .u64 b.a]] w1 fun e' w' => e' = .returned (.bool (lessB (uns c) b)) ∧ Kp w1 w') := Lib.hid (fun b hb w1 => by have := rless_w (uns c) b hc.uns (hca b hb).1 _ rfl w1; rw [show (uns c).tg = true from ht] at this; exact this)
  have HE1 := Lib.hid e1
  have HH := Lib.hid h
  have BK0 : Hid (Blk (w.alloc (.cells #[true, c.pe, c.ty, c.mo, c.e, c.b, c.t, c.g, .int .u64 c.a] 25)) (w.heap.size) 25 [true, c.pe, c.ty, c.mo, c.e, c.b, c.t, c.g, .int .u64 c.a]) := Lib.hid (Blk.new w 25 [true, c.pe, c.ty, c.mo, c.e, c.b, c.t, c.g, .int .u64 c.a])
  have RD0 : Hid (Rd (w.alloc (.cells #[true, c.pe, c.ty, c.mo, c.e, c.b, c.t, c.g, .int .u64 c.a] 25)) (w.alloc (.cells #[true, c.pe, c.ty, c.mo, c.e, c.b, c.t, c.g, .int .u64 c.a] 25)).heap.size A l) := Lib.hid ((h.alloc (Nat.le_refl _) _).more (by simp))
  have BL0 : Hid (Below (w.heap.size) w (w.alloc (.cells #[true, c.pe, c.ty, c.mo, c.e, c.b, c.t, c.g, .int .u64 c.a] 25))) := Lib.hid ((Below.refl _ _).alloc (Nat.le_refl _) _)
  have f4 : c.ty ≤ 262135 := hw.2.1
  have f1 : (c.ty == 262142) = false := by simp; omega
  obtain rfl := hw.2.2.1
  obtain rfl := hw.2.2.2
  have HWJ := Lib.hid (HWI.out f4)
  clear h hL hc e1 e2 e3 e4 ht hm hw hpx hca HWI
  go_enter Try.func28, Try.ntmps28
  go_upto_region 10 with (first
    | (go_at_call 55; (with_reducible refine (HT1.out _ RD0.out).mono ?_); rintro e' w1 ⟨rfl, qk⟩; have BK1 := Lib.hid (BK0.out.fr (Fr.of_kp qk (fun _ => False)) id); obtain ⟨_, _, _, _, _, _, _, _, _⟩ := BK1.out.at_.out9; have hs1 := BK1.out.lt; have RD1 := Lib.hid ((RD0.out.kp qk (Nat.le_refl _)).more qk.size); have BL1 := Lib.hid (BL0.out.trans (qk.1.mono (by simp))); clear qk)
    | (go_at_call 23; (with_reducible refine (HCL.out _ RD1.out).mono ?_); rintro e' w2 ⟨A', cap, rfl, ho2, hr2, hb2⟩; have OC2 := Lib.hid ho2; have BK2 := Lib.hid (BK1.out.below hb2 hs1); obtain ⟨_, _, _, _, _, _, _, _, _⟩ := BK2.out.at_.out9; have hs2 := BK2.out.lt; have RC2 := Lib.hid hr2; have RD2 := Lib.hid ((RD1.out.keep fun p hp => hb2.cell hp).more hb2.size); have BL2 := Lib.hid (BL1.out.trans (hb2.mono (Nat.le_of_lt hs1))); clear ho2 hr2 hb2)
    | (go_at_call 58; (with_reducible refine (HSE.out _).mono ?_); rintro e' w3 ⟨rfl, qk⟩; have BK3 := Lib.hid (BK2.out.fr (Fr.of_kp qk (fun _ => False)) id); obtain ⟨_, _, _, _, _, _, _, _, _⟩ := BK3.out.at_.out9; have zf3 := BK3.out.frozen 2; have hs3 := BK3.out.lt; have RC3 := Lib.hid ((RC2.out.kp qk (Nat.le_refl _)).more qk.size); have OC3 := Lib.hid (own_fr OC2.out (Fr.of_kp qk (fun _ => False)) (fun _ _ h => h)); have RD3 := Lib.hid ((RD2.out.kp qk (Nat.le_refl _)).more qk.size); have BL3 := Lib.hid (BL2.out.trans (qk.1.mono (Nat.le_of_lt hs2))); clear qk)
    | (go_at_call 56; (with_reducible refine (HWJ.out _ _ _ RC3.out).mono ?_); rintro e' w4 ⟨rfl, qk⟩; have BK4 := Lib.hid (BK3.out.fr (Fr.of_kp qk (fun _ => False)) id); obtain ⟨_, _, _, _, _, _, _, _, _⟩ := BK4.out.at_.out9; have zf4 := BK4.out.frozen 2; have hs4 := BK4.out.lt; have RC4 := Lib.hid ((RC3.out.kp qk (Nat.le_refl _)).more qk.size); have OC4 := Lib.hid (own_fr OC3.out (Fr.of_kp qk (fun _ => False)) (fun _ _ h => h)); have RD4 := Lib.hid ((RD3.out.kp qk (Nat.le_refl _)).more qk.size); have BL4 := Lib.hid (BL3.out.trans (qk.1.mono (Nat.le_of_lt hs3))); clear qk))
  have FS : Fr w4 (w4.setCell ⟨w.heap.size, 2, none⟩ (.int .i64 262143)) (fun k => k = w.heap.size) := (Fr.refl w4 (fun k => k = w.heap.size)).setCell (p := ⟨w.heap.size, 2, none⟩) (.inr rfl) _
  have BKS : Hid (Blk (w4.setCell ⟨w.heap.size, 2, none⟩ (.int .i64 262143)) (w.heap.size) 25 [true, c.pe, .int .i64 262143, c.mo, c.e, c.b, c.t, c.g, .int .u64 c.a]) := Lib.hid (BK4.out.set_ 2 (.int .i64 262143))
  have hsS : w.heap.size < (w4.setCell ⟨w.heap.size, 2, none⟩ (.int .i64 262143)).heap.size := BKS.out.lt
  have BLS : Hid (Below (w.heap.size) w (w4.setCell ⟨w.heap.size, 2, none⟩ (.int .i64 262143))) := Lib.hid (BL4.out.setCell (Nat.le_refl _) _)
  have RDS : Hid (Rd (w4.setCell ⟨w.heap.size, 2, none⟩ (.int .i64 262143)) (w4.setCell ⟨w.heap.size, 2, none⟩ (.int .i64 262143)).heap.size A l) := Lib.hid ((HH.out.keep fun p hp => BLS.out.cell hp).more BLS.out.size)
  have OCS := Lib.hid (own_fr OC4.out FS (fun g hg e => by have := (OC4.out.lt g hg).1; omega))
  clear FS
  obtain ⟨_, _, _, _, _, _, _, _, _⟩ := BKS.out.at_.out9
  go_wp2_with (go_at_call 55; (with_reducible refine (HT2.out _ RDS.out).mono ?_); rintro e' w5 ⟨rfl, qk⟩; have BK5 := Lib.hid (BKS.out.fr (Fr.of_kp qk (fun _ => False)) id); obtain ⟨_, _, _, _, _, _, _, _, _⟩ := BK5.out.at_.out9; have hs5 := BK5.out.lt; have OC5 := Lib.hid (own_fr OCS.out (Fr.of_kp qk (fun _ => False)) (fun _ _ h => h)); have BL5 := Lib.hid (BLS.out.trans (qk.1.mono (by first | exact Nat.le_of_lt hsS | simp))); clear qk)
  go_loopw [6] (fun i wr => ∃ k : Nat, k ≤ (clo l).length ∧ i = .int .i64 k ∧ (∀ b ∈ (clo l).take k, lessB (uns c) b = false) ∧ Blk wr (w.heap.size) 25 [true, c.pe, .int .i64 262143, c.mo, c.e, c.b, c.t, c.g, .int .u64 c.a] ∧ OwnC wr w1.heap.size (.slice A' (clo l).length cap) (clo l) ∧ Below (w.heap.size) w wr) (fun i _ => (clo l).length - (intOf i).toNat)
  case atStart => exact ⟨0, Nat.zero_le _, rfl, by simp, BK5.out, OC5.out, BL5.out⟩
  case round =>
    obtain ⟨k, hk, rfl, hx, hbk, hoc, hbl⟩ := hrel
    have HX := Lib.hid hx
    have HB := Lib.hid hbk
    have HO := Lib.hid hoc
    have HL2 := Lib.hid hbl
    clear hx hbk hoc hbl
    obtain ⟨_, _, _, _, _, _, _, _, _⟩ := HB.out.at_.out9
    by_cases hlt : k < (clo l).length
    · obtain ⟨A2, cap2, ev, _, hr2, -⟩ := HO.out.rd
      cases ev
      obtain ⟨bb, oo, rfl, hbb, b, hb, hr⟩ := hr2.at_ hlt
      obtain ⟨r0, r1, r2, r3, r4, r5, r6, r7, r8⟩ := hr.out
      have HBM := Lib.hid hb
      have HC := Lib.hid (HLE.out b (List.mem_of_getElem? hb))
      obtain ⟨lv, hlv⟩ : ∃ lv, lessB (uns c) b = lv := ⟨_, rfl⟩
      rw [hlv] at HC
      have HLV := Lib.hid hlv
      clear hlv hb hr hr2
      cases lv
      all_goals
        go_upto_region 15 with fail
        refine wp_region_still_tail 5 (by kernel_rfl) (by kernel_rfl) ?_
        simp only [List.take_succ_cons, List.take_zero, List.drop_succ_cons, List.drop_zero]
        repeat still_step
        refine wpStill_nil ?_
        change wpList _ _ _ _ _ wr.drew
        go_wp2_with (go_at_call 26; (with_reducible refine (HC.out _).mono ?_); rintro e' w6 ⟨rfl, qk⟩; have K6 := Lib.hid (((Kp.refl wr).drew).trans qk); clear qk)
      · go_roundw
        case rel => exact ⟨k + 1, by omega, by go_num, by
          rw [List.take_add_one, HBM.out]; intro d hd; rcases List.mem_append.1 hd with hd | hd
          · exact HX.out d hd
          · have : d = b := by simpa using hd
            subst this; exact HLV.out, HB.out.fr (Fr.of_kp K6.out (fun _ => False)) id, own_fr HO.out (Fr.of_kp K6.out (fun _ => False)) (fun _ _ h => h), HL2.out.trans (K6.out.1.mono HL2.out.size)⟩
        case measure => simp [intOf]; omega
      · go_ret
        exact ⟨ret_bool (by rw [← HE1.out, eq_comm, List.any_eq_true]; exact ⟨b, List.mem_of_getElem? HBM.out, HLV.out⟩), HL2.out.trans (K6.out.1.mono HL2.out.size)⟩
    · go_wp2
      go_ret
      exact ⟨ret_bool (by
        have e : (clo l).take k = clo l := List.take_of_length_le (by omega)
        rw [e] at HX
        rw [← HE1.out, eq_comm, List.any_eq_false]; intro x hx; rw [HX.out x hx]; decide), HL2.out⟩
set_option maxHeartbeats 2000000 in
set_option maxRecDepth 100000 in
theorem rhas_f (l : List Cp) (A : Option Addr) (n : Nat) (c : Cp) (w : World) :
    Calls Try.prog 28 #[.slice A l.length n, .agg #[false, c.pe, c.ty, c.mo, c.e, c.b, c.t, c.g, .int .u64 c.a]] w fun e w' => e = .returned (.bool true) ∧ Below w.heap.size w w' := by
  go_enter Try.func28, Try.ntmps28
  go_wp2
  go_ret
  exact ⟨rfl, (Below.refl _ _).alloc (Nat.le_refl _) _⟩
set_option maxHeartbeats 2000000 in
set_option maxRecDepth 100000 in
theorem rhas_m (l : List Cp) (A : Option Addr) (n : Nat) (c : Cp) (hl : l.length ≤ 1000) (ht : c.tg = true) (hm : decide (c ∈ l) = true) (w : World) (h : Rd w w.heap.size A l) :
    Calls Try.prog 28 #[.slice A l.length n, .agg #[true, c.pe, c.ty, c.mo, c.e, c.b, c.t, c.g, .int .u64 c.a]] w fun e w' => e = .returned (.bool true) ∧ Below w.heap.size w w' := by
  have HT1 : Hid (∀ w1 : World, Rd w1 w1.heap.size A l → Calls Try.prog 55 #[.slice A l.length n, .agg #[true, c.pe, c.ty, c.mo, c.e, c.b, c.t, c.g, .int .u64 c.a]] w1 fun e' w' => e' = .returned (.bool true) ∧ Kp w1 w') := Lib.hid (fun w1 h1 => by have := there_v l A n c w1 h1 (by omega) true hm; rw [ht] at this; exact this)
  have RD0 : Hid (Rd (w.alloc (.cells #[true, c.pe, c.ty, c.mo, c.e, c.b, c.t, c.g, .int .u64 c.a] 25)) (w.alloc (.cells #[true, c.pe, c.ty, c.mo, c.e, c.b, c.t, c.g, .int .u64 c.a] 25)).heap.size A l) := Lib.hid ((h.alloc (Nat.le_refl _) _).more (by simp))
  have BL0 : Hid (Below (w.heap.size) w (w.alloc (.cells #[true, c.pe, c.ty, c.mo, c.e, c.b, c.t, c.g, .int .u64 c.a] 25))) := Lib.hid ((Below.refl _ _).alloc (Nat.le_refl _) _)
  clear h hm ht
  go_enter Try.func28, Try.ntmps28
  go_wp2_with (go_at_call 55; (with_reducible refine (HT1.out _ RD0.out).mono ?_); rintro e' w1 ⟨rfl, qk⟩; have BL1 := Lib.hid (BL0.out.trans (qk.1.mono (by simp))); clear qk)
  go_ret
  exact ⟨rfl, BL1.out⟩
theorem rhas_w (l : List Cp) (A : Option Addr) (n : Nat) (c : Cp) (hL : ∀ c ∈ l, RC c) (hl : l.length ≤ 1000) (hc : RC c) (v : Bool) (hv : hasB l c = v) (w : World) (h : Rd w w.heap.size A l) :
    Calls Try.prog 28 #[.slice A l.length n, .agg #[c.tg, c.pe, c.ty, c.mo, c.e, c.b, c.t, c.g, .int .u64 c.a]] w fun e w' => e = .returned (.bool v) ∧ Below w.heap.size w w' := by
  cases ht : c.tg
  · have e : v = true := by rw [← hv, hasB, ht]; rfl
    subst e; exact rhas_f l A n c w
  · cases hm : decide (c ∈ l)
    · rcases has_ways l c hL hc v hv _ _ _ _ rfl rfl rfl rfl ht hm with ⟨h1, e⟩ | ⟨h1, h2, h3, e⟩ | ⟨h1, h2, h3, e⟩ | ⟨h1, h2, h3, h4, e⟩ | ⟨h1, h2, h3, h4, e⟩ | ⟨h1, h2, h3, e⟩ | ⟨h1, h2, h3, h4, e⟩ | ⟨h1, h2, h3, h4, e⟩
      · rw [e]; exact rhas_0 l A n c hL hl hc _ _ _ _ rfl rfl rfl rfl ht hm h1 w h
      · rw [e]; exact rhas_1 l A n c hL hl hc _ _ _ _ rfl rfl rfl rfl ht hm ⟨h1, h2, h3⟩ w h
      · rw [e]; exact rhas_2 l A n c hL hl hc _ _ _ _ rfl rfl rfl rfl ht hm ⟨h1, h2, h3⟩ w h
      · rw [e]; exact rhas_3 l A n c hL hl hc _ _ _ _ rfl rfl rfl rfl ht hm ⟨h1, h2, h3, h4⟩ w h
      · rw [e]; exact rhas_4 l A n c hL hl hc _ _ _ _ rfl rfl rfl rfl ht hm ⟨h1, h2, h3, h4⟩ w h
      · rw [e]; exact rhas_5 l A n c hL hl hc _ _ _ _ rfl rfl rfl rfl ht hm ⟨h1, h2, h3⟩ w h
      · rw [e]; exact rhas_6 l A n c hL hl hc _ _ _ _ rfl rfl rfl rfl ht hm ⟨h1, h2, h3, h4⟩ w h
      · rw [e]; exact rhas_7 l A n c hL hl hc _ _ _ _ rfl rfl rfl rfl ht hm ⟨h1, h2, h3, h4⟩ w h
    · have e : v = true := by rw [← hv, hasB, hm]; simp
      subst e; exact rhas_m l A n c hl ht hm w h
end Go.Proofs.Ytkddgjaflcjhiaa
namespace Go.Proofs.Ytkddgjaflcjhiaa
open Go.ChangeShapes Go.WideShapes Go.ChangeAt Go.RowKit
set_option linter.unusedVariables false
set_option linter.unusedSimpArgs false

def markP (p : Int) : Cp := ⟨false, p, 0, 0, 0, 0, 0, false, 5⟩
def marks : List Cp := [markP 777, markP 778, markP 779, markP 780, markP 781]
theorem mark_w (i p : Int) (hp : 777 + i = p) (i0 : 0 ≤ i) (i1 : i < 10000) (w : World) :
    Calls Try.prog 54 #[i] w fun e w' => e = .returned (.agg #[false, p, (), (), (), (), (), false, .int .u64 5]) ∧ Kp w w' := by
  subst hp
  go_enter Try.func54, Try.ntmps54
  go_wp2
  refine bodyPost_ret ?_ rfl ⟨rfl, by (repeat' (first | with_reducible refine Kp.setCell ?_ ?_ _ | with_reducible refine Kp.allocs ?_ _ _)); all_goals first | exact Kp.refl w | (dsimp only; omega)⟩
  simp [results, Try.results54, go_sem]
theorem Fr.nine {a b : World} {S : Nat → Prop} (h : Fr a b S) (g p : Nat) (hS : S g) (u0 u1 u2 u3 u4 u5 u6 u7 u8 : Value) :
    Fr a (((((((((b.setCell ⟨g, p, none⟩ u0).setCell ⟨g, p + 1, none⟩ u1).setCell ⟨g, p + 2, none⟩ u2).setCell ⟨g, p + 3, none⟩ u3).setCell ⟨g, p + 4, none⟩ u4).setCell ⟨g, p + 5, none⟩ u5).setCell ⟨g, p + 6, none⟩ u6).setCell ⟨g, p + 7, none⟩ u7).setCell ⟨g, p + 8, none⟩ u8) S :=
  ((((((((h.setCell (.inr hS) _).setCell (.inr hS) _).setCell (.inr hS) _).setCell (.inr hS) _).setCell (.inr hS) _).setCell (.inr hS) _).setCell (.inr hS) _).setCell (.inr hS) _).setCell (.inr hS) _
theorem row_nine {w : World} {B n g cap : Nat} {xs : List Value} (h : w.ownsRow B 25 9 (.slice (some ⟨g, 0, none⟩) n cap) n xs) (p : Nat) (u0 u1 u2 u3 u4 u5 u6 u7 u8 : Value) :
    ∃ ys, World.ownsRow (((((((((w.setCell ⟨g, p, none⟩ u0).setCell ⟨g, p + 1, none⟩ u1).setCell ⟨g, p + 2, none⟩ u2).setCell ⟨g, p + 3, none⟩ u3).setCell ⟨g, p + 4, none⟩ u4).setCell ⟨g, p + 5, none⟩ u5).setCell ⟨g, p + 6, none⟩ u6).setCell ⟨g, p + 7, none⟩ u7).setCell ⟨g, p + 8, none⟩ u8) B 25 9 (.slice (some ⟨g, 0, none⟩) n cap) n ys :=
  ⟨_, ((((((((((((((((h.stored p u0).1.stored (p + 1) u1).1).stored (p + 2) u2).1).stored (p + 3) u3).1).stored (p + 4) u4).1).stored (p + 5) u5).1).stored (p + 6) u6).1).stored (p + 7) u7).1).stored (p + 8) u8).1⟩
set_option maxHeartbeats 4000000 in
set_option maxRecDepth 100000 in
theorem spoil_w (L : List Cp) (g cap B : Nat) (hl : L.length ≤ 1000) (w : World) (h : OwnC w B (.slice (some ⟨g, 0, none⟩) L.length cap) L) :
    Calls Try.prog 29 #[.slice (some ⟨g, 0, none⟩) L.length cap] w fun e w' => e = .returned (.tuple #[]) ∧ Fr w w' (fun k => k = g) := by
  have HH := Lib.hid h
  clear h
  go_enter Try.func29, Try.ntmps29
  go_wp2
  go_loopw [2] (fun i wr => ∃ (k : Nat) (xs : List Value), k ≤ L.length ∧ i = .int .i64 k ∧ wr.ownsRow B 25 9 (.slice (some ⟨g, 0, none⟩) L.length cap) L.length xs ∧ Fr w wr (fun k => k = g)) (fun i _ => L.length - (intOf i).toNat)
  case atStart => exact ⟨0, _, Nat.zero_le _, rfl, HH.out, Fr.refl _ _⟩
  case round =>
    obtain ⟨k, xs, hk, rfl, hown, hfr⟩ := hrel
    have HO := Lib.hid hown
    have HF := Lib.hid hfr
    clear hown hfr
    by_cases hlt : k < L.length
    · go_wp2_with (first | (go_at_call 54; (with_reducible refine (mark_w _ _ rfl (by omega) (by omega) _).mono ?_); rintro e' w1 ⟨rfl, qk⟩; have HO1 := Lib.hid (own_fr HO.out (Fr.of_kp qk (fun _ => False)) (fun _ _ h => h)); have HF1 := Lib.hid (HF.out.kp qk); clear qk; obtain ⟨u0, c0⟩ : ∃ u, w1.cell? ⟨g, k * 9, none⟩ = some u := (by rw [HO1.out.cellAt _ (by omega)]; exact ⟨_, List.getElem?_eq_getElem (by rw [HO1.out.1]; omega)⟩); have z0 := HO1.out.frozenAt (k * 9); obtain ⟨u1, c1⟩ : ∃ u, w1.cell? ⟨g, k * 9 + 1, none⟩ = some u := (by rw [HO1.out.cellAt _ (by omega)]; exact ⟨_, List.getElem?_eq_getElem (by rw [HO1.out.1]; omega)⟩); have z1 := HO1.out.frozenAt (k * 9 + 1); obtain ⟨u2, c2⟩ : ∃ u, w1.cell? ⟨g, k * 9 + 2, none⟩ = some u := (by rw [HO1.out.cellAt _ (by omega)]; exact ⟨_, List.getElem?_eq_getElem (by rw [HO1.out.1]; omega)⟩); have z2 := HO1.out.frozenAt (k * 9 + 2); obtain ⟨u3, c3⟩ : ∃ u, w1.cell? ⟨g, k * 9 + 3, none⟩ = some u := (by rw [HO1.out.cellAt _ (by omega)]; exact ⟨_, List.getElem?_eq_getElem (by rw [HO1.out.1]; omega)⟩); have z3 := HO1.out.frozenAt (k * 9 + 3); obtain ⟨u4, c4⟩ : ∃ u, w1.cell? ⟨g, k * 9 + 4, none⟩ = some u := (by rw [HO1.out.cellAt _ (by omega)]; exact ⟨_, List.getElem?_eq_getElem (by rw [HO1.out.1]; omega)⟩); have z4 := HO1.out.frozenAt (k * 9 + 4); obtain ⟨u5, c5⟩ : ∃ u, w1.cell? ⟨g, k * 9 + 5, none⟩ = some u := (by rw [HO1.out.cellAt _ (by omega)]; exact ⟨_, List.getElem?_eq_getElem (by rw [HO1.out.1]; omega)⟩); have z5 := HO1.out.frozenAt (k * 9 + 5); obtain ⟨u6, c6⟩ : ∃ u, w1.cell? ⟨g, k * 9 + 6, none⟩ = some u := (by rw [HO1.out.cellAt _ (by omega)]; exact ⟨_, List.getElem?_eq_getElem (by rw [HO1.out.1]; omega)⟩); have z6 := HO1.out.frozenAt (k * 9 + 6); obtain ⟨u7, c7⟩ : ∃ u, w1.cell? ⟨g, k * 9 + 7, none⟩ = some u := (by rw [HO1.out.cellAt _ (by omega)]; exact ⟨_, List.getElem?_eq_getElem (by rw [HO1.out.1]; omega)⟩); have z7 := HO1.out.frozenAt (k * 9 + 7); obtain ⟨u8, c8⟩ : ∃ u, w1.cell? ⟨g, k * 9 + 8, none⟩ = some u := (by rw [HO1.out.cellAt _ (by omega)]; exact ⟨_, List.getElem?_eq_getElem (by rw [HO1.out.1]; omega)⟩); have z8 := HO1.out.frozenAt (k * 9 + 8)))
      go_roundw
      case rel =>
        obtain ⟨ys, hys⟩ := row_nine HO1.out (k * 9) (.bool false) (.int .i64 (777 + ((k : Int) + 7))) (.int .i64 0) (.int .i64 0) (.int .i64 0) (.int .i64 0) (.int .i64 0) (.bool false) (.int .u64 5)
        exact ⟨k + 1, ys, by omega, by go_num, hys, HF1.out.nine g (k * 9) rfl _ _ _ _ _ _ _ _ _⟩
      case measure => simp [intOf]; omega
    · go_wp2
      refine bodyPost_end (v := .tuple #[]) (by simp [results, Try.results29, go_sem]) rfl ⟨rfl, HF.out⟩
set_option maxHeartbeats 4000000 in
set_option maxRecDepth 100000 in
theorem kept_w (L : List Cp) (A : Option Addr) (n g cap : Nat) (hl : L.length ≤ 1000) (hcap : L.length + 5 ≤ cap) (w : World) (h : Rd w w.heap.size A L) (hx : Rd w w.heap.size (some ⟨g, 0, none⟩) (L ++ marks)) :
    Calls Try.prog 30 #[.slice (some ⟨g, 0, none⟩) (L.length + 5) cap, .slice A L.length n] w fun e w' => e = .returned (.bool true) ∧ Kp w w' := by
  have hT : (L ++ marks).take L.length = L := by simp
  have hX := hx.take L.length
  rw [hT] at hX
  have HS := Lib.hid (same_w L L (some ⟨g, 0, none⟩) A cap n w hX h (by omega) (by omega) true (by simp))
  have hgl : g < w.heap.size := by
    obtain ⟨b, o, e, hb, _⟩ := hx (by simp [marks])
    cases e; exact hb
  have row : ∀ (k : Nat), k < 5 → Row w g ((L.length + k) * 9) (markP (777 + (k : Int))) := fun k hk => by
    obtain ⟨b, o, e, hb, hr⟩ := hx (by simp [marks])
    cases e
    have hm : marks[k]? = some (markP (777 + (k : Int))) := by
      match k, hk with
      | 0, _ => rfl
      | 1, _ => rfl
      | 2, _ => rfl
      | 3, _ => rfl
      | 4, _ => rfl
    have := hr (L.length + k) _ (by rw [List.getElem?_append_right (by omega)]; simpa using hm)
    simpa using this
  have HROW := Lib.hid row
  have e1 : ((((L.length + 5 : Nat) : Int)) != ((L.length : Int) + 5)) = false := by simp
  have e2 : (0 : Int) ≤ (L.length : Int) := by omega
  have e3 : (L.length : Int) ≤ (cap : Int) := by omega
  clear h hx hX hT row
  go_enter Try.func30, Try.ntmps30
  go_wp2_with (first | (go_at_call 24; (with_reducible refine HS.out.mono ?_); rintro e' w1 ⟨rfl, qk⟩; have HK1 := Lib.hid qk; clear qk))
  clear e1 e2 e3
  go_loopw [5] (fun i wr => ∃ k : Nat, k ≤ 5 ∧ i = .int .i64 k ∧ Kp w wr) (fun i _ => 5 - (intOf i).toNat)
  case atStart => exact ⟨0, by omega, rfl, HK1.out⟩
  case round =>
    obtain ⟨k, hk, rfl, hkp⟩ := hrel
    have HB : Bh w w.heap.size wr := ⟨hkp, Nat.le_refl _, hkp.size⟩
    have HKP := Lib.hid hkp
    clear hkp
    by_cases hlt : k < 5
    · have hi : (k : Int) < 5 := by omega
      obtain ⟨m, hm⟩ : ∃ m, L.length + k = m := ⟨_, rfl⟩
      have r := HROW.out k hlt
      rw [hm] at r
      obtain ⟨c0, c1, c2, c3, c4, c5, c6, c7, c8⟩ := (r.keep (w' := wr) fun p hp => HKP.out.cell (by rw [hp]; exact hgl)).out
      simp only [markP] at c0 c1 c2 c3 c4 c5 c6 c7 c8
      have E := cap_neq_cp (markP (777 + (k : Int))) (markP (777 + (k : Int))) true (Cp.eqB_self _)
      dsimp only [markP, Bool.not_true] at E
      have s1 : IntKind.i64.wrap ((L.length : Int) + (k : Int)) = (m : Int) := by rw [IntKind.wrap_i64]; omega
      have s2 : wrap64 ((L.length : Int) + (k : Int)) = (m : Int) := by unfold wrap64; omega
      have i0 : (0 : Int) ≤ (m : Int) := by omega
      have i1 : (m : Int) < (L.length : Int) + 5 := by omega
      have i2 : (m : Int) < ((L.length + 5 : Nat) : Int) := by omega
      have i3 : m < L.length + 5 := by omega
      clear hm r
      go_wp2
      go_region_held3 (fun v1 => v1.cell? ⟨g, m * 9, none⟩ = some (.bool false) ∧ v1.cell? ⟨g, m * 9 + 1, none⟩ = some (.int .i64 (777 + (k : Int))) ∧ v1.cell? ⟨g, m * 9 + 2, none⟩ = some (.int .i64 0) ∧ v1.cell? ⟨g, m * 9 + 3, none⟩ = some (.int .i64 0) ∧ v1.cell? ⟨g, m * 9 + 4, none⟩ = some (.int .i64 0) ∧ v1.cell? ⟨g, m * 9 + 5, none⟩ = some (.int .i64 0) ∧ v1.cell? ⟨g, m * 9 + 6, none⟩ = some (.int .i64 0) ∧ v1.cell? ⟨g, m * 9 + 7, none⟩ = some (.bool false) ∧ v1.cell? ⟨g, m * 9 + 8, none⟩ = some (.int .u64 5) ∧ Bh w (w.heap.size) v1)
        (first | (refine ⟨?_, ?_, ?_, ?_, ?_, ?_, ?_, ?_, ?_, ?_⟩ <;> first | with_reducible assumption | ((repeat' (first | with_reducible assumption | with_reducible apply Bh.drew | with_reducible apply Bh.alloc | with_reducible apply Bh.set | with_reducible refine Bh.cell_set (n := w.heap.size) (p := ⟨_, _, none⟩) ?_ ?_ ?_ | with_reducible refine Bh.cell_alloc (W := w) (n := w.heap.size) (p := ⟨_, _, none⟩) ?_ ?_ ?_ | (dsimp only; omega))); done) | (with_reducible apply Bh.drew; assumption) | (simp [go_sem, *]; done)))
        (first
          | (go_at_call 54; go_split_ands; refine (mark_w _ _ rfl (by omega) (by omega) _).mono ?_; rintro e v1 ⟨rfl, qk⟩; have q0 : v1.cell? ⟨g, m * 9, none⟩ = some (.bool false) := Bh.cell (n := w.heap.size) (W := w) (by with_reducible assumption) qk (by dsimp only; omega) (by with_reducible assumption); have q1 : v1.cell? ⟨g, m * 9 + 1, none⟩ = some (.int .i64 (777 + (k : Int))) := Bh.cell (n := w.heap.size) (W := w) (by with_reducible assumption) qk (by dsimp only; omega) (by with_reducible assumption); have q2 : v1.cell? ⟨g, m * 9 + 2, none⟩ = some (.int .i64 0) := Bh.cell (n := w.heap.size) (W := w) (by with_reducible assumption) qk (by dsimp only; omega) (by with_reducible assumption); have q3 : v1.cell? ⟨g, m * 9 + 3, none⟩ = some (.int .i64 0) := Bh.cell (n := w.heap.size) (W := w) (by with_reducible assumption) qk (by dsimp only; omega) (by with_reducible assumption); have q4 : v1.cell? ⟨g, m * 9 + 4, none⟩ = some (.int .i64 0) := Bh.cell (n := w.heap.size) (W := w) (by with_reducible assumption) qk (by dsimp only; omega) (by with_reducible assumption); have q5 : v1.cell? ⟨g, m * 9 + 5, none⟩ = some (.int .i64 0) := Bh.cell (n := w.heap.size) (W := w) (by with_reducible assumption) qk (by dsimp only; omega) (by with_reducible assumption); have q6 : v1.cell? ⟨g, m * 9 + 6, none⟩ = some (.int .i64 0) := Bh.cell (n := w.heap.size) (W := w) (by with_reducible assumption) qk (by dsimp only; omega) (by with_reducible assumption); have q7 : v1.cell? ⟨g, m * 9 + 7, none⟩ = some (.bool false) := Bh.cell (n := w.heap.size) (W := w) (by with_reducible assumption) qk (by dsimp only; omega) (by with_reducible assumption); have q8 : v1.cell? ⟨g, m * 9 + 8, none⟩ = some (.int .u64 5) := Bh.cell (n := w.heap.size) (W := w) (by with_reducible assumption) qk (by dsimp only; omega) (by with_reducible assumption); have qb : Bh w (w.heap.size) v1 := Bh.step (by with_reducible assumption) qk; have ql := qb.le; have KB1 := Lib.hid qb; clear qk))
      go_wp2
      go_roundw
      case rel => exact ⟨k + 1, by omega, by go_num, by first | exact KB1.out.kp | exact KB1.out.kp.drewN _⟩
      case measure => simp [intOf]; omega
    · go_wp2
      go_ret
      exact ⟨rfl, HKP.out⟩
theorem spoil_0 (A : Option Addr) (n : Nat) (w : World) :
    Calls Try.prog 29 #[.slice A 0 n] w fun e w' => e = .returned (.tuple #[]) ∧ w = w' := by
  go_enter Try.func29, Try.ntmps29
  go_wp2
  refine wp_loop_rounds 1 ?_
  rw [rounds_succ]
  go_wp2
  refine bodyPost_end (v := .tuple #[]) (by simp [results, Try.results29, go_sem]) rfl ⟨rfl, rfl⟩
/-- Whatever list of the call's own is written over: nothing but its block has turned. -/
theorem spoil_any (L : List Cp) (A : Option Addr) (cap B : Nat) (hl : L.length ≤ 1000) (w : World) (h : OwnC w B (.slice A L.length cap) L) :
    Calls Try.prog 29 #[.slice A L.length cap] w fun e w' => e = .returned (.tuple #[]) ∧ Fr w w' (fun k => (Value.slice A L.length cap).ownBlock = some k) := by
  rcases h.2 with ⟨hv, h0⟩ | ⟨g, cap', cur, hv, _⟩
  · rw [h0]
    exact (spoil_0 A cap w).mono fun e w' hh => ⟨hh.1, by rw [← hh.2]; exact Fr.refl _ _⟩
  · simp only [Value.slice.injEq, true_and] at hv
    obtain ⟨rfl, rfl⟩ := hv
    exact (spoil_w L g cap B hl w h).mono fun e w' hh => ⟨hh.1, hh.2.mono fun i _ hi => by rw [hi]; rfl⟩
end Go.Proofs.Ytkddgjaflcjhiaa
namespace Go.Proofs.Ytkddgjaflcjhiaa
open Go.ChangeShapes Go.WideShapes Go.ChangeAt Go.RowKit Go.Maps
set_option linter.unusedVariables false
set_option linter.unusedSimpArgs false

theorem marks_take (k : Nat) (hk : k < 5) : marks.take (k + 1) = marks.take k ++ [markP (777 + (k : Int))] := by
  match k, hk with
  | 0, _ => rfl
  | 1, _ => rfl
  | 2, _ => rfl
  | 3, _ => rfl
  | 4, _ => rfl
set_option maxHeartbeats 4000000 in
set_option maxRecDepth 100000 in
theorem lent_w (L : List Cp) (A : Option Addr) (n : Nat) (hl : L.length ≤ 1000) (w : World) (h : Rd w w.heap.size A L) :
    Calls Try.prog 22 #[.slice A L.length n] w fun e w' => ∃ g cap, e = .returned (.slice (some ⟨g, 0, none⟩) (L.length + 5) cap) ∧ L.length + 5 ≤ cap ∧ OwnC w' w.heap.size (.slice (some ⟨g, 0, none⟩) (L.length + 5) cap) (L ++ marks) ∧ Rd w' w'.heap.size (some ⟨g, 0, none⟩) (L ++ marks) ∧ Below w.heap.size w w' := by
  have HC := Lib.hid (copy_w L A n hl w h)
  clear h
  go_enter Try.func22, Try.ntmps22
  go_wp2_with (first | (go_at_call 33; (with_reducible refine HC.out.mono ?_); rintro e' w1 ⟨v, rfl, ho, hb⟩; have HO1 := Lib.hid ho; have HB1 := Lib.hid hb; clear ho hb))
  go_loopw [3, 4] (fun s i wr => ∃ (k : Nat) (u : Value), k ≤ 5 ∧ i = .int .i64 k ∧ u = s ∧ OwnC wr w.heap.size u (L ++ marks.take k) ∧ Below w.heap.size w wr) (fun _ i _ => 5 - (intOf i).toNat)
  case atStart => exact ⟨0, _, by omega, rfl, rfl, by simpa using HO1.out, HB1.out⟩
  case round =>
    obtain ⟨k, u, hk, rfl, rfl, hown, hbl⟩ := hrel
    have hws : w.heap.size ≤ wr.heap.size := hbl.size
    have HO := Lib.hid hown
    have HB := Lib.hid hbl
    clear hown hbl
    by_cases hlt : k < 5
    · have hi : (k : Int) < 5 := by omega
      have hlen : (L ++ marks.take k).length = L.length + k := by simp [marks]; omega
      have HST := Lib.hid (marks_take k hlt)
      go_wp2_with (first
        | (go_at_call 54; (with_reducible refine (mark_w _ _ rfl (by omega) (by omega) _).mono ?_); rintro e' m1 ⟨rfl, qk⟩; have HOM := Lib.hid (own_fr HO.out (Fr.of_kp qk (fun _ => False)) (fun _ _ h => h)); have HBM := Lib.hid (HB.out.trans (qk.1.mono hws)); have hwm : w.heap.size ≤ m1.heap.size := (Nat.le_trans hws qk.size); clear qk)
        | (at_builtin; refine app_c rfl (.tmp 11) (.tmp 14) rfl w.heap.size _ (L ++ marks.take k) rfl (own_fr HOM.out ((Fr.refl m1 (fun _ => False)).alloc _) (fun _ _ h => h)) ⟨m1.heap.size, 0, none⟩ 1 (markP (777 + (k : Int))) rfl (World.news_of_block (heap_alloc_new m1 _)) (by omega) (by simp; omega) (m1.heap.size + 1) (by simp) ?_; intro g cap' w2 hown2 hg2 hat2 hlt2; have HO2 := Lib.hid hown2; have HB2 := Lib.hid (below_grown (HBM.out.alloc hwm _) hg2 (by simp; omega) (own_fr HOM.out ((Fr.refl m1 (fun _ => False)).alloc _) (fun _ _ h => h))); clear hown2 hg2 hat2))
      go_roundw
      case rel => exact ⟨k + 1, _, by omega, by go_num, rfl, by have := HO2.out; rw [hlen] at this; rw [HST.out, ← List.append_assoc]; exact this, HB2.out⟩
      case measure => simp [intOf]; omega
    · go_wp2
      go_ret
      have e5 : k = 5 := by omega
      subst e5
      have ho := HO.out
      have e : L ++ marks.take 5 = L ++ marks := rfl
      rw [e] at ho
      obtain ⟨A', cap, rfl, hc, hr, -⟩ := ho.rd
      obtain ⟨b, o, rfl, -, -⟩ := hr (by simp [marks])
      obtain ⟨-, ho0, -⟩ : _ ∧ o = 0 ∧ _ := by
        rcases ho.2 with ⟨hn, _⟩ | ⟨g, cap', cur, hv, _⟩
        · cases hn
        · simp only [Value.slice.injEq, Option.some.injEq, Addr.mk.injEq] at hv
          exact ⟨trivial, hv.1.2.1, trivial⟩
      subst ho0
      have hlen : (L ++ marks).length = L.length + 5 := by simp [marks]
      rw [hlen] at ho hc ⊢
      exact ⟨b, cap, rfl, hc, ho, hr, HB.out⟩
end Go.Proofs.Ytkddgjaflcjhiaa
namespace Go.Proofs.Ytkddgjaflcjhiaa
open Go.ChangeShapes Go.WideShapes Go.ChangeAt Go.RowKit Go.Maps
set_option linter.unusedVariables false
set_option linter.unusedSimpArgs false

theorem own_rd {w : World} {B : Nat} {A : Option Addr} {cap : Nat} {L : List Cp} (h : OwnC w B (.slice A L.length cap) L) : Rd w w.heap.size A L := by
  obtain ⟨A', cap', e, _, hr, -⟩ := h.rd
  cases e; exact hr
/-- A row of the call's own. -/
structure OwnA (w : World) (B : Nat) (v : Value) (L : List Cp) : Prop where
  own : OwnC w B v L
theorem OwnA.below {w w' : World} {B n : Nat} {v : Value} {L : List Cp} (h : OwnA w B v L) (k : Below n w w') (hn : w.heap.size ≤ n) : OwnA w' B v L :=
  ⟨own_fr h.own ((Fr.refl w (fun _ => False)).below k (fun i hi _ => Nat.lt_of_lt_of_le hi hn)) (fun _ _ h => h)⟩
theorem OwnA.drew {w : World} {B : Nat} {v : Value} {L : List Cp} (h : OwnA w B v L) : OwnA w.drew B v L := ⟨own_fr h.own ((Fr.refl w (fun _ => False)).drew) (fun _ _ h => h)⟩
/-- A world has so many blocks. -/
structure Sz (w : World) (k : Nat) : Prop where
  le : k ≤ w.heap.size
theorem Sz.below {w w' : World} {k n : Nat} (h : Sz w k) (q : Below n w w') (hn : w.heap.size ≤ n) : Sz w' k := ⟨Nat.le_trans h.le q.size⟩
theorem Rd.blk {w w' : World} {B B' g : Nat} {L : List Cp} (h : Rd w B (some ⟨g, 0, none⟩) L) (k : ∀ p : Addr, p.block = g → w'.cell? p = w.cell? p) (hg : g < B') : Rd w' B' (some ⟨g, 0, none⟩) L := fun hn => by
  obtain ⟨b, o, e, hb, hr⟩ := h hn
  cases e
  exact ⟨g, 0, rfl, hg, fun i c hi => (hr i c hi).keep k⟩
set_option maxHeartbeats 2000000 in
set_option maxRecDepth 100000 in
theorem tells_r1 (l : List Cp) (A : Option Addr) (n : Nat) (c d : Cp) (w : World) (h : Rd w w.heap.size A l) (hraw : ∀ x ∈ l, Raw x) (hlen : l.length ≤ 9223372036854775807) (rc : Raw c) (rd : Raw d) (hr1 : rightL l = false) :
    Calls Try.prog 7 #[.slice A l.length n, .agg #[c.tg, c.pe, c.ty, c.mo, c.e, c.b, c.t, c.g, .int .u64 c.a], .agg #[d.tg, d.pe, d.ty, d.mo, d.e, d.b, d.t, d.g, .int .u64 d.a]] w fun e' w' => e' = .returned (.bool true) ∧ Below w.heap.size w w' := by
  have HRL : Hid (∀ wx : World, Below w.heap.size w wx → Calls Try.prog 20 #[.slice A l.length n] wx fun e' w' => e' = .returned (.bool false) ∧ Kp wx w') := Lib.hid (fun wx hb => rightl_b l A n wx ((h.keep (w' := wx) fun p hp => hb.cell hp).more hb.size) hlen hraw false hr1)
  have C2 : At (w.heap.size) [c.tg, c.pe, c.ty, c.mo, c.e, c.b, c.t, c.g, .int .u64 c.a] ((w.alloc (.cells #[c.tg, c.pe, c.ty, c.mo, c.e, c.b, c.t, c.g, .int .u64 c.a] 25)).alloc (.cells #[d.tg, d.pe, d.ty, d.mo, d.e, d.b, d.t, d.g, .int .u64 d.a] 25)) := (At.new w [c.tg, c.pe, c.ty, c.mo, c.e, c.b, c.t, c.g, .int .u64 c.a] 25).alloc _
  have D2 : At (w.heap.size + 1) [d.tg, d.pe, d.ty, d.mo, d.e, d.b, d.t, d.g, .int .u64 d.a] ((w.alloc (.cells #[c.tg, c.pe, c.ty, c.mo, c.e, c.b, c.t, c.g, .int .u64 c.a] 25)).alloc (.cells #[d.tg, d.pe, d.ty, d.mo, d.e, d.b, d.t, d.g, .int .u64 d.a] 25)) := At.new' (w.alloc (.cells #[c.tg, c.pe, c.ty, c.mo, c.e, c.b, c.t, c.g, .int .u64 c.a] 25)) [d.tg, d.pe, d.ty, d.mo, d.e, d.b, d.t, d.g, .int .u64 d.a] 25 (by simp)
  have L2 : Bl w (w.heap.size + 1 + 1) ((w.alloc (.cells #[c.tg, c.pe, c.ty, c.mo, c.e, c.b, c.t, c.g, .int .u64 c.a] 25)).alloc (.cells #[d.tg, d.pe, d.ty, d.mo, d.e, d.b, d.t, d.g, .int .u64 d.a] 25)) := ⟨((Below.refl _ _).alloc (Nat.le_refl _) _).alloc (by simp) _, by omega, by simp⟩
  clear hraw rc rd
  go_enter Try.func7, Try.ntmps7
  go_upto_region 1 with fail
  generalize hw0 : ((w.alloc (.cells #[c.tg, c.pe, c.ty, c.mo, c.e, c.b, c.t, c.g, .int .u64 c.a] 25)).alloc (.cells #[d.tg, d.pe, d.ty, d.mo, d.e, d.b, d.t, d.g, .int .u64 d.a] 25)) = w0 at C2 D2 L2 ⊢
  clear hw0
  have le0 := L2.le
  obtain ⟨_, _, _, _, _, _, _, _, _⟩ := C2.out9
  obtain ⟨_, _, _, _, _, _, _, _, _⟩ := D2.out9
  have HC2 := Lib.hid C2
  have HD2 := Lib.hid D2
  have HL2 := Lib.hid L2
  clear C2 D2 L2
  go_wp2_with (first | (go_at_call 20; (with_reducible refine (HRL.out _ HL2.out.bl).mono ?_); rintro e' w1 ⟨rfl, qk⟩; have C3 := HC2.out.kp qk (by omega); have D3 := HD2.out.kp qk (by omega); have L3 := HL2.out.step qk.1; obtain ⟨_, _, _, _, _, _, _, _, _⟩ := C3.out9; obtain ⟨_, _, _, _, _, _, _, _, _⟩ := D3.out9; have le1 := L3.le; have HC3 := Lib.hid C3; have HD3 := Lib.hid D3; have HL3 := Lib.hid L3; clear qk C3 D3 L3) | (go_at_call 13; (with_reducible refine (works_w _).mono ?_); rintro e' wz ⟨rfl, hbz⟩; have BZ := Lib.hid (HL3.out.step hbz).bl; clear hbz))
  go_ret
  exact ⟨rfl, BZ.out⟩
set_option maxHeartbeats 2000000 in
set_option maxRecDepth 100000 in
theorem tells_r2 (l : List Cp) (A : Option Addr) (n : Nat) (c d : Cp) (w : World) (h : Rd w w.heap.size A l) (hraw : ∀ x ∈ l, Raw x) (hlen : l.length ≤ 9223372036854775807) (rc : Raw c) (rd : Raw d) (hr1 : rightL l = true) (hr2 : rightC c = false) :
    Calls Try.prog 7 #[.slice A l.length n, .agg #[c.tg, c.pe, c.ty, c.mo, c.e, c.b, c.t, c.g, .int .u64 c.a], .agg #[d.tg, d.pe, d.ty, d.mo, d.e, d.b, d.t, d.g, .int .u64 d.a]] w fun e' w' => e' = .returned (.bool true) ∧ Below w.heap.size w w' := by
  have HRL : Hid (∀ wx : World, Below w.heap.size w wx → Calls Try.prog 20 #[.slice A l.length n] wx fun e' w' => e' = .returned (.bool true) ∧ Kp wx w') := Lib.hid (fun wx hb => rightl_b l A n wx ((h.keep (w' := wx) fun p hp => hb.cell hp).more hb.size) hlen hraw true hr1)
  have HRC : Hid (∀ wx : World, Calls Try.prog 21 #[.agg #[c.tg, c.pe, c.ty, c.mo, c.e, c.b, c.t, c.g, .int .u64 c.a]] wx fun e' w' => e' = .returned (.bool false) ∧ Kp wx w') := Lib.hid (fun wx => right_c c rc false hr2 wx)
  have C2 : At (w.heap.size) [c.tg, c.pe, c.ty, c.mo, c.e, c.b, c.t, c.g, .int .u64 c.a] ((w.alloc (.cells #[c.tg, c.pe, c.ty, c.mo, c.e, c.b, c.t, c.g, .int .u64 c.a] 25)).alloc (.cells #[d.tg, d.pe, d.ty, d.mo, d.e, d.b, d.t, d.g, .int .u64 d.a] 25)) := (At.new w [c.tg, c.pe, c.ty, c.mo, c.e, c.b, c.t, c.g, .int .u64 c.a] 25).alloc _
  have D2 : At (w.heap.size + 1) [d.tg, d.pe, d.ty, d.mo, d.e, d.b, d.t, d.g, .int .u64 d.a] ((w.alloc (.cells #[c.tg, c.pe, c.ty, c.mo, c.e, c.b, c.t, c.g, .int .u64 c.a] 25)).alloc (.cells #[d.tg, d.pe, d.ty, d.mo, d.e, d.b, d.t, d.g, .int .u64 d.a] 25)) := At.new' (w.alloc (.cells #[c.tg, c.pe, c.ty, c.mo, c.e, c.b, c.t, c.g, .int .u64 c.a] 25)) [d.tg, d.pe, d.ty, d.mo, d.e, d.b, d.t, d.g, .int .u64 d.a] 25 (by simp)
  have L2 : Bl w (w.heap.size + 1 + 1) ((w.alloc (.cells #[c.tg, c.pe, c.ty, c.mo, c.e, c.b, c.t, c.g, .int .u64 c.a] 25)).alloc (.cells #[d.tg, d.pe, d.ty, d.mo, d.e, d.b, d.t, d.g, .int .u64 d.a] 25)) := ⟨((Below.refl _ _).alloc (Nat.le_refl _) _).alloc (by simp) _, by omega, by simp⟩
  clear hraw rc rd
  go_enter Try.func7, Try.ntmps7
  go_upto_region 1 with fail
  generalize hw0 : ((w.alloc (.cells #[c.tg, c.pe, c.ty, c.mo, c.e, c.b, c.t, c.g, .int .u64 c.a] 25)).alloc (.cells #[d.tg, d.pe, d.ty, d.mo, d.e, d.b, d.t, d.g, .int .u64 d.a] 25)) = w0 at C2 D2 L2 ⊢
  clear hw0
  have le0 := L2.le
  obtain ⟨_, _, _, _, _, _, _, _, _⟩ := C2.out9
  obtain ⟨_, _, _, _, _, _, _, _, _⟩ := D2.out9
  have HC2 := Lib.hid C2
  have HD2 := Lib.hid D2
  have HL2 := Lib.hid L2
  clear C2 D2 L2
  go_wp2_with (first | (go_at_call 20; (with_reducible refine (HRL.out _ HL2.out.bl).mono ?_); rintro e' w1 ⟨rfl, qk⟩; have C3 := HC2.out.kp qk (by omega); have D3 := HD2.out.kp qk (by omega); have L3 := HL2.out.step qk.1; obtain ⟨_, _, _, _, _, _, _, _, _⟩ := C3.out9; obtain ⟨_, _, _, _, _, _, _, _, _⟩ := D3.out9; have le1 := L3.le; have HC3 := Lib.hid C3; have HD3 := Lib.hid D3; have HL3 := Lib.hid L3; clear qk C3 D3 L3) | (go_at_call 21; (with_reducible refine (HRC.out w1).mono ?_); rintro e' w2 ⟨rfl, qk⟩; have C4 := HC3.out.kp qk (by omega); have D4 := HD3.out.kp qk (by omega); have L4 := HL3.out.step qk.1; obtain ⟨_, _, _, _, _, _, _, _, _⟩ := C4.out9; obtain ⟨_, _, _, _, _, _, _, _, _⟩ := D4.out9; have le2 := L4.le; have HC4 := Lib.hid C4; have HD4 := Lib.hid D4; have HL4 := Lib.hid L4; clear qk C4 D4 L4) | (go_at_call 13; (with_reducible refine (works_w _).mono ?_); rintro e' wz ⟨rfl, hbz⟩; have BZ := Lib.hid (HL4.out.step hbz).bl; clear hbz))
  go_ret
  exact ⟨rfl, BZ.out⟩
set_option maxHeartbeats 2000000 in
set_option maxRecDepth 100000 in
theorem tells_r3 (l : List Cp) (A : Option Addr) (n : Nat) (c d : Cp) (w : World) (h : Rd w w.heap.size A l) (hraw : ∀ x ∈ l, Raw x) (hlen : l.length ≤ 9223372036854775807) (rc : Raw c) (rd : Raw d) (hr1 : rightL l = true) (hr2 : rightC c = true) (hr3 : rightC d = false) :
    Calls Try.prog 7 #[.slice A l.length n, .agg #[c.tg, c.pe, c.ty, c.mo, c.e, c.b, c.t, c.g, .int .u64 c.a], .agg #[d.tg, d.pe, d.ty, d.mo, d.e, d.b, d.t, d.g, .int .u64 d.a]] w fun e' w' => e' = .returned (.bool true) ∧ Below w.heap.size w w' := by
  have HRL : Hid (∀ wx : World, Below w.heap.size w wx → Calls Try.prog 20 #[.slice A l.length n] wx fun e' w' => e' = .returned (.bool true) ∧ Kp wx w') := Lib.hid (fun wx hb => rightl_b l A n wx ((h.keep (w' := wx) fun p hp => hb.cell hp).more hb.size) hlen hraw true hr1)
  have HRC : Hid (∀ wx : World, Calls Try.prog 21 #[.agg #[c.tg, c.pe, c.ty, c.mo, c.e, c.b, c.t, c.g, .int .u64 c.a]] wx fun e' w' => e' = .returned (.bool true) ∧ Kp wx w') := Lib.hid (fun wx => right_c c rc true hr2 wx)
  have HRD : Hid (∀ wx : World, Calls Try.prog 21 #[.agg #[d.tg, d.pe, d.ty, d.mo, d.e, d.b, d.t, d.g, .int .u64 d.a]] wx fun e' w' => e' = .returned (.bool false) ∧ Kp wx w') := Lib.hid (fun wx => right_c d rd false hr3 wx)
  have C2 : At (w.heap.size) [c.tg, c.pe, c.ty, c.mo, c.e, c.b, c.t, c.g, .int .u64 c.a] ((w.alloc (.cells #[c.tg, c.pe, c.ty, c.mo, c.e, c.b, c.t, c.g, .int .u64 c.a] 25)).alloc (.cells #[d.tg, d.pe, d.ty, d.mo, d.e, d.b, d.t, d.g, .int .u64 d.a] 25)) := (At.new w [c.tg, c.pe, c.ty, c.mo, c.e, c.b, c.t, c.g, .int .u64 c.a] 25).alloc _
  have D2 : At (w.heap.size + 1) [d.tg, d.pe, d.ty, d.mo, d.e, d.b, d.t, d.g, .int .u64 d.a] ((w.alloc (.cells #[c.tg, c.pe, c.ty, c.mo, c.e, c.b, c.t, c.g, .int .u64 c.a] 25)).alloc (.cells #[d.tg, d.pe, d.ty, d.mo, d.e, d.b, d.t, d.g, .int .u64 d.a] 25)) := At.new' (w.alloc (.cells #[c.tg, c.pe, c.ty, c.mo, c.e, c.b, c.t, c.g, .int .u64 c.a] 25)) [d.tg, d.pe, d.ty, d.mo, d.e, d.b, d.t, d.g, .int .u64 d.a] 25 (by simp)
  have L2 : Bl w (w.heap.size + 1 + 1) ((w.alloc (.cells #[c.tg, c.pe, c.ty, c.mo, c.e, c.b, c.t, c.g, .int .u64 c.a] 25)).alloc (.cells #[d.tg, d.pe, d.ty, d.mo, d.e, d.b, d.t, d.g, .int .u64 d.a] 25)) := ⟨((Below.refl _ _).alloc (Nat.le_refl _) _).alloc (by simp) _, by omega, by simp⟩
  clear hraw rc rd
  go_enter Try.func7, Try.ntmps7
  go_upto_region 1 with fail
  generalize hw0 : ((w.alloc (.cells #[c.tg, c.pe, c.ty, c.mo, c.e, c.b, c.t, c.g, .int .u64 c.a] 25)).alloc (.cells #[d.tg, d.pe, d.ty, d.mo, d.e, d.b, d.t, d.g, .int .u64 d.a] 25)) = w0 at C2 D2 L2 ⊢
  clear hw0
  have le0 := L2.le
  obtain ⟨_, _, _, _, _, _, _, _, _⟩ := C2.out9
  obtain ⟨_, _, _, _, _, _, _, _, _⟩ := D2.out9
  have HC2 := Lib.hid C2
  have HD2 := Lib.hid D2
  have HL2 := Lib.hid L2
  clear C2 D2 L2
  go_wp2_with (first | (go_at_call 20; (with_reducible refine (HRL.out _ HL2.out.bl).mono ?_); rintro e' w1 ⟨rfl, qk⟩; have C3 := HC2.out.kp qk (by omega); have D3 := HD2.out.kp qk (by omega); have L3 := HL2.out.step qk.1; obtain ⟨_, _, _, _, _, _, _, _, _⟩ := C3.out9; obtain ⟨_, _, _, _, _, _, _, _, _⟩ := D3.out9; have le1 := L3.le; have HC3 := Lib.hid C3; have HD3 := Lib.hid D3; have HL3 := Lib.hid L3; clear qk C3 D3 L3) | (go_at_call 21; (with_reducible refine (HRC.out w1).mono ?_); rintro e' w2 ⟨rfl, qk⟩; have C4 := HC3.out.kp qk (by omega); have D4 := HD3.out.kp qk (by omega); have L4 := HL3.out.step qk.1; obtain ⟨_, _, _, _, _, _, _, _, _⟩ := C4.out9; obtain ⟨_, _, _, _, _, _, _, _, _⟩ := D4.out9; have le2 := L4.le; have HC4 := Lib.hid C4; have HD4 := Lib.hid D4; have HL4 := Lib.hid L4; clear qk C4 D4 L4) | (go_at_call 21; (with_reducible refine (HRD.out w2).mono ?_); rintro e' w3 ⟨rfl, qk⟩; have C5 := HC4.out.kp qk (by omega); have D5 := HD4.out.kp qk (by omega); have L5 := HL4.out.step qk.1; obtain ⟨_, _, _, _, _, _, _, _, _⟩ := C5.out9; obtain ⟨_, _, _, _, _, _, _, _, _⟩ := D5.out9; have le3 := L5.le; have HC5 := Lib.hid C5; have HD5 := Lib.hid D5; have HL5 := Lib.hid L5; clear qk C5 D5 L5) | (go_at_call 13; (with_reducible refine (works_w _).mono ?_); rintro e' wz ⟨rfl, hbz⟩; have BZ := Lib.hid (HL5.out.step hbz).bl; clear hbz))
  go_ret
  exact ⟨rfl, BZ.out⟩
set_option maxHeartbeats 16000000 in
set_option maxRecDepth 100000 in
theorem tells_core (l : List Cp) (A : Option Addr) (n : Nat) (c d : Cp) (w : World) (h : Rd w w.heap.size A l) (hraw : ∀ x ∈ l, Raw x) (hlen : l.length ≤ 9223372036854775807) (rc : Raw c) (rd : Raw d) (hr1 : rightL l = true) (hr2 : rightC c = true) (hr3 : rightC d = true) :
    Calls Try.prog 7 #[.slice A l.length n, .agg #[c.tg, c.pe, c.ty, c.mo, c.e, c.b, c.t, c.g, .int .u64 c.a], .agg #[d.tg, d.pe, d.ty, d.mo, d.e, d.b, d.t, d.g, .int .u64 d.a]] w fun e' w' => e' = .returned (.bool true) ∧ Below w.heap.size w w' := by
  have hr1' := hr1
  rw [rightL, Bool.and_eq_true, List.all_eq_true] at hr1'
  have hlen40 : l.length ≤ 40 := by simpa using hr1'.2
  have hL : ∀ x ∈ l, RC x := fun x hx => RC.of_right (hraw x hx) (hr1'.1 x hx)
  have hc := RC.of_right rc hr2
  have hd := RC.of_right rd hr3
  have hcl : (clo l).length ≤ 1000 := by have := clo_len l; omega
  have hT : (l ++ marks).take l.length = l := by simp
  obtain ⟨ls, els⟩ : ∃ v, lessB c d = v := ⟨_, rfl⟩
  obtain ⟨hs, ehs⟩ : ∃ v, hasB l c = v := ⟨_, rfl⟩
  have HRDL : Hid (∀ wx : World, Below w.heap.size w wx → Rd wx wx.heap.size A l) := Lib.hid (fun wx hb => (h.keep (w' := wx) fun p hp => hb.cell hp).more hb.size)
  have HLT : Hid (∀ wx : World, Rd wx wx.heap.size A l → Calls Try.prog 22 #[.slice A l.length n] wx fun e w' => ∃ g cap, e = .returned (.slice (some ⟨g, 0, none⟩) (l.length + 5) cap) ∧ l.length + 5 ≤ cap ∧ OwnC w' wx.heap.size (.slice (some ⟨g, 0, none⟩) (l.length + 5) cap) (l ++ marks) ∧ Rd w' w'.heap.size (some ⟨g, 0, none⟩) (l ++ marks) ∧ Below wx.heap.size wx w') := Lib.hid (fun wx hx => lent_w l A n (by omega) wx hx)
  have HCL : Hid (∀ (A' : Option Addr) (cap : Nat) (wx : World), Rd wx wx.heap.size A' l → Calls Try.prog 12 #[.slice A' l.length cap] wx (fun e w' => ∃ A2 cap2, e = .returned (.slice A2 (clo l).length cap2) ∧ OwnC w' wx.heap.size (.slice A2 (clo l).length cap2) (clo l) ∧ Rd w' w'.heap.size A2 (clo l) ∧ Below wx.heap.size wx w')) := Lib.hid (fun A' cap wx hx => clo_w l A' cap hL (by omega) wx hx)
  have HRC2 : Hid (∀ (A' : Option Addr) (cap : Nat) (wx : World), Rd wx wx.heap.size A' l → Calls Try.prog 23 #[.slice A' l.length cap] wx (fun e w' => ∃ A2 cap2, e = .returned (.slice A2 (clo l).length cap2) ∧ OwnC w' wx.heap.size (.slice A2 (clo l).length cap2) (clo l) ∧ Rd w' w'.heap.size A2 (clo l) ∧ Below wx.heap.size wx w')) := Lib.hid (fun A' cap wx hx => rclo_w l A' cap hL (by omega) wx hx)
  have HSM : Hid (∀ (A1 A2 : Option Addr) (n1 n2 : Nat) (wx : World), Rd wx wx.heap.size A1 (clo l) → Rd wx wx.heap.size A2 (clo l) → Calls Try.prog 24 #[.slice A1 (clo l).length n1, .slice A2 (clo l).length n2] wx (fun e w' => e = .returned (.bool true) ∧ Below wx.heap.size wx w')) := Lib.hid (fun A1 A2 n1 n2 wx h1 h2 => (same_w (clo l) (clo l) A1 A2 n1 n2 wx h1 h2 (by omega) (by omega) true (by simp)).mono (fun _ _ h => ⟨h.1, h.2.1⟩))
  have HLE : Hid (∀ wx : World, Calls Try.prog 25 #[.agg #[c.tg, c.pe, c.ty, c.mo, c.e, c.b, c.t, c.g, .int .u64 c.a], .agg #[d.tg, d.pe, d.ty, d.mo, d.e, d.b, d.t, d.g, .int .u64 d.a]] wx (fun e w' => e = .returned (.bool ls) ∧ Below wx.heap.size wx w')) := Lib.hid (fun wx => (less_o c d hc hd ls els wx).mono (fun _ _ h => ⟨h.1, h.2.1⟩))
  have HRLE : Hid (∀ wx : World, Calls Try.prog 26 #[.agg #[c.tg, c.pe, c.ty, c.mo, c.e, c.b, c.t, c.g, .int .u64 c.a], .agg #[d.tg, d.pe, d.ty, d.mo, d.e, d.b, d.t, d.g, .int .u64 d.a]] wx (fun e w' => e = .returned (.bool ls) ∧ Below wx.heap.size wx w')) := Lib.hid (fun wx => (rless_w c d hc hd ls els wx).mono (fun _ _ h => ⟨h.1, h.2.1⟩))
  have HHA : Hid (∀ (A' : Option Addr) (cap : Nat) (wx : World), Rd wx wx.heap.size A' l → Calls Try.prog 27 #[.slice A' l.length cap, .agg #[c.tg, c.pe, c.ty, c.mo, c.e, c.b, c.t, c.g, .int .u64 c.a]] wx (fun e w' => e = .returned (.bool hs) ∧ Below wx.heap.size wx w')) := Lib.hid (fun A' cap wx hx => has_w l A' cap c hL (by omega) hc hs ehs wx hx)
  have HRHA : Hid (∀ (A' : Option Addr) (cap : Nat) (wx : World), Rd wx wx.heap.size A' l → Calls Try.prog 28 #[.slice A' l.length cap, .agg #[c.tg, c.pe, c.ty, c.mo, c.e, c.b, c.t, c.g, .int .u64 c.a]] wx (fun e w' => e = .returned (.bool hs) ∧ Below wx.heap.size wx w')) := Lib.hid (fun A' cap wx hx => rhas_w l A' cap c hL (by omega) hc hs ehs wx hx)
  have HKE : Hid (∀ (g cap : Nat) (wx : World), l.length + 5 ≤ cap → Rd wx wx.heap.size A l → Rd wx wx.heap.size (some ⟨g, 0, none⟩) (l ++ marks) → Calls Try.prog 30 #[.slice (some ⟨g, 0, none⟩) (l.length + 5) cap, .slice A l.length n] wx (fun e w' => e = .returned (.bool true) ∧ Below wx.heap.size wx w')) := Lib.hid (fun g cap wx h1 h2 h3 => (kept_w l A n g cap (by omega) h1 wx h2 h3).mono (fun _ _ h => ⟨h.1, h.2.1⟩))
  have HSP : Hid (∀ (A' : Option Addr) (cap B : Nat) (wx : World), OwnC wx B (.slice A' (clo l).length cap) (clo l) → Calls Try.prog 29 #[.slice A' (clo l).length cap] wx fun e w' => e = .returned (.tuple #[]) ∧ Fr wx w' (fun k => (Value.slice A' (clo l).length cap).ownBlock = some k)) := Lib.hid (fun A' cap B wx ho => spoil_any (clo l) A' cap B hcl wx ho)
  have HRL : Hid (∀ wx : World, Below w.heap.size w wx → Calls Try.prog 20 #[.slice A l.length n] wx fun e' w' => e' = .returned (.bool true) ∧ Kp wx w') := Lib.hid (fun wx hb => rightl_b l A n wx ((h.keep (w' := wx) fun p hp => hb.cell hp).more hb.size) hlen hraw true hr1)
  have HRC : Hid (∀ wx : World, Calls Try.prog 21 #[.agg #[c.tg, c.pe, c.ty, c.mo, c.e, c.b, c.t, c.g, .int .u64 c.a]] wx fun e' w' => e' = .returned (.bool true) ∧ Kp wx w') := Lib.hid (fun wx => right_c c rc true hr2 wx)
  have HRD : Hid (∀ wx : World, Calls Try.prog 21 #[.agg #[d.tg, d.pe, d.ty, d.mo, d.e, d.b, d.t, d.g, .int .u64 d.a]] wx fun e' w' => e' = .returned (.bool true) ∧ Kp wx w') := Lib.hid (fun wx => right_c d rd true hr3 wx)
  have C2 : At (w.heap.size) [c.tg, c.pe, c.ty, c.mo, c.e, c.b, c.t, c.g, .int .u64 c.a] ((w.alloc (.cells #[c.tg, c.pe, c.ty, c.mo, c.e, c.b, c.t, c.g, .int .u64 c.a] 25)).alloc (.cells #[d.tg, d.pe, d.ty, d.mo, d.e, d.b, d.t, d.g, .int .u64 d.a] 25)) := (At.new w [c.tg, c.pe, c.ty, c.mo, c.e, c.b, c.t, c.g, .int .u64 c.a] 25).alloc _
  have D2 : At (w.heap.size + 1) [d.tg, d.pe, d.ty, d.mo, d.e, d.b, d.t, d.g, .int .u64 d.a] ((w.alloc (.cells #[c.tg, c.pe, c.ty, c.mo, c.e, c.b, c.t, c.g, .int .u64 c.a] 25)).alloc (.cells #[d.tg, d.pe, d.ty, d.mo, d.e, d.b, d.t, d.g, .int .u64 d.a] 25)) := At.new' (w.alloc (.cells #[c.tg, c.pe, c.ty, c.mo, c.e, c.b, c.t, c.g, .int .u64 c.a] 25)) [d.tg, d.pe, d.ty, d.mo, d.e, d.b, d.t, d.g, .int .u64 d.a] 25 (by simp)
  have L2 : Bl w (w.heap.size + 1 + 1) ((w.alloc (.cells #[c.tg, c.pe, c.ty, c.mo, c.e, c.b, c.t, c.g, .int .u64 c.a] 25)).alloc (.cells #[d.tg, d.pe, d.ty, d.mo, d.e, d.b, d.t, d.g, .int .u64 d.a] 25)) := ⟨((Below.refl _ _).alloc (Nat.le_refl _) _).alloc (by simp) _, by omega, by simp⟩
  have HT := Lib.hid hT
  have HX2 : Hid (marks.length = 5) := Lib.hid rfl
  clear h hr1 hr1' hr2 hr3 hraw hL hc hd rc rd els ehs hT hcl
  go_enter Try.func7, Try.ntmps7
  go_upto_region 1 with fail
  generalize hw0 : ((w.alloc (.cells #[c.tg, c.pe, c.ty, c.mo, c.e, c.b, c.t, c.g, .int .u64 c.a] 25)).alloc (.cells #[d.tg, d.pe, d.ty, d.mo, d.e, d.b, d.t, d.g, .int .u64 d.a] 25)) = w0 at C2 D2 L2 ⊢
  clear hw0
  have le0 := L2.le
  obtain ⟨_, _, _, _, _, _, _, _, _⟩ := C2.out9
  obtain ⟨_, _, _, _, _, _, _, _, _⟩ := D2.out9
  have HC2 := Lib.hid C2
  have HD2 := Lib.hid D2
  have HL2 := Lib.hid L2
  clear C2 D2 L2
  go_upto_region 6 with (first
    | (go_at_call 20; (with_reducible refine (HRL.out _ HL2.out.bl).mono ?_); rintro e' w1 ⟨rfl, qk⟩; have C3 := HC2.out.kp qk (by omega); have D3 := HD2.out.kp qk (by omega); have L3 := HL2.out.step qk.1; obtain ⟨_, _, _, _, _, _, _, _, _⟩ := C3.out9; obtain ⟨_, _, _, _, _, _, _, _, _⟩ := D3.out9; have le1 := L3.le; have HC3 := Lib.hid C3; have HD3 := Lib.hid D3; have HL3 := Lib.hid L3; clear qk C3 D3 L3)
    | (go_at_call 21; (with_reducible refine (HRC.out w1).mono ?_); rintro e' w2 ⟨rfl, qk⟩; have C4 := HC3.out.kp qk (by omega); have D4 := HD3.out.kp qk (by omega); have L4 := HL3.out.step qk.1; obtain ⟨_, _, _, _, _, _, _, _, _⟩ := C4.out9; obtain ⟨_, _, _, _, _, _, _, _, _⟩ := D4.out9; have le2 := L4.le; have HC4 := Lib.hid C4; have HD4 := Lib.hid D4; have HL4 := Lib.hid L4; clear qk C4 D4 L4)
    | (go_at_call 21; (with_reducible refine (HRD.out w2).mono ?_); rintro e' w3 ⟨rfl, qk⟩; have C5 := HC4.out.kp qk (by omega); have D5 := HD4.out.kp qk (by omega); have L5 := HL4.out.step qk.1; obtain ⟨_, _, _, _, _, _, _, _, _⟩ := C5.out9; obtain ⟨_, _, _, _, _, _, _, _, _⟩ := D5.out9; have le3 := L5.le; have HC5 := Lib.hid C5; have HD5 := Lib.hid D5; have HL5 := Lib.hid L5; clear qk C5 D5 L5)
    | (go_at_call 22; (with_reducible refine (HLT.out w3 (HRDL.out w3 HL5.out.bl)).mono ?_); rintro e' w4 ⟨g, cap, rfl, hcap, hox, hrx, hb⟩; have C6 := HL5.out.at_ hb HC5.out (show w.heap.size < _ by omega); have D6 := HL5.out.at_ hb HD5.out (show w.heap.size + 1 < _ by omega); have L6 := HL5.out.step hb; obtain ⟨_, _, _, _, _, _, _, _, _⟩ := C6.out9; obtain ⟨_, _, _, _, _, _, _, _, _⟩ := D6.out9; have le4 := L6.le; have HC6 := Lib.hid C6; have HD6 := Lib.hid D6; have HL6 := Lib.hid L6; have i0 : (0 : Int) ≤ (l.length : Int) := (by omega); have i1 : (l.length : Int) ≤ (cap : Int) := (by omega); have HCAP := Lib.hid hcap; have HX4 := Lib.hid hrx; have HXT4 : Hid (Rd w4 w4.heap.size (some ⟨g, 0, none⟩) l) := Lib.hid (by have e := hrx.take l.length; rw [HT.out] at e; exact e); have HGX : Hid (g < w4.heap.size) := Lib.hid (by obtain ⟨b, o, e, hb2, -⟩ := hrx (by simp [marks]); cases e; exact hb2); clear hcap hox hrx; clear hb C6 D6 L6)
    | (go_at_call 12; (with_reducible refine (HCL.out _ _ w4 HXT4.out).mono ?_); rintro e' w5 ⟨A5, cap5, rfl, hoa, hra, hb⟩; have C7 := HL6.out.at_ hb HC6.out (show w.heap.size < _ by omega); have D7 := HL6.out.at_ hb HD6.out (show w.heap.size + 1 < _ by omega); have L7 := HL6.out.step hb; obtain ⟨_, _, _, _, _, _, _, _, _⟩ := C7.out9; obtain ⟨_, _, _, _, _, _, _, _, _⟩ := D7.out9; have le5 := L7.le; have HC7 := Lib.hid C7; have HD7 := Lib.hid D7; have HL7 := Lib.hid L7; have HOA5 : Hid (OwnA w5 w4.heap.size (.slice A5 (clo l).length cap5) (clo l)) := Lib.hid ⟨hoa⟩; have HRA5 := Lib.hid hra; have HX5 := Lib.hid (HX4.out.below hb (Nat.le_refl _)); have HXT5 := Lib.hid (HXT4.out.below hb (Nat.le_refl _)); have HB45 : Hid (w4.heap.size ≤ w5.heap.size) := Lib.hid hb.size; clear hoa hra; clear hb C7 D7 L7)
    | (go_at_call 23; (with_reducible refine (HRC2.out _ _ w5 (HRDL.out w5 HL7.out.bl)).mono ?_); rintro e' w6 ⟨A6, cap6, rfl, hob, hrb, hb⟩; have C8 := HL7.out.at_ hb HC7.out (show w.heap.size < _ by omega); have D8 := HL7.out.at_ hb HD7.out (show w.heap.size + 1 < _ by omega); have L8 := HL7.out.step hb; obtain ⟨_, _, _, _, _, _, _, _, _⟩ := C8.out9; obtain ⟨_, _, _, _, _, _, _, _, _⟩ := D8.out9; have le6 := L8.le; have HC8 := Lib.hid C8; have HD8 := Lib.hid D8; have HL8 := Lib.hid L8; have HOB6 : Hid (OwnA w6 w5.heap.size (.slice A6 (clo l).length cap6) (clo l)) := Lib.hid ⟨hob⟩; have HRB6 := Lib.hid hrb; have HOA6 := Lib.hid (HOA5.out.below hb (Nat.le_refl _)); have HRA6 := Lib.hid (HRA5.out.below hb (Nat.le_refl _)); have HX6 := Lib.hid (HX5.out.below hb (Nat.le_refl _)); have HXT6 := Lib.hid (HXT5.out.below hb (Nat.le_refl _)); have HB56 : Hid (w5.heap.size ≤ w6.heap.size) := Lib.hid hb.size; have HRL6 := Lib.hid (HRDL.out w6 (HL7.out.step hb).bl); clear hob hrb; clear hb C8 D8 L8))
  have C9 := HC8.out
  have D9 := HD8.out
  have L9 := HL8.out
  refine wp_region_held_drew (S := (fun w' => At (w.heap.size) [c.tg, c.pe, c.ty, c.mo, c.e, c.b, c.t, c.g, .int .u64 c.a] w' ∧ At (w.heap.size + 1) [d.tg, d.pe, d.ty, d.mo, d.e, d.b, d.t, d.g, .int .u64 d.a] w' ∧ Bl w (w.heap.size + 1 + 1) w')) (by kernel_rfl) ⟨At.drew (by with_reducible assumption), At.drew (by with_reducible assumption), Bl.drew (by with_reducible assumption)⟩ (fun hS => ?_)
  have rl := HRL6.out.drew
  have rt := HXT6.out.drew
  have rx := HX6.out.drew
  have ra := HRA6.out.drew
  have rb := HRB6.out.drew
  have oa := HOA6.out.drew
  have ob := HOB6.out.drew
  have sz : Sz w6.drew w6.heap.size := ⟨Nat.le_refl _⟩
  change Rd w6.drew w6.drew.heap.size _ _ at rl
  change Rd w6.drew w6.drew.heap.size _ _ at rt
  change Rd w6.drew w6.drew.heap.size _ _ at rx
  change Rd w6.drew w6.drew.heap.size _ _ at ra
  change Rd w6.drew w6.drew.heap.size _ _ at rb
  generalize hgw : w6.drew = g0 at hS rl rt rx ra rb oa ob sz ⊢
  clear hgw C9 D9 L9
  try simp only [Act.put, zA, zB, zC]
  (refine tk 0 ?_ rfl (Or.inl ⟨by rfl, ?_⟩) hS ?_; rotate_left; focus (intro w' hSw; obtain ⟨s0, s1, sb⟩ := hSw; go_simp <;> try with_reducible rfl))
  try simp only [Act.put, zA, zB, zC]
  (refine tk 1 ?_ rfl (Or.inl ⟨by rfl, ?_⟩) hS ?_; rotate_left; focus (intro w' hSw; obtain ⟨s0, s1, sb⟩ := hSw; go_simp <;> try with_reducible rfl))
  try simp only [Act.put, zA, zB, zC]
  refine rdy 2 rfl (fun K hK => ?_)
  refine take_if (by rfl) ?_
  obtain ⟨s0, s1, sb⟩ := hS
  go_simp
  (with_reducible refine (HSM.out _ _ _ _ g0 ra rb).mono ?_)
  rintro e' g2 ⟨rfl, hb⟩
  have t0 := sb.at_ hb s0 (show w.heap.size < w.heap.size + 1 + 1 by omega)
  have t1 := sb.at_ hb s1 (show w.heap.size + 1 < w.heap.size + 1 + 1 by omega)
  have rl := rl.below hb (Nat.le_refl _)
  have rt := rt.below hb (Nat.le_refl _)
  have rx := rx.below hb (Nat.le_refl _)
  have ra := ra.below hb (Nat.le_refl _)
  have rb := rb.below hb (Nat.le_refl _)
  have oa := oa.below hb (Nat.le_refl _)
  have ob := ob.below hb (Nat.le_refl _)
  have sz := sz.below hb (Nat.le_refl _)
  refine hK.out _ _ ⟨t0, t1, (sb.step hb)⟩ (fun hS => ?_)
  clear hK K hb s0 t0 s1 t1 sb
  try simp only [Act.put, zA, zB, zC]
  (refine tk 3 ?_ rfl (Or.inl ⟨by rfl, ?_⟩) hS ?_; rotate_left; focus (intro w' hSw; obtain ⟨s0, s1, sb⟩ := hSw; go_simp <;> try with_reducible rfl))
  try simp only [Act.put, zA, zB, zC]
  (refine tk 4 ?_ rfl (Or.inl ⟨by rfl, ?_⟩) hS ?_; rotate_left; focus (intro w' hSw; obtain ⟨s0, s1, sb⟩ := hSw; go_simp <;> try with_reducible rfl))
  try simp only [Act.put, zA, zB, zC]
  (refine tk 5 ?_ rfl (Or.inl ⟨by rfl, ?_⟩) hS ?_; rotate_left; focus (intro w' hSw; obtain ⟨s0, s1, sb⟩ := hSw; obtain ⟨_, _, _, _, _, _, _, _, _⟩ := s0.out9; obtain ⟨_, _, _, _, _, _, _, _, _⟩ := s1.out9; go_simp <;> try with_reducible rfl))
  try simp only [Act.put, zA, zB, zC]
  (refine tk 6 ?_ rfl (Or.inl ⟨by rfl, ?_⟩) hS ?_; rotate_left; focus (intro w' hSw; obtain ⟨s0, s1, sb⟩ := hSw; obtain ⟨_, _, _, _, _, _, _, _, _⟩ := s0.out9; obtain ⟨_, _, _, _, _, _, _, _, _⟩ := s1.out9; go_simp <;> try with_reducible rfl))
  try simp only [Act.put, zA, zB, zC]
  (refine tk 8 ?_ rfl (Or.inl ⟨by rfl, ?_⟩) hS ?_; rotate_left; focus (intro w' hSw; obtain ⟨s0, s1, sb⟩ := hSw; obtain ⟨_, _, _, _, _, _, _, _, _⟩ := s0.out9; obtain ⟨_, _, _, _, _, _, _, _, _⟩ := s1.out9; go_simp <;> try with_reducible rfl))
  try simp only [Act.put, zA, zB, zC]
  (refine tk 9 ?_ rfl (Or.inl ⟨by rfl, ?_⟩) hS ?_; rotate_left; focus (intro w' hSw; obtain ⟨s0, s1, sb⟩ := hSw; obtain ⟨_, _, _, _, _, _, _, _, _⟩ := s0.out9; obtain ⟨_, _, _, _, _, _, _, _, _⟩ := s1.out9; go_simp <;> try with_reducible rfl))
  try simp only [Act.put, zA, zB, zC]
  refine rdy 7 rfl (fun K hK => ?_)
  refine take_if (by rfl) ?_
  obtain ⟨s0, s1, sb⟩ := hS
  go_simp
  (with_reducible refine (HLE.out g2).mono ?_)
  rintro e' g7 ⟨rfl, hb⟩
  have t0 := sb.at_ hb s0 (show w.heap.size < w.heap.size + 1 + 1 by omega)
  have t1 := sb.at_ hb s1 (show w.heap.size + 1 < w.heap.size + 1 + 1 by omega)
  have rl := rl.below hb (Nat.le_refl _)
  have rt := rt.below hb (Nat.le_refl _)
  have rx := rx.below hb (Nat.le_refl _)
  have ra := ra.below hb (Nat.le_refl _)
  have rb := rb.below hb (Nat.le_refl _)
  have oa := oa.below hb (Nat.le_refl _)
  have ob := ob.below hb (Nat.le_refl _)
  have sz := sz.below hb (Nat.le_refl _)
  refine hK.out _ _ ⟨t0, t1, (sb.step hb)⟩ (fun hS => ?_)
  clear hK K hb s0 t0 s1 t1 sb
  try simp only [Act.put, zA, zB, zC]
  refine rdy 10 rfl (fun K hK => ?_)
  refine take_if (by rfl) ?_
  obtain ⟨s0, s1, sb⟩ := hS
  go_simp
  (with_reducible refine (HRLE.out g7).mono ?_)
  rintro e' g10 ⟨rfl, hb⟩
  have t0 := sb.at_ hb s0 (show w.heap.size < w.heap.size + 1 + 1 by omega)
  have t1 := sb.at_ hb s1 (show w.heap.size + 1 < w.heap.size + 1 + 1 by omega)
  have rl := rl.below hb (Nat.le_refl _)
  have rt := rt.below hb (Nat.le_refl _)
  have rx := rx.below hb (Nat.le_refl _)
  have ra := ra.below hb (Nat.le_refl _)
  have rb := rb.below hb (Nat.le_refl _)
  have oa := oa.below hb (Nat.le_refl _)
  have ob := ob.below hb (Nat.le_refl _)
  have sz := sz.below hb (Nat.le_refl _)
  refine hK.out _ _ ⟨t0, t1, (sb.step hb)⟩ (fun hS => ?_)
  clear hK K hb s0 t0 s1 t1 sb
  try simp only [Act.put, zA, zB, zC]
  (refine tk 11 ?_ rfl (Or.inl ⟨by rfl, ?_⟩) hS ?_; rotate_left; focus (intro w' hSw; obtain ⟨s0, s1, sb⟩ := hSw; go_simp <;> try with_reducible rfl))
  try simp only [Act.put, zA, zB, zC]
  (refine tk 12 ?_ rfl (Or.inl ⟨by rfl, ?_⟩) hS ?_; rotate_left; focus (intro w' hSw; obtain ⟨s0, s1, sb⟩ := hSw; go_simp <;> try with_reducible rfl))
  try simp only [Act.put, zA, zB, zC]
  (refine tk 13 ?_ rfl (Or.inl ⟨by rfl, ?_⟩) hS ?_; rotate_left; focus (intro w' hSw; obtain ⟨s0, s1, sb⟩ := hSw; go_simp <;> try with_reducible rfl))
  try simp only [Act.put, zA, zB, zC]
  (refine tk 14 ?_ rfl (Or.inl ⟨by rfl, ?_⟩) hS ?_; rotate_left; focus (intro w' hSw; obtain ⟨s0, s1, sb⟩ := hSw; go_simp <;> try with_reducible rfl))
  try simp only [Act.put, zA, zB, zC]
  (refine tk 15 ?_ rfl (Or.inl ⟨by rfl, ?_⟩) hS ?_; rotate_left; focus (intro w' hSw; obtain ⟨s0, s1, sb⟩ := hSw; go_simp <;> try with_reducible rfl))
  try simp only [Act.put, zA, zB, zC]
  (refine tk 16 ?_ rfl (Or.inl ⟨by rfl, ?_⟩) hS ?_; rotate_left; focus (intro w' hSw; obtain ⟨s0, s1, sb⟩ := hSw; go_simp <;> try with_reducible rfl))
  try simp only [Act.put, zA, zB, zC]
  (refine tk 17 ?_ rfl (Or.inl ⟨by rfl, ?_⟩) hS ?_; rotate_left; focus (intro w' hSw; obtain ⟨s0, s1, sb⟩ := hSw; go_simp <;> try with_reducible rfl))
  try simp only [Act.put, zA, zB, zC]
  (refine tk 18 ?_ rfl (Or.inl ⟨by rfl, ?_⟩) hS ?_; rotate_left; focus (intro w' hSw; obtain ⟨s0, s1, sb⟩ := hSw; obtain ⟨_, _, _, _, _, _, _, _, _⟩ := s0.out9; obtain ⟨_, _, _, _, _, _, _, _, _⟩ := s1.out9; go_simp <;> try with_reducible rfl))
  try simp only [Act.put, zA, zB, zC]
  (refine tk 20 ?_ rfl (Or.inl ⟨by rfl, ?_⟩) hS ?_; rotate_left; focus (intro w' hSw; obtain ⟨s0, s1, sb⟩ := hSw; go_simp <;> try with_reducible rfl))
  try simp only [Act.put, zA, zB, zC]
  (refine tk 21 ?_ rfl (Or.inl ⟨by rfl, ?_⟩) hS ?_; rotate_left; focus (intro w' hSw; obtain ⟨s0, s1, sb⟩ := hSw; obtain ⟨_, _, _, _, _, _, _, _, _⟩ := s0.out9; obtain ⟨_, _, _, _, _, _, _, _, _⟩ := s1.out9; go_simp <;> try with_reducible rfl))
  try simp only [Act.put, zA, zB, zC]
  refine rdy 19 rfl (fun K hK => ?_)
  refine take_if (by rfl) ?_
  obtain ⟨s0, s1, sb⟩ := hS
  go_simp
  (with_reducible refine (HHA.out _ _ g10 rt).mono ?_)
  rintro e' g19 ⟨rfl, hb⟩
  have t0 := sb.at_ hb s0 (show w.heap.size < w.heap.size + 1 + 1 by omega)
  have t1 := sb.at_ hb s1 (show w.heap.size + 1 < w.heap.size + 1 + 1 by omega)
  have rl := rl.below hb (Nat.le_refl _)
  have rt := rt.below hb (Nat.le_refl _)
  have rx := rx.below hb (Nat.le_refl _)
  have ra := ra.below hb (Nat.le_refl _)
  have rb := rb.below hb (Nat.le_refl _)
  have oa := oa.below hb (Nat.le_refl _)
  have ob := ob.below hb (Nat.le_refl _)
  have sz := sz.below hb (Nat.le_refl _)
  refine hK.out _ _ ⟨t0, t1, (sb.step hb)⟩ (fun hS => ?_)
  clear hK K hb s0 t0 s1 t1 sb
  try simp only [Act.put, zA, zB, zC]
  refine rdy 22 rfl (fun K hK => ?_)
  refine take_if (by rfl) ?_
  obtain ⟨s0, s1, sb⟩ := hS
  go_simp
  (with_reducible refine (HRHA.out _ _ g19 rl).mono ?_)
  rintro e' g22 ⟨rfl, hb⟩
  have t0 := sb.at_ hb s0 (show w.heap.size < w.heap.size + 1 + 1 by omega)
  have t1 := sb.at_ hb s1 (show w.heap.size + 1 < w.heap.size + 1 + 1 by omega)
  have rl := rl.below hb (Nat.le_refl _)
  have rt := rt.below hb (Nat.le_refl _)
  have rx := rx.below hb (Nat.le_refl _)
  have ra := ra.below hb (Nat.le_refl _)
  have rb := rb.below hb (Nat.le_refl _)
  have oa := oa.below hb (Nat.le_refl _)
  have ob := ob.below hb (Nat.le_refl _)
  have sz := sz.below hb (Nat.le_refl _)
  refine hK.out _ _ ⟨t0, t1, (sb.step hb)⟩ (fun hS => ?_)
  clear hK K hb s0 t0 s1 t1 sb
  try simp only [Act.put, zA, zB, zC]
  (refine tk 23 ?_ rfl (Or.inl ⟨by rfl, ?_⟩) hS ?_; rotate_left; focus (intro w' hSw; obtain ⟨s0, s1, sb⟩ := hSw; go_simp <;> try with_reducible rfl))
  try simp only [Act.put, zA, zB, zC]
  (refine tk 24 ?_ rfl (Or.inl ⟨by rfl, ?_⟩) hS ?_; rotate_left; focus (intro w' hSw; obtain ⟨s0, s1, sb⟩ := hSw; go_simp <;> try with_reducible rfl))
  try simp only [Act.put, zA, zB, zC]
  refine wpAnyH_done (by kernel_rfl) ?_ _
  obtain ⟨s0, s1, sb⟩ := hS
  have RX := Lib.hid rx
  have OA := Lib.hid oa
  have OB := Lib.hid ob
  have SZ := Lib.hid sz
  have SB := Lib.hid sb
  clear rl rt rx ra rb oa ob sz s0 s1 sb
  go_wp2_with (first
    | (go_at_call 29; (with_reducible refine (HSP.out _ _ _ g22 OA.out.own).mono ?_); rintro e' z1 ⟨rfl, hf⟩; have hge : ∀ k, (Value.slice A5 (clo l).length cap5).ownBlock = some k → w4.heap.size ≤ k ∧ k < w5.heap.size := fun k hk => ⟨(OA.out.own.lt k hk).1, (HOA5.out.own.lt k hk).2⟩; have hb4 : Below w4.heap.size g22 z1 := hf.bl (Nat.le_trans (Nat.le_trans HB45.out HB56.out) SZ.out.le) (fun i hi => (hge i hi).1); have HBW : Hid (Below w.heap.size w z1) := Lib.hid (SB.out.bl.trans (hb4.mono (Nat.le_trans (by omega) (Nat.le_refl w4.heap.size)))); have HX9 : Hid (Rd z1 z1.heap.size (some ⟨g, 0, none⟩) (l ++ marks)) := Lib.hid (RX.out.blk (fun p hp => hb4.cell (by rw [hp]; exact HGX.out)) (Nat.lt_of_lt_of_le HGX.out (Nat.le_trans (Nat.le_trans (Nat.le_trans HB45.out HB56.out) SZ.out.le) hf.size))); have HOB9 : Hid (OwnA z1 w5.heap.size (.slice A6 (clo l).length cap6) (clo l)) := Lib.hid ⟨own_fr OB.out.own hf (fun k hk hk2 => absurd (OB.out.own.lt k hk).1 (Nat.not_le_of_lt (hge k hk2).2))⟩; clear hf hge hb4)
    | (go_at_call 30; (with_reducible refine (HKE.out g cap z1 HCAP.out (HRDL.out z1 HBW.out) HX9.out).mono ?_); rintro e' z2 ⟨rfl, hb⟩; have HBW2 := Lib.hid (HBW.out.trans (hb.mono HBW.out.size)); have HOB10 := Lib.hid (HOB9.out.below hb (Nat.le_refl _)); clear hb)
    | (go_at_call 12; (with_reducible refine (HCL.out A n z2 (HRDL.out z2 HBW2.out)).mono ?_); rintro e' z3 ⟨A7, cap7, rfl, -, hr, hb⟩; have HR7 := Lib.hid hr; have HBW3 := Lib.hid (HBW2.out.trans (hb.mono HBW2.out.size)); have HOB11 := Lib.hid (HOB10.out.below hb (Nat.le_refl _)); clear hr hb)
    | (go_at_call 24; (with_reducible refine (HSM.out _ _ _ _ z3 HR7.out (own_rd HOB11.out.own)).mono ?_); rintro e' z4 ⟨rfl, hb⟩; have HBW4 := Lib.hid (HBW3.out.trans (hb.mono HBW3.out.size)); clear hb)
    | (go_at_call 13; (with_reducible refine (works_w _).mono ?_); rintro e' wz ⟨rfl, hbz⟩; have BZ := Lib.hid (HBW4.out.trans (hbz.mono HBW4.out.size)); clear hbz))
  go_ret
  exact ⟨rfl, BZ.out⟩
theorem tells_all (l : List Cp) (A : Option Addr) (n : Nat) (c d : Cp) (w : World) (h : Rd w w.heap.size A l) (hraw : ∀ x ∈ l, Raw x) (hlen : l.length ≤ 9223372036854775807) (rc : Raw c) (rd : Raw d) :
    Calls Try.prog 7 #[.slice A l.length n, .agg #[c.tg, c.pe, c.ty, c.mo, c.e, c.b, c.t, c.g, .int .u64 c.a], .agg #[d.tg, d.pe, d.ty, d.mo, d.e, d.b, d.t, d.g, .int .u64 d.a]] w fun e' w' => e' = .returned (.bool true) ∧ Below w.heap.size w w' := by
  cases hr1 : rightL l
  · exact tells_r1 l A n c d w h hraw hlen rc rd hr1
  · cases hr2 : rightC c
    · exact tells_r2 l A n c d w h hraw hlen rc rd hr1 hr2
    · cases hr3 : rightC d
      · exact tells_r3 l A n c d w h hraw hlen rc rd hr1 hr2 hr3
      · exact tells_core l A n c d w h hraw hlen rc rd hr1 hr2 hr3
end Go.Proofs.Ytkddgjaflcjhiaa
