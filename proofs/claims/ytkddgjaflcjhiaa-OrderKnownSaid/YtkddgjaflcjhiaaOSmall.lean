/-
  The contracts of order's small functions (unsealed, permits, names, Less, seals, the two functions within Has), and of the document's sealed and Less. Bounds' fields are in their places.
-/
import Derived.Test.YtkddgjaflcjhiaaODef
import Derived.Test.YtkddgjaflcjhiaaCSub
import Derived.Test.YtkddgjaflcjhiaaCPerm
namespace Go.Proofs.Ytkddgjaflcjhiaa
open Go.ChangeShapes Go.WideShapes Go.ChangeAt Go.RowKit
set_option linter.unusedVariables false
set_option linter.unusedSimpArgs false

set_option maxHeartbeats 2000000 in
set_option maxRecDepth 100000 in
theorem unsealed_w (x : Cp) (w : World) : Calls Try.prog 40 #[.agg #[x.tg, x.pe, x.ty, x.mo, x.e, x.b, x.t, x.g, .int .u64 x.a]] w fun e' w' => e' = .returned (.agg #[.bool (uns x).tg, .int .i64 (uns x).pe, .int .i64 (uns x).ty, .int .i64 (uns x).mo, .int .i64 (uns x).e, .int .i64 (uns x).b, .int .i64 (uns x).t, .bool (uns x).g, .int .u64 (uns x).a]) ∧ Kp w w' := by
  obtain ⟨tg, pe, ty, mo, e, b, t, g, a⟩ := x
  dsimp only [uns]
  go_enter Try.func40, Try.ntmps40
  go_wp2
  refine bodyPost_ret (v := .agg #[tg, pe, .int .i64 262143, mo, e, b, t, g, .int .u64 a]) ?_ rfl ⟨rfl, ?_⟩
  · simp [results, Try.results40, go_sem, *]
  · repeat' (first | with_reducible refine Kp.setCell ?_ ?_ _ | with_reducible refine Kp.allocs ?_ _ _)
    all_goals first | exact Kp.refl w | (dsimp only; omega) | (simp; done) | (simp; omega)
theorem permits_o (x : Cp) (k : Int) (v : Bool) (hv : hasP x.pe k = v) (w : World) : Calls Try.prog 64 #[.agg #[x.tg, x.pe, x.ty, x.mo, x.e, x.b, x.t, x.g, .int .u64 x.a], k] w fun e' w' => e' = .returned (.bool v) ∧ Kp w w' := by
  subst hv
  go_enter Try.func64, Try.ntmps64
  go_wp2
  go_ret
  exact ⟨ret_bool (by first | rfl | (simp [hasP] <;> rfl)), (Kp.refl w).allocs _ _⟩
theorem rsealed_w (x : Cp) (v : Bool) (hv : x.sealed = v) (w : World) : Calls Try.prog 58 #[.agg #[x.tg, x.pe, x.ty, x.mo, x.e, x.b, x.t, x.g, .int .u64 x.a]] w fun e' w' => e' = .returned (.bool v) ∧ Kp w w' := by
  subst hv
  go_enter Try.func58, Try.ntmps58
  go_wp2
  go_ret
  exact ⟨ret_bool (by simp [Cp.sealed, sealedB] <;> rfl), (Kp.refl w).allocs _ _⟩
set_option maxHeartbeats 2000000 in
set_option maxRecDepth 100000 in
theorem names_w (b t : Int) (o : Bool) (k : Int) (t0 : 0 ≤ t) (t1 : t < 18446744073709551616) (k0 : 0 ≤ k) (k1 : k < 262144) (v : Bool) (hv : namesB b t o k = v) (w : World) :
    Calls Try.prog 74 #[.agg #[.int .u64 b, .int .u64 t, o], k] w fun e' w' => e' = .returned (.bool v) ∧ Kp w w' := by
  by_cases hk : k ≤ 262135
  · have e : inB b t o k 1 = v := by rw [← hv]; simp [namesB, hk]
    have hw : IntKind.u64.wrap k = k := by rw [IntKind.wrap_u64]; omega
    have HE := Lib.hid e
    clear e hv
    go_enter Try.func74, Try.ntmps74
    go_wp2_with (first | (go_at_call 92; (with_reducible refine (in_c b t o k 1 t0 t1 (by omega) (by omega) (by omega) (by omega) v HE.out _).mono ?_); rintro e' w1 ⟨rfl, qk⟩; have HQ := Lib.hid (((Kp.refl w).allocs _ _).trans qk); clear qk))
    go_ret
    exact ⟨rfl, HQ.out⟩
  · have e : v = false := by rw [← hv]; simp [namesB, hk]
    subst e
    clear hv
    go_enter Try.func74, Try.ntmps74
    go_wp2
    go_ret
    exact ⟨rfl, (Kp.refl w).allocs _ _⟩
set_option maxHeartbeats 2000000 in
set_option maxRecDepth 100000 in
theorem less_o (x y : Cp) (hx : RC x) (hy : RC y) (v : Bool) (hv : lessB x y = v) (w : World) : Calls Try.prog 25 #[.agg #[x.tg, x.pe, x.ty, x.mo, x.e, x.b, x.t, x.g, .int .u64 x.a], .agg #[y.tg, y.pe, y.ty, y.mo, y.e, y.b, y.t, y.g, .int .u64 y.a]] w fun e' w' => e' = .returned (.bool v) ∧ Kp w w' := by
  have HX := Lib.hid hx.f
  have HY := Lib.hid hy.f
  clear hx hy
  obtain ⟨ctg, cpe, cty, cmo, ce, cb, ct, cg, ca⟩ := x
  obtain ⟨dtg, dpe, dty, dmo, de, db, dt, dg, da⟩ := y
  dsimp only at HX HY
  simp only [lessB, Cp.sealed] at hv
  obtain ⟨sb, hsb⟩ : ∃ sb, subB dtg dpe de db dt dg da ctg cpe ce cb ct cg ca = sb := ⟨_, rfl⟩
  rw [hsb] at hv
  have HSB := Lib.hid hsb
  clear hsb
  cases ctg
  · obtain rfl : false = v := by simpa using hv
    clear hv
    go_enter Try.func25, Try.ntmps25
    go_wp2
    go_ret
    exact ⟨rfl, ((Kp.refl w).allocs _ _).allocs _ _⟩
  · cases hc : sealedB cty <;> cases hd : sealedB dty
    all_goals
      rw [hc, hd] at hv
      simp only [Bool.not_true, Bool.not_false, Bool.and_false, Bool.false_and, Bool.true_and, Bool.and_true] at hv
      have HC := Lib.hid hc
      have HD := Lib.hid hd
      subst hv
      clear hc hd
      go_enter Try.func25, Try.ntmps25
      go_wp2_with (first
        | (go_at_call 34; (with_reducible refine (sealed_w true cpe cty cmo ce cb ct cg ca _ HC.out _).mono ?_); rintro e' w1 ⟨rfl, qk⟩; have HKw1 := Lib.hid qk; have qw10 : w1.cell? ⟨w.heap.size, 0, none⟩ = some (.bool true) := qk.c; have qw11 : w1.cell? ⟨w.heap.size, 1, none⟩ = some (.int .i64 cpe) := qk.c; have qw12 : w1.cell? ⟨w.heap.size, 2, none⟩ = some (.int .i64 cty) := qk.c; have qw13 : w1.cell? ⟨w.heap.size, 3, none⟩ = some (.int .i64 cmo) := qk.c; have qw14 : w1.cell? ⟨w.heap.size, 4, none⟩ = some (.int .i64 ce) := qk.c; have qw15 : w1.cell? ⟨w.heap.size, 5, none⟩ = some (.int .i64 cb) := qk.c; have qw16 : w1.cell? ⟨w.heap.size, 6, none⟩ = some (.int .i64 ct) := qk.c; have qw17 : w1.cell? ⟨w.heap.size, 7, none⟩ = some (.bool cg) := qk.c; have qw18 : w1.cell? ⟨w.heap.size, 8, none⟩ = some (.int .u64 ca) := qk.c; have qw19 : w1.cell? ⟨w.heap.size + 1, 0, none⟩ = some (.bool dtg) := qk.c; have qw110 : w1.cell? ⟨w.heap.size + 1, 1, none⟩ = some (.int .i64 dpe) := qk.c; have qw111 : w1.cell? ⟨w.heap.size + 1, 2, none⟩ = some (.int .i64 dty) := qk.c; have qw112 : w1.cell? ⟨w.heap.size + 1, 3, none⟩ = some (.int .i64 dmo) := qk.c; have qw113 : w1.cell? ⟨w.heap.size + 1, 4, none⟩ = some (.int .i64 de) := qk.c; have qw114 : w1.cell? ⟨w.heap.size + 1, 5, none⟩ = some (.int .i64 db) := qk.c; have qw115 : w1.cell? ⟨w.heap.size + 1, 6, none⟩ = some (.int .i64 dt) := qk.c; have qw116 : w1.cell? ⟨w.heap.size + 1, 7, none⟩ = some (.bool dg) := qk.c; have qw117 : w1.cell? ⟨w.heap.size + 1, 8, none⟩ = some (.int .u64 da) := qk.c; have K1 := Lib.hid (Kp.trans (((Kp.refl w).allocs _ _).allocs _ _) qk); have s1 := qk.size; (try simp at s1); clear qk)
        | (go_at_call 34; (with_reducible refine (sealed_w dtg dpe dty dmo de db dt dg da _ HD.out _).mono ?_); rintro e' w2 ⟨rfl, qk⟩; have HKw2 := Lib.hid qk; have qw20 : w2.cell? ⟨w.heap.size, 0, none⟩ = some (.bool true) := qk.c; have qw21 : w2.cell? ⟨w.heap.size, 1, none⟩ = some (.int .i64 cpe) := qk.c; have qw22 : w2.cell? ⟨w.heap.size, 2, none⟩ = some (.int .i64 cty) := qk.c; have qw23 : w2.cell? ⟨w.heap.size, 3, none⟩ = some (.int .i64 cmo) := qk.c; have qw24 : w2.cell? ⟨w.heap.size, 4, none⟩ = some (.int .i64 ce) := qk.c; have qw25 : w2.cell? ⟨w.heap.size, 5, none⟩ = some (.int .i64 cb) := qk.c; have qw26 : w2.cell? ⟨w.heap.size, 6, none⟩ = some (.int .i64 ct) := qk.c; have qw27 : w2.cell? ⟨w.heap.size, 7, none⟩ = some (.bool cg) := qk.c; have qw28 : w2.cell? ⟨w.heap.size, 8, none⟩ = some (.int .u64 ca) := qk.c; have qw29 : w2.cell? ⟨w.heap.size + 1, 0, none⟩ = some (.bool dtg) := qk.c; have qw210 : w2.cell? ⟨w.heap.size + 1, 1, none⟩ = some (.int .i64 dpe) := qk.c; have qw211 : w2.cell? ⟨w.heap.size + 1, 2, none⟩ = some (.int .i64 dty) := qk.c; have qw212 : w2.cell? ⟨w.heap.size + 1, 3, none⟩ = some (.int .i64 dmo) := qk.c; have qw213 : w2.cell? ⟨w.heap.size + 1, 4, none⟩ = some (.int .i64 de) := qk.c; have qw214 : w2.cell? ⟨w.heap.size + 1, 5, none⟩ = some (.int .i64 db) := qk.c; have qw215 : w2.cell? ⟨w.heap.size + 1, 6, none⟩ = some (.int .i64 dt) := qk.c; have qw216 : w2.cell? ⟨w.heap.size + 1, 7, none⟩ = some (.bool dg) := qk.c; have qw217 : w2.cell? ⟨w.heap.size + 1, 8, none⟩ = some (.int .u64 da) := qk.c; have K2 := Lib.hid (Kp.trans K1.out qk); clear qk)
        | (go_at_call 57; (with_reducible refine (subset_w dtg dpe dty dmo de db dt dg da true cpe cty cmo ce cb ct cg ca HY.out HX.out _ HSB.out _).mono ?_); rintro e' w3 ⟨rfl, qk⟩; have HKw3 := Lib.hid qk; have K3 := Lib.hid (Kp.trans K2.out qk); clear qk))
      go_ret
      first | exact ⟨rfl, K3.out⟩ | exact ⟨rfl, K2.out⟩ | exact ⟨rfl, K1.out⟩
theorem ofs_bd (e b t : Int) (g : Bool) (a : Int) : 0 ≤ ofT e b t g a ∧ ofT e b t g a < 18446744073709551616 := ofT_bd e b t g a
set_option maxHeartbeats 2000000 in
set_option maxRecDepth 100000 in
theorem seals_w (x : Cp) (k : Int) (hx : RC x) (k0 : 0 ≤ k) (k1 : k < 262144) (v : Bool) (hv : canD x 128 k = v) (w : World) : Calls Try.prog 66 #[.agg #[x.tg, x.pe, x.ty, x.mo, x.e, x.b, x.t, x.g, .int .u64 x.a], k] w fun e' w' => e' = .returned (.bool v) ∧ Kp w w' := by
  have HX := Lib.hid hx.f
  clear hx
  have P : ∀ v w, hasP x.pe 128 = v → Calls Try.prog 64 #[.agg #[x.tg, x.pe, x.ty, x.mo, x.e, x.b, x.t, x.g, .int .u64 x.a], .int .i64 128] w fun e' w' => e' = .returned (.bool v) ∧ Kp w w' := fun v w h => permits_o x 128 v h w
  have HP := Lib.hid P
  clear P
  obtain ⟨ctg, cpe, cty, cmo, ce, cb, ct, cg, ca⟩ := x
  dsimp only at HX HP
  simp only [canD, Cp.sealed, rngIn] at hv
  have T := ofs_bd ce cb ct cg ca
  obtain ⟨nb, hnb⟩ : ∃ nb, namesB (ofB ce cb ca) (ofT ce cb ct cg ca) (ofO ce cb ct cg ca) k = nb := ⟨_, rfl⟩
  obtain ⟨RB, hRB⟩ : ∃ RB, ofB ce cb ca = RB := ⟨_, rfl⟩
  obtain ⟨RT, hRT⟩ : ∃ RT, ofT ce cb ct cg ca = RT := ⟨_, rfl⟩
  obtain ⟨RO, hRO⟩ : ∃ RO, ofO ce cb ct cg ca = RO := ⟨_, rfl⟩
  have HOF : ∀ w, Calls Try.prog 16 #[.agg #[ctg, cpe, cty, cmo, ce, cb, ct, cg, .int .u64 ca]] w fun e' w' => e' = .returned (.agg #[.int .u64 RB, .int .u64 RT, RO]) ∧ Kp w w' := fun w => hRB ▸ hRT ▸ hRO ▸ of_c ctg cpe cty cmo ce cb ct cg ca HX.out w
  rw [hnb] at hv
  rw [hRB, hRT, hRO] at hnb
  rw [hRT] at T
  obtain ⟨t0, t1⟩ := T
  have HF := Lib.hid HOF
  have HN := Lib.hid hnb
  clear hRB hRT hRO hnb HOF
  cases hc : sealedB cty <;> cases hp : hasP cpe 128
  all_goals
    rw [hc, hp] at hv
    simp only [Bool.not_true, Bool.not_false, Bool.and_false, Bool.false_and, Bool.true_and, Bool.and_true] at hv
    have HC := Lib.hid hc
    have HPP := Lib.hid hp
    subst hv
    clear hc hp
    go_enter Try.func66, Try.ntmps66
    go_wp2_with (first
      | (go_at_call 34; (with_reducible refine (sealed_w ctg cpe cty cmo ce cb ct cg ca _ HC.out _).mono ?_); rintro e' w1 ⟨rfl, qk⟩; have HKw1 := Lib.hid qk; have qw10 : w1.cell? ⟨w.heap.size, 0, none⟩ = some (.bool ctg) := qk.c; have qw11 : w1.cell? ⟨w.heap.size, 1, none⟩ = some (.int .i64 cpe) := qk.c; have qw12 : w1.cell? ⟨w.heap.size, 2, none⟩ = some (.int .i64 cty) := qk.c; have qw13 : w1.cell? ⟨w.heap.size, 3, none⟩ = some (.int .i64 cmo) := qk.c; have qw14 : w1.cell? ⟨w.heap.size, 4, none⟩ = some (.int .i64 ce) := qk.c; have qw15 : w1.cell? ⟨w.heap.size, 5, none⟩ = some (.int .i64 cb) := qk.c; have qw16 : w1.cell? ⟨w.heap.size, 6, none⟩ = some (.int .i64 ct) := qk.c; have qw17 : w1.cell? ⟨w.heap.size, 7, none⟩ = some (.bool cg) := qk.c; have qw18 : w1.cell? ⟨w.heap.size, 8, none⟩ = some (.int .u64 ca) := qk.c; have K1 := Lib.hid (Kp.trans ((Kp.refl w).allocs _ _) qk); have s1 := qk.size; (try simp at s1); clear qk)
      | (go_at_call 64; (with_reducible refine (HP.out _ _ HPP.out).mono ?_); rintro e' w2 ⟨rfl, qk⟩; have HKw2 := Lib.hid qk; have qw20 : w2.cell? ⟨w.heap.size, 0, none⟩ = some (.bool ctg) := qk.c; have qw21 : w2.cell? ⟨w.heap.size, 1, none⟩ = some (.int .i64 cpe) := qk.c; have qw22 : w2.cell? ⟨w.heap.size, 2, none⟩ = some (.int .i64 cty) := qk.c; have qw23 : w2.cell? ⟨w.heap.size, 3, none⟩ = some (.int .i64 cmo) := qk.c; have qw24 : w2.cell? ⟨w.heap.size, 4, none⟩ = some (.int .i64 ce) := qk.c; have qw25 : w2.cell? ⟨w.heap.size, 5, none⟩ = some (.int .i64 cb) := qk.c; have qw26 : w2.cell? ⟨w.heap.size, 6, none⟩ = some (.int .i64 ct) := qk.c; have qw27 : w2.cell? ⟨w.heap.size, 7, none⟩ = some (.bool cg) := qk.c; have qw28 : w2.cell? ⟨w.heap.size, 8, none⟩ = some (.int .u64 ca) := qk.c; have K2 := Lib.hid (Kp.trans K1.out qk); clear qk)
      | (go_at_call 16; (with_reducible refine (HF.out _).mono ?_); rintro e' w3 ⟨rfl, qk⟩; have HKw3 := Lib.hid qk; have K3 := Lib.hid (Kp.trans K2.out qk); clear qk)
      | (go_at_call 74; (with_reducible refine (names_w RB RT RO k t0 t1 k0 k1 _ HN.out _).mono ?_); rintro e' w4 ⟨rfl, qk⟩; have HKw4 := Lib.hid qk; have K4 := Lib.hid (Kp.trans K3.out qk); clear qk))
    go_ret
    first | exact ⟨rfl, K4.out⟩ | exact ⟨rfl, K2.out⟩ | exact ⟨rfl, K1.out⟩
set_option maxHeartbeats 2000000 in
set_option maxRecDepth 100000 in
theorem has1_w (y x : Cp) (q : Nat) (hx : RC x) (hy : RC y) (v : Bool) (hv : lessB (uns x) y = v) (w : World) (hq : q < w.heap.size) (hat : At q x.vs w) :
    Calls Try.prog 63 #[.agg #[y.tg, y.pe, y.ty, y.mo, y.e, y.b, y.t, y.g, .int .u64 y.a], .pointer (some ⟨q, 0, none⟩)] w fun e' w' => e' = .returned (.bool v) ∧ Kp w w' := by
  have L := less_o (uns x) y hx.uns hy v hv
  have HL := Lib.hid L
  obtain ⟨x0, x1, x2, x3, x4, x5, x6, x7, x8⟩ := hat.out9
  clear L hv hx hy hat
  have k0 : Bh w (w.heap.size + 1) (w.alloc (.cells #[y.tg, y.pe, y.ty, y.mo, y.e, y.b, y.t, y.g, .int .u64 y.a] 25)) := ⟨((Kp.refl w).allocs _ _), by simp, by simp⟩
  go_enter Try.func63, Try.ntmps63
  go_wp2
  go_region_held3 (fun w' => w'.cell? ⟨q, 0, none⟩ = some (.bool x.tg) ∧ w'.cell? ⟨q, 1, none⟩ = some (.int .i64 x.pe) ∧ w'.cell? ⟨q, 2, none⟩ = some (.int .i64 x.ty) ∧ w'.cell? ⟨q, 3, none⟩ = some (.int .i64 x.mo) ∧ w'.cell? ⟨q, 4, none⟩ = some (.int .i64 x.e) ∧ w'.cell? ⟨q, 5, none⟩ = some (.int .i64 x.b) ∧ w'.cell? ⟨q, 6, none⟩ = some (.int .i64 x.t) ∧ w'.cell? ⟨q, 7, none⟩ = some (.bool x.g) ∧ w'.cell? ⟨q, 8, none⟩ = some (.int .u64 x.a) ∧ w'.cell? ⟨w.heap.size, 0, none⟩ = some (.bool y.tg) ∧ w'.cell? ⟨w.heap.size, 1, none⟩ = some (.int .i64 y.pe) ∧ w'.cell? ⟨w.heap.size, 2, none⟩ = some (.int .i64 y.ty) ∧ w'.cell? ⟨w.heap.size, 3, none⟩ = some (.int .i64 y.mo) ∧ w'.cell? ⟨w.heap.size, 4, none⟩ = some (.int .i64 y.e) ∧ w'.cell? ⟨w.heap.size, 5, none⟩ = some (.int .i64 y.b) ∧ w'.cell? ⟨w.heap.size, 6, none⟩ = some (.int .i64 y.t) ∧ w'.cell? ⟨w.heap.size, 7, none⟩ = some (.bool y.g) ∧ w'.cell? ⟨w.heap.size, 8, none⟩ = some (.int .u64 y.a) ∧ Bh w (w.heap.size + 1) w')
    (first | (refine ⟨?_, ?_, ?_, ?_, ?_, ?_, ?_, ?_, ?_, ?_, ?_, ?_, ?_, ?_, ?_, ?_, ?_, ?_, ?_⟩ <;> first | with_reducible assumption | ((repeat' (first | with_reducible assumption | with_reducible apply Bh.drew | with_reducible apply Bh.alloc | with_reducible apply Bh.set | with_reducible refine Bh.cell_set (n := w.heap.size + 1) (p := ⟨_, _, none⟩) ?_ ?_ ?_ | with_reducible refine Bh.cell_alloc (W := w) (n := w.heap.size + 1) (p := ⟨_, _, none⟩) ?_ ?_ ?_ | (dsimp only; omega))); done) | (with_reducible apply Bh.drew; assumption) | (simp [go_sem, *]; done)))
    (first
      | (go_at_call 40; go_split_ands; refine (unsealed_w x _).mono ?_; rintro e w' ⟨rfl, qk⟩; have q0 : w'.cell? ⟨q, 0, none⟩ = some (.bool x.tg) := Bh.cell (n := w.heap.size + 1) (W := w) (by with_reducible assumption) qk (by dsimp only; omega) (by with_reducible assumption); have q1 : w'.cell? ⟨q, 1, none⟩ = some (.int .i64 x.pe) := Bh.cell (n := w.heap.size + 1) (W := w) (by with_reducible assumption) qk (by dsimp only; omega) (by with_reducible assumption); have q2 : w'.cell? ⟨q, 2, none⟩ = some (.int .i64 x.ty) := Bh.cell (n := w.heap.size + 1) (W := w) (by with_reducible assumption) qk (by dsimp only; omega) (by with_reducible assumption); have q3 : w'.cell? ⟨q, 3, none⟩ = some (.int .i64 x.mo) := Bh.cell (n := w.heap.size + 1) (W := w) (by with_reducible assumption) qk (by dsimp only; omega) (by with_reducible assumption); have q4 : w'.cell? ⟨q, 4, none⟩ = some (.int .i64 x.e) := Bh.cell (n := w.heap.size + 1) (W := w) (by with_reducible assumption) qk (by dsimp only; omega) (by with_reducible assumption); have q5 : w'.cell? ⟨q, 5, none⟩ = some (.int .i64 x.b) := Bh.cell (n := w.heap.size + 1) (W := w) (by with_reducible assumption) qk (by dsimp only; omega) (by with_reducible assumption); have q6 : w'.cell? ⟨q, 6, none⟩ = some (.int .i64 x.t) := Bh.cell (n := w.heap.size + 1) (W := w) (by with_reducible assumption) qk (by dsimp only; omega) (by with_reducible assumption); have q7 : w'.cell? ⟨q, 7, none⟩ = some (.bool x.g) := Bh.cell (n := w.heap.size + 1) (W := w) (by with_reducible assumption) qk (by dsimp only; omega) (by with_reducible assumption); have q8 : w'.cell? ⟨q, 8, none⟩ = some (.int .u64 x.a) := Bh.cell (n := w.heap.size + 1) (W := w) (by with_reducible assumption) qk (by dsimp only; omega) (by with_reducible assumption); have q9 : w'.cell? ⟨w.heap.size, 0, none⟩ = some (.bool y.tg) := Bh.cell (n := w.heap.size + 1) (W := w) (by with_reducible assumption) qk (by dsimp only; omega) (by with_reducible assumption); have q10 : w'.cell? ⟨w.heap.size, 1, none⟩ = some (.int .i64 y.pe) := Bh.cell (n := w.heap.size + 1) (W := w) (by with_reducible assumption) qk (by dsimp only; omega) (by with_reducible assumption); have q11 : w'.cell? ⟨w.heap.size, 2, none⟩ = some (.int .i64 y.ty) := Bh.cell (n := w.heap.size + 1) (W := w) (by with_reducible assumption) qk (by dsimp only; omega) (by with_reducible assumption); have q12 : w'.cell? ⟨w.heap.size, 3, none⟩ = some (.int .i64 y.mo) := Bh.cell (n := w.heap.size + 1) (W := w) (by with_reducible assumption) qk (by dsimp only; omega) (by with_reducible assumption); have q13 : w'.cell? ⟨w.heap.size, 4, none⟩ = some (.int .i64 y.e) := Bh.cell (n := w.heap.size + 1) (W := w) (by with_reducible assumption) qk (by dsimp only; omega) (by with_reducible assumption); have q14 : w'.cell? ⟨w.heap.size, 5, none⟩ = some (.int .i64 y.b) := Bh.cell (n := w.heap.size + 1) (W := w) (by with_reducible assumption) qk (by dsimp only; omega) (by with_reducible assumption); have q15 : w'.cell? ⟨w.heap.size, 6, none⟩ = some (.int .i64 y.t) := Bh.cell (n := w.heap.size + 1) (W := w) (by with_reducible assumption) qk (by dsimp only; omega) (by with_reducible assumption); have q16 : w'.cell? ⟨w.heap.size, 7, none⟩ = some (.bool y.g) := Bh.cell (n := w.heap.size + 1) (W := w) (by with_reducible assumption) qk (by dsimp only; omega) (by with_reducible assumption); have q17 : w'.cell? ⟨w.heap.size, 8, none⟩ = some (.int .u64 y.a) := Bh.cell (n := w.heap.size + 1) (W := w) (by with_reducible assumption) qk (by dsimp only; omega) (by with_reducible assumption); have qb : Bh w (w.heap.size + 1) w' := Bh.step (by with_reducible assumption) qk; have ql := qb.le; clear qk)
      | (go_at_call 25; go_split_ands; refine (HL.out _).mono ?_; rintro e w' ⟨rfl, qk⟩; have q0 : w'.cell? ⟨q, 0, none⟩ = some (.bool x.tg) := Bh.cell (n := w.heap.size + 1) (W := w) (by with_reducible assumption) qk (by dsimp only; omega) (by with_reducible assumption); have q1 : w'.cell? ⟨q, 1, none⟩ = some (.int .i64 x.pe) := Bh.cell (n := w.heap.size + 1) (W := w) (by with_reducible assumption) qk (by dsimp only; omega) (by with_reducible assumption); have q2 : w'.cell? ⟨q, 2, none⟩ = some (.int .i64 x.ty) := Bh.cell (n := w.heap.size + 1) (W := w) (by with_reducible assumption) qk (by dsimp only; omega) (by with_reducible assumption); have q3 : w'.cell? ⟨q, 3, none⟩ = some (.int .i64 x.mo) := Bh.cell (n := w.heap.size + 1) (W := w) (by with_reducible assumption) qk (by dsimp only; omega) (by with_reducible assumption); have q4 : w'.cell? ⟨q, 4, none⟩ = some (.int .i64 x.e) := Bh.cell (n := w.heap.size + 1) (W := w) (by with_reducible assumption) qk (by dsimp only; omega) (by with_reducible assumption); have q5 : w'.cell? ⟨q, 5, none⟩ = some (.int .i64 x.b) := Bh.cell (n := w.heap.size + 1) (W := w) (by with_reducible assumption) qk (by dsimp only; omega) (by with_reducible assumption); have q6 : w'.cell? ⟨q, 6, none⟩ = some (.int .i64 x.t) := Bh.cell (n := w.heap.size + 1) (W := w) (by with_reducible assumption) qk (by dsimp only; omega) (by with_reducible assumption); have q7 : w'.cell? ⟨q, 7, none⟩ = some (.bool x.g) := Bh.cell (n := w.heap.size + 1) (W := w) (by with_reducible assumption) qk (by dsimp only; omega) (by with_reducible assumption); have q8 : w'.cell? ⟨q, 8, none⟩ = some (.int .u64 x.a) := Bh.cell (n := w.heap.size + 1) (W := w) (by with_reducible assumption) qk (by dsimp only; omega) (by with_reducible assumption); have q9 : w'.cell? ⟨w.heap.size, 0, none⟩ = some (.bool y.tg) := Bh.cell (n := w.heap.size + 1) (W := w) (by with_reducible assumption) qk (by dsimp only; omega) (by with_reducible assumption); have q10 : w'.cell? ⟨w.heap.size, 1, none⟩ = some (.int .i64 y.pe) := Bh.cell (n := w.heap.size + 1) (W := w) (by with_reducible assumption) qk (by dsimp only; omega) (by with_reducible assumption); have q11 : w'.cell? ⟨w.heap.size, 2, none⟩ = some (.int .i64 y.ty) := Bh.cell (n := w.heap.size + 1) (W := w) (by with_reducible assumption) qk (by dsimp only; omega) (by with_reducible assumption); have q12 : w'.cell? ⟨w.heap.size, 3, none⟩ = some (.int .i64 y.mo) := Bh.cell (n := w.heap.size + 1) (W := w) (by with_reducible assumption) qk (by dsimp only; omega) (by with_reducible assumption); have q13 : w'.cell? ⟨w.heap.size, 4, none⟩ = some (.int .i64 y.e) := Bh.cell (n := w.heap.size + 1) (W := w) (by with_reducible assumption) qk (by dsimp only; omega) (by with_reducible assumption); have q14 : w'.cell? ⟨w.heap.size, 5, none⟩ = some (.int .i64 y.b) := Bh.cell (n := w.heap.size + 1) (W := w) (by with_reducible assumption) qk (by dsimp only; omega) (by with_reducible assumption); have q15 : w'.cell? ⟨w.heap.size, 6, none⟩ = some (.int .i64 y.t) := Bh.cell (n := w.heap.size + 1) (W := w) (by with_reducible assumption) qk (by dsimp only; omega) (by with_reducible assumption); have q16 : w'.cell? ⟨w.heap.size, 7, none⟩ = some (.bool y.g) := Bh.cell (n := w.heap.size + 1) (W := w) (by with_reducible assumption) qk (by dsimp only; omega) (by with_reducible assumption); have q17 : w'.cell? ⟨w.heap.size, 8, none⟩ = some (.int .u64 y.a) := Bh.cell (n := w.heap.size + 1) (W := w) (by with_reducible assumption) qk (by dsimp only; omega) (by with_reducible assumption); have qb : Bh w (w.heap.size + 1) w' := Bh.step (by with_reducible assumption) qk; have ql := qb.le; clear qk))
  all_goals
    go_wp2
    go_ret
    exact ⟨rfl, Bh.kp (by first | assumption | (rename_i hh; exact hh.2.2.2.2.2.2.2.2.2.2.2.2.2.2.2.2.2.2))⟩
set_option maxHeartbeats 2000000 in
set_option maxRecDepth 100000 in
theorem has2_w (y x : Cp) (q : Nat) (hx : RC x) (hy : RC y) (v : Bool) (hv : canD y 128 x.ty = v) (w : World) (hq : q < w.heap.size) (hat : At q x.vs w) :
    Calls Try.prog 65 #[.agg #[y.tg, y.pe, y.ty, y.mo, y.e, y.b, y.t, y.g, .int .u64 y.a], .pointer (some ⟨q, 0, none⟩)] w fun e' w' => e' = .returned (.bool v) ∧ Kp w w' := by
  have S := seals_w y x.ty hy hx.y0 hx.y1 v hv
  have HS := Lib.hid S
  obtain ⟨x0, x1, x2, x3, x4, x5, x6, x7, x8⟩ := hat.out9
  clear S hv hx hy hat
  go_enter Try.func65, Try.ntmps65
  go_wp2_with (first
    | (go_at_call 66; (with_reducible refine (HS.out _).mono ?_); rintro e' w1 ⟨rfl, qk⟩; have HKw1 := Lib.hid qk; have K1 := Lib.hid (Kp.trans ((Kp.refl w).allocs _ _) qk); clear qk))
  go_ret
  exact ⟨rfl, K1.out⟩
end Go.Proofs.Ytkddgjaflcjhiaa
