/-
  CapopsLess: whatever is made of a capability without unsealing has no more bounds and no more permissions, and a tag only if it had one, and was not sealed; what is built is no more than what permits it: the walk of the law. No condition.
-/
import Derived.Test.YtddgmbfngbobgaaCLessW
namespace Go.Proofs.Ytddgmbfngbobgaa.capopsLess
open Go.ChangeShapes Go.WideShapes Go.ChangeAt Go.RowKit
set_option linter.unusedVariables false
set_option linter.unusedSimpArgs false
theorem own : ownKnob Try.prog.godebug = none := by kernel_rfl
set_option maxHeartbeats 8000000 in
set_option maxRecDepth 100000 in
theorem less_core (ctg : Bool) (cpe cty cmo ce cb ct : Int) (cg : Bool) (ca : Int) (dtg : Bool) (dpe dty dmo de db dt : Int) (dg : Bool) (da : Int) (xpe xty xmo xe xb xt : Int) (hx : Rt xpe xty xmo xe xb xt ca) (Rx : Hid (∀ w : World, Calls Try.prog 11 #[.agg #[.bool ctg, .int .i64 cpe, .int .i64 cty, .int .i64 cmo, .int .i64 ce, .int .i64 cb, .int .i64 ct, .bool cg, .int .u64 ca]] w fun e' w' => e' = .returned (.agg #[.bool ctg, .int .i64 xpe, .int .i64 xty, .int .i64 xmo, .int .i64 xe, .int .i64 xb, .int .i64 xt, .bool cg, .int .u64 ca]) ∧ Kp w w')) (ype yty ymo ye yb yt : Int) (hy : Rt ype yty ymo ye yb yt da) (Ry : Hid (∀ w : World, Calls Try.prog 11 #[.agg #[.bool dtg, .int .i64 dpe, .int .i64 dty, .int .i64 dmo, .int .i64 de, .int .i64 db, .int .i64 dt, .bool dg, .int .u64 da]] w fun e' w' => e' = .returned (.agg #[.bool dtg, .int .i64 ype, .int .i64 yty, .int .i64 ymo, .int .i64 ye, .int .i64 yb, .int .i64 yt, .bool dg, .int .u64 da]) ∧ Kp w w')) (n k : Int) (xx : Bool) (n0 : 0 ≤ n) (n1 : n < 18446744073709551616) (w : World) :
    Calls Try.prog 6 #[.agg #[.bool ctg, .int .i64 cpe, .int .i64 cty, .int .i64 cmo, .int .i64 ce, .int .i64 cb, .int .i64 ct, .bool cg, .int .u64 ca], .agg #[.bool dtg, .int .i64 dpe, .int .i64 dty, .int .i64 dmo, .int .i64 de, .int .i64 db, .int .i64 dt, .bool dg, .int .u64 da], .int .u64 n, .int .i64 k, .bool xx] w fun e' w' => e' = .returned (.bool true) ∧ Kp w w' := by
  have op : ∀ s, (openB ctg xty && s) = true → ctg = true ∧ xty = 262143 := fun s h => by
    unfold openB at h; cases ctg <;> simp_all
  have mvl : ∀ x, 0 ≤ x → x < 18446744073709551616 → moveT ctg xty xe xb xt cg ca x = true → ctg = true ∧ xty = 262143 ∧ perB xpe xpe = true ∧ wiB xe xb xt cg ca xe xb xt cg x = true := fun x x0 x1 h => by
    obtain ⟨h1, h2⟩ := op _ h
    have hf : fitsV xe xb xt cg ca x = true := by unfold moveT at h; rw [Bool.and_eq_true] at h; exact h.2
    exact ⟨h1, h2, per_refl _, fits_wi _ _ _ _ _ _ hf⟩
  have hn := fromV_bd xe xb ca n
  have hyt : 0 ≤ yty ∧ yty < 18446744073709551616 := ⟨hy.y0, by have := hy.y1; omega⟩
  have bo : boundB ctg xty xe xb xt cg ca n xx = true → ctg = true ∧ xty = 262143 ∧ perB xpe xpe = true ∧ wiB xe xb xt cg ca (layE ca n) (layB ca n) (layT ca n) (bigB n) ca = true := fun h => by
    unfold boundB at h
    rw [Bool.and_eq_true, Bool.and_eq_true, Bool.and_eq_true] at h
    obtain ⟨⟨ho, _, hw⟩, _⟩ := h
    obtain ⟨h1, h2⟩ := op true (by rw [ho]; rfl)
    exact ⟨h1, h2, per_refl _, hw⟩
  have opl : ∀ p, perB xpe p = true → openB ctg xty = true → ctg = true ∧ xty = 262143 ∧ perB xpe p = true ∧ wiB xe xb xt cg ca xe xb xt cg ca = true := fun p hp h => by
    obtain ⟨h1, h2⟩ := op true (by rw [h]; rfl)
    exact ⟨h1, h2, hp, wi_refl _ _ _ _ _⟩
  have sel : sentryB ctg xpe xty = true → openB ctg xty = true := fun h => by unfold sentryB at h; rw [Bool.and_eq_true] at h; exact h.1
  have sll : sealB ctg xty dtg ype yty ye yb yt dg da = true → openB ctg xty = true := fun h => by unfold sealB at h; simp only [Bool.and_eq_true] at h; exact h.1.1.1
  have bul : buildB ctg xpe xty xe xb xt cg ca ype ye yb yt dg da = true → ctg = true ∧ xty = 262143 ∧ perB xpe ype = true ∧ wiB xe xb xt cg ca ye yb yt dg da = true := fun h => by
    unfold buildB at h
    rw [Bool.and_eq_true, Bool.and_eq_true, Bool.and_eq_true] at h
    obtain ⟨⟨⟨ho, _⟩, hw⟩, hp⟩ := h
    obtain ⟨h1, h2⟩ := op true (by rw [ho]; rfl)
    exact ⟨h1, h2, hp, hw⟩
  have hm := made_bd ca n
  have hfit : moveT ctg xty xe xb xt cg ca n = true → fitsV xe xb xt cg ca n = true := fun h => by unfold moveT at h; rw [Bool.and_eq_true] at h; exact h.2
  by_cases e0 : n = 0
  · cases et : decide (262135 < yty)
    · skip
      exact less_walk _ _ _ _ _ _ _ _ _ _ _ _ _ _ _ _ _ _ _ _ _ _ _ _ hx Rx _ _ _ _ _ _ hy Ry n k xx n0 n1 (moveT ctg xty xe xb xt cg ca n) (boundB ctg xty xe xb xt cg ca n xx) (openB ctg xty) (sentryB ctg xpe xty) (sealB ctg xty dtg ype yty ye yb yt dg da) (buildB ctg xpe xty xe xb xt cg ca ype ye yb yt dg da) (layE ca n) (layB ca n) (layT ca n) (bits .and .i64 xpe k) (bits .and .i64 k 1) (orV (sentryB ctg xpe xty) 262142 xty) (orV (sealB ctg xty dtg ype yty ye yb yt dg da) da xty) (btV (buildB ctg xpe xty xe xb xt cg ca ype ye yb yt dg da) ype yty) (bigB n) false 0 262143 0 52 0 0 true 0 (moveT ctg xty xe xb xt cg ca yty) xpe xty xmo xe xb xt cg yty _ _ _ _ _ _ _ _ _ (lenV (madeB ca n) (madeT ca n) (madeO ca n))
        (Lib.hid (fun w => build_w _ _ _ _ _ _ _ _ _ _ _ _ _ _ _ _ _ _ hx.f hy.f _ rfl w)) (Lib.hid (fun w => move_w _ _ _ _ _ _ _ _ _ n hx.f n0 n1 _ rfl w)) (Lib.hid (fun w => bound_w _ _ _ _ _ _ _ _ _ n xx hx.f n0 n1 _ rfl w)) (Lib.hid (fun w => less_w _ _ _ _ _ _ _ _ _ k _ rfl w)) (Lib.hid (fun w => mode_w _ _ _ _ _ _ _ _ _ k _ rfl w)) (Lib.hid (fun w => sentry_w _ _ _ _ _ _ _ _ _ _ rfl w)) (Lib.hid (fun w => seal_w _ _ _ _ _ _ _ _ _ _ _ _ _ _ _ _ _ _ hy.f _ rfl w)) (Lib.hid (fun w => by rw [e0]; exact from_0 _ _ _ _ _ _ _ _ _ w)) (Lib.hid (fun w => typed_lo _ _ _ _ _ _ _ _ _ _ _ _ _ _ _ _ _ _ hx.f et hy.y0 hy.y1 _ rfl w))
        (Lib.hid (fun w => lessf_w _ _ _ _ _ _ _ _ _ _ _ _ _ _ _ _ _ _ (hx.f.at n0 n1) hx.f (mvl n n0 n1) w)) (Lib.hid (fun w => lessf_w _ _ _ _ _ _ _ _ _ _ _ _ _ _ _ _ _ _ (lay_fld ca n hx.f.a0 hx.f.a1 n0 n1) hx.f bo w)) (Lib.hid (fun w => lessf_w _ _ _ _ _ _ _ _ _ _ _ _ _ _ _ _ _ _ hx.f hx.f (opl _ (per_and _ _)) w)) (Lib.hid (fun w => lessf_w _ _ _ _ _ _ _ _ _ _ _ _ _ _ _ _ _ _ hx.f hx.f (opl _ (per_refl _)) w)) (Lib.hid (fun w => lessf_w _ _ _ _ _ _ _ _ _ _ _ _ _ _ _ _ _ _ hx.f hx.f (fun h => opl _ (per_refl _) (sel h)) w)) (Lib.hid (fun w => lessf_w _ _ _ _ _ _ _ _ _ _ _ _ _ _ _ _ _ _ hx.f hx.f (fun h => opl _ (per_refl _) (sll h)) w)) (Lib.hid (fun w => lessf_no _ _ _ _ _ _ _ _ _ _ _ _ _ _ _ _ _ w)) (Lib.hid (fun w => lessf_w _ _ _ _ _ _ _ _ _ _ _ _ _ _ _ _ _ _ (hx.f.at hyt.1 hyt.2) hx.f (mvl _ hyt.1 hyt.2) w)) (Lib.hid (fun w => lessf_w _ _ _ _ _ _ _ _ _ _ _ _ _ _ _ _ _ _ hy.f hx.f bul w))
        (Lib.hid (fun w => of_c _ _ _ _ _ _ _ _ _ hx.f w)) (Lib.hid (fun w => of_c _ _ _ _ _ _ _ _ _ hy.f w)) (Lib.hid (fun w => of_c _ _ _ _ _ _ _ _ _ hy.f w)) (Lib.hid (fun _ w => of_c _ _ _ _ _ _ _ _ _ (lay_fld ca n hx.f.a0 hx.f.a1 n0 n1) w))
        (Lib.hid (fun h w => by
          obtain ⟨e1, e2, e3⟩ := fits_eq _ _ _ _ _ _ (hfit h)
          have c := of_c true xpe xty xmo xe xb xt cg n (hx.f.at n0 n1) w
          rw [e1, e2, e3] at c; exact c))
        (fun h => by rw [h]; unfold btV; simp only [if_true]; split <;> decide)
        (Lib.hid (fun h w => in_c _ _ _ _ _ hm.2.1 hm.2.2 hx.f.a0 hx.f.a1 (by omega) (by omega) true (bound_has _ _ _ _ _ _ _ _ _ hx.f.a0 hx.f.a1 n0 n1 h).1 w))
        (Lib.hid (fun w => len_w _ _ _ hm.1.1 hm.1.2 hm.2.1 hm.2.2 w))
        (fun h => (bound_has _ _ _ _ _ _ _ _ _ hx.f.a0 hx.f.a1 n0 n1 h).2.1) (fun h e => by have := (bound_has _ _ _ _ _ _ _ _ _ hx.f.a0 hx.f.a1 n0 n1 h).2.2 e; simp [this]) (per_and2 _ _) w
    · skip
      exact less_walk _ _ _ _ _ _ _ _ _ _ _ _ _ _ _ _ _ _ _ _ _ _ _ _ hx Rx _ _ _ _ _ _ hy Ry n k xx n0 n1 (moveT ctg xty xe xb xt cg ca n) (boundB ctg xty xe xb xt cg ca n xx) (openB ctg xty) (sentryB ctg xpe xty) (sealB ctg xty dtg ype yty ye yb yt dg da) (buildB ctg xpe xty xe xb xt cg ca ype ye yb yt dg da) (layE ca n) (layB ca n) (layT ca n) (bits .and .i64 xpe k) (bits .and .i64 k 1) (orV (sentryB ctg xpe xty) 262142 xty) (orV (sealB ctg xty dtg ype yty ye yb yt dg da) da xty) (btV (buildB ctg xpe xty xe xb xt cg ca ype ye yb yt dg da) ype yty) (bigB n) false 0 262143 0 52 0 0 true 0 false 0 262143 0 52 0 0 true 18446744073709551615 _ _ _ _ _ _ _ _ _ (lenV (madeB ca n) (madeT ca n) (madeO ca n))
        (Lib.hid (fun w => build_w _ _ _ _ _ _ _ _ _ _ _ _ _ _ _ _ _ _ hx.f hy.f _ rfl w)) (Lib.hid (fun w => move_w _ _ _ _ _ _ _ _ _ n hx.f n0 n1 _ rfl w)) (Lib.hid (fun w => bound_w _ _ _ _ _ _ _ _ _ n xx hx.f n0 n1 _ rfl w)) (Lib.hid (fun w => less_w _ _ _ _ _ _ _ _ _ k _ rfl w)) (Lib.hid (fun w => mode_w _ _ _ _ _ _ _ _ _ k _ rfl w)) (Lib.hid (fun w => sentry_w _ _ _ _ _ _ _ _ _ _ rfl w)) (Lib.hid (fun w => seal_w _ _ _ _ _ _ _ _ _ _ _ _ _ _ _ _ _ _ hy.f _ rfl w)) (Lib.hid (fun w => by rw [e0]; exact from_0 _ _ _ _ _ _ _ _ _ w)) (Lib.hid (fun w => typed_hi _ _ _ _ _ _ _ _ _ _ _ _ _ _ _ _ _ _ et w))
        (Lib.hid (fun w => lessf_w _ _ _ _ _ _ _ _ _ _ _ _ _ _ _ _ _ _ (hx.f.at n0 n1) hx.f (mvl n n0 n1) w)) (Lib.hid (fun w => lessf_w _ _ _ _ _ _ _ _ _ _ _ _ _ _ _ _ _ _ (lay_fld ca n hx.f.a0 hx.f.a1 n0 n1) hx.f bo w)) (Lib.hid (fun w => lessf_w _ _ _ _ _ _ _ _ _ _ _ _ _ _ _ _ _ _ hx.f hx.f (opl _ (per_and _ _)) w)) (Lib.hid (fun w => lessf_w _ _ _ _ _ _ _ _ _ _ _ _ _ _ _ _ _ _ hx.f hx.f (opl _ (per_refl _)) w)) (Lib.hid (fun w => lessf_w _ _ _ _ _ _ _ _ _ _ _ _ _ _ _ _ _ _ hx.f hx.f (fun h => opl _ (per_refl _) (sel h)) w)) (Lib.hid (fun w => lessf_w _ _ _ _ _ _ _ _ _ _ _ _ _ _ _ _ _ _ hx.f hx.f (fun h => opl _ (per_refl _) (sll h)) w)) (Lib.hid (fun w => lessf_no _ _ _ _ _ _ _ _ _ _ _ _ _ _ _ _ _ w)) (Lib.hid (fun w => lessf_no _ _ _ _ _ _ _ _ _ _ _ _ _ _ _ _ _ w)) (Lib.hid (fun w => lessf_w _ _ _ _ _ _ _ _ _ _ _ _ _ _ _ _ _ _ hy.f hx.f bul w))
        (Lib.hid (fun w => of_c _ _ _ _ _ _ _ _ _ hx.f w)) (Lib.hid (fun w => of_c _ _ _ _ _ _ _ _ _ hy.f w)) (Lib.hid (fun w => of_c _ _ _ _ _ _ _ _ _ hy.f w)) (Lib.hid (fun _ w => of_c _ _ _ _ _ _ _ _ _ (lay_fld ca n hx.f.a0 hx.f.a1 n0 n1) w))
        (Lib.hid (fun h w => by
          obtain ⟨e1, e2, e3⟩ := fits_eq _ _ _ _ _ _ (hfit h)
          have c := of_c true xpe xty xmo xe xb xt cg n (hx.f.at n0 n1) w
          rw [e1, e2, e3] at c; exact c))
        (fun h => by rw [h]; unfold btV; simp only [if_true]; split <;> decide)
        (Lib.hid (fun h w => in_c _ _ _ _ _ hm.2.1 hm.2.2 hx.f.a0 hx.f.a1 (by omega) (by omega) true (bound_has _ _ _ _ _ _ _ _ _ hx.f.a0 hx.f.a1 n0 n1 h).1 w))
        (Lib.hid (fun w => len_w _ _ _ hm.1.1 hm.1.2 hm.2.1 hm.2.2 w))
        (fun h => (bound_has _ _ _ _ _ _ _ _ _ hx.f.a0 hx.f.a1 n0 n1 h).2.1) (fun h e => by have := (bound_has _ _ _ _ _ _ _ _ _ hx.f.a0 hx.f.a1 n0 n1 h).2.2 e; simp [this]) (per_and2 _ _) w
  · cases et : decide (262135 < yty)
    · skip
      exact less_walk _ _ _ _ _ _ _ _ _ _ _ _ _ _ _ _ _ _ _ _ _ _ _ _ hx Rx _ _ _ _ _ _ hy Ry n k xx n0 n1 (moveT ctg xty xe xb xt cg ca n) (boundB ctg xty xe xb xt cg ca n xx) (openB ctg xty) (sentryB ctg xpe xty) (sealB ctg xty dtg ype yty ye yb yt dg da) (buildB ctg xpe xty xe xb xt cg ca ype ye yb yt dg da) (layE ca n) (layB ca n) (layT ca n) (bits .and .i64 xpe k) (bits .and .i64 k 1) (orV (sentryB ctg xpe xty) 262142 xty) (orV (sealB ctg xty dtg ype yty ye yb yt dg da) da xty) (btV (buildB ctg xpe xty xe xb xt cg ca ype ye yb yt dg da) ype yty) (bigB n) (moveT ctg xty xe xb xt cg ca (fromV xe xb ca n)) xpe xty xmo xe xb xt cg (fromV xe xb ca n) (moveT ctg xty xe xb xt cg ca yty) xpe xty xmo xe xb xt cg yty _ _ _ _ _ _ _ _ _ (lenV (madeB ca n) (madeT ca n) (madeO ca n))
        (Lib.hid (fun w => build_w _ _ _ _ _ _ _ _ _ _ _ _ _ _ _ _ _ _ hx.f hy.f _ rfl w)) (Lib.hid (fun w => move_w _ _ _ _ _ _ _ _ _ n hx.f n0 n1 _ rfl w)) (Lib.hid (fun w => bound_w _ _ _ _ _ _ _ _ _ n xx hx.f n0 n1 _ rfl w)) (Lib.hid (fun w => less_w _ _ _ _ _ _ _ _ _ k _ rfl w)) (Lib.hid (fun w => mode_w _ _ _ _ _ _ _ _ _ k _ rfl w)) (Lib.hid (fun w => sentry_w _ _ _ _ _ _ _ _ _ _ rfl w)) (Lib.hid (fun w => seal_w _ _ _ _ _ _ _ _ _ _ _ _ _ _ _ _ _ _ hy.f _ rfl w)) (Lib.hid (fun w => from_n _ _ _ _ _ _ _ _ _ n hx.f (by simpa using e0) _ rfl w)) (Lib.hid (fun w => typed_lo _ _ _ _ _ _ _ _ _ _ _ _ _ _ _ _ _ _ hx.f et hy.y0 hy.y1 _ rfl w))
        (Lib.hid (fun w => lessf_w _ _ _ _ _ _ _ _ _ _ _ _ _ _ _ _ _ _ (hx.f.at n0 n1) hx.f (mvl n n0 n1) w)) (Lib.hid (fun w => lessf_w _ _ _ _ _ _ _ _ _ _ _ _ _ _ _ _ _ _ (lay_fld ca n hx.f.a0 hx.f.a1 n0 n1) hx.f bo w)) (Lib.hid (fun w => lessf_w _ _ _ _ _ _ _ _ _ _ _ _ _ _ _ _ _ _ hx.f hx.f (opl _ (per_and _ _)) w)) (Lib.hid (fun w => lessf_w _ _ _ _ _ _ _ _ _ _ _ _ _ _ _ _ _ _ hx.f hx.f (opl _ (per_refl _)) w)) (Lib.hid (fun w => lessf_w _ _ _ _ _ _ _ _ _ _ _ _ _ _ _ _ _ _ hx.f hx.f (fun h => opl _ (per_refl _) (sel h)) w)) (Lib.hid (fun w => lessf_w _ _ _ _ _ _ _ _ _ _ _ _ _ _ _ _ _ _ hx.f hx.f (fun h => opl _ (per_refl _) (sll h)) w)) (Lib.hid (fun w => lessf_w _ _ _ _ _ _ _ _ _ _ _ _ _ _ _ _ _ _ (hx.f.at hn.1 hn.2) hx.f (mvl _ hn.1 hn.2) w)) (Lib.hid (fun w => lessf_w _ _ _ _ _ _ _ _ _ _ _ _ _ _ _ _ _ _ (hx.f.at hyt.1 hyt.2) hx.f (mvl _ hyt.1 hyt.2) w)) (Lib.hid (fun w => lessf_w _ _ _ _ _ _ _ _ _ _ _ _ _ _ _ _ _ _ hy.f hx.f bul w))
        (Lib.hid (fun w => of_c _ _ _ _ _ _ _ _ _ hx.f w)) (Lib.hid (fun w => of_c _ _ _ _ _ _ _ _ _ hy.f w)) (Lib.hid (fun w => of_c _ _ _ _ _ _ _ _ _ hy.f w)) (Lib.hid (fun _ w => of_c _ _ _ _ _ _ _ _ _ (lay_fld ca n hx.f.a0 hx.f.a1 n0 n1) w))
        (Lib.hid (fun h w => by
          obtain ⟨e1, e2, e3⟩ := fits_eq _ _ _ _ _ _ (hfit h)
          have c := of_c true xpe xty xmo xe xb xt cg n (hx.f.at n0 n1) w
          rw [e1, e2, e3] at c; exact c))
        (fun h => by rw [h]; unfold btV; simp only [if_true]; split <;> decide)
        (Lib.hid (fun h w => in_c _ _ _ _ _ hm.2.1 hm.2.2 hx.f.a0 hx.f.a1 (by omega) (by omega) true (bound_has _ _ _ _ _ _ _ _ _ hx.f.a0 hx.f.a1 n0 n1 h).1 w))
        (Lib.hid (fun w => len_w _ _ _ hm.1.1 hm.1.2 hm.2.1 hm.2.2 w))
        (fun h => (bound_has _ _ _ _ _ _ _ _ _ hx.f.a0 hx.f.a1 n0 n1 h).2.1) (fun h e => by have := (bound_has _ _ _ _ _ _ _ _ _ hx.f.a0 hx.f.a1 n0 n1 h).2.2 e; simp [this]) (per_and2 _ _) w
    · skip
      exact less_walk _ _ _ _ _ _ _ _ _ _ _ _ _ _ _ _ _ _ _ _ _ _ _ _ hx Rx _ _ _ _ _ _ hy Ry n k xx n0 n1 (moveT ctg xty xe xb xt cg ca n) (boundB ctg xty xe xb xt cg ca n xx) (openB ctg xty) (sentryB ctg xpe xty) (sealB ctg xty dtg ype yty ye yb yt dg da) (buildB ctg xpe xty xe xb xt cg ca ype ye yb yt dg da) (layE ca n) (layB ca n) (layT ca n) (bits .and .i64 xpe k) (bits .and .i64 k 1) (orV (sentryB ctg xpe xty) 262142 xty) (orV (sealB ctg xty dtg ype yty ye yb yt dg da) da xty) (btV (buildB ctg xpe xty xe xb xt cg ca ype ye yb yt dg da) ype yty) (bigB n) (moveT ctg xty xe xb xt cg ca (fromV xe xb ca n)) xpe xty xmo xe xb xt cg (fromV xe xb ca n) false 0 262143 0 52 0 0 true 18446744073709551615 _ _ _ _ _ _ _ _ _ (lenV (madeB ca n) (madeT ca n) (madeO ca n))
        (Lib.hid (fun w => build_w _ _ _ _ _ _ _ _ _ _ _ _ _ _ _ _ _ _ hx.f hy.f _ rfl w)) (Lib.hid (fun w => move_w _ _ _ _ _ _ _ _ _ n hx.f n0 n1 _ rfl w)) (Lib.hid (fun w => bound_w _ _ _ _ _ _ _ _ _ n xx hx.f n0 n1 _ rfl w)) (Lib.hid (fun w => less_w _ _ _ _ _ _ _ _ _ k _ rfl w)) (Lib.hid (fun w => mode_w _ _ _ _ _ _ _ _ _ k _ rfl w)) (Lib.hid (fun w => sentry_w _ _ _ _ _ _ _ _ _ _ rfl w)) (Lib.hid (fun w => seal_w _ _ _ _ _ _ _ _ _ _ _ _ _ _ _ _ _ _ hy.f _ rfl w)) (Lib.hid (fun w => from_n _ _ _ _ _ _ _ _ _ n hx.f (by simpa using e0) _ rfl w)) (Lib.hid (fun w => typed_hi _ _ _ _ _ _ _ _ _ _ _ _ _ _ _ _ _ _ et w))
        (Lib.hid (fun w => lessf_w _ _ _ _ _ _ _ _ _ _ _ _ _ _ _ _ _ _ (hx.f.at n0 n1) hx.f (mvl n n0 n1) w)) (Lib.hid (fun w => lessf_w _ _ _ _ _ _ _ _ _ _ _ _ _ _ _ _ _ _ (lay_fld ca n hx.f.a0 hx.f.a1 n0 n1) hx.f bo w)) (Lib.hid (fun w => lessf_w _ _ _ _ _ _ _ _ _ _ _ _ _ _ _ _ _ _ hx.f hx.f (opl _ (per_and _ _)) w)) (Lib.hid (fun w => lessf_w _ _ _ _ _ _ _ _ _ _ _ _ _ _ _ _ _ _ hx.f hx.f (opl _ (per_refl _)) w)) (Lib.hid (fun w => lessf_w _ _ _ _ _ _ _ _ _ _ _ _ _ _ _ _ _ _ hx.f hx.f (fun h => opl _ (per_refl _) (sel h)) w)) (Lib.hid (fun w => lessf_w _ _ _ _ _ _ _ _ _ _ _ _ _ _ _ _ _ _ hx.f hx.f (fun h => opl _ (per_refl _) (sll h)) w)) (Lib.hid (fun w => lessf_w _ _ _ _ _ _ _ _ _ _ _ _ _ _ _ _ _ _ (hx.f.at hn.1 hn.2) hx.f (mvl _ hn.1 hn.2) w)) (Lib.hid (fun w => lessf_no _ _ _ _ _ _ _ _ _ _ _ _ _ _ _ _ _ w)) (Lib.hid (fun w => lessf_w _ _ _ _ _ _ _ _ _ _ _ _ _ _ _ _ _ _ hy.f hx.f bul w))
        (Lib.hid (fun w => of_c _ _ _ _ _ _ _ _ _ hx.f w)) (Lib.hid (fun w => of_c _ _ _ _ _ _ _ _ _ hy.f w)) (Lib.hid (fun w => of_c _ _ _ _ _ _ _ _ _ hy.f w)) (Lib.hid (fun _ w => of_c _ _ _ _ _ _ _ _ _ (lay_fld ca n hx.f.a0 hx.f.a1 n0 n1) w))
        (Lib.hid (fun h w => by
          obtain ⟨e1, e2, e3⟩ := fits_eq _ _ _ _ _ _ (hfit h)
          have c := of_c true xpe xty xmo xe xb xt cg n (hx.f.at n0 n1) w
          rw [e1, e2, e3] at c; exact c))
        (fun h => by rw [h]; unfold btV; simp only [if_true]; split <;> decide)
        (Lib.hid (fun h w => in_c _ _ _ _ _ hm.2.1 hm.2.2 hx.f.a0 hx.f.a1 (by omega) (by omega) true (bound_has _ _ _ _ _ _ _ _ _ hx.f.a0 hx.f.a1 n0 n1 h).1 w))
        (Lib.hid (fun w => len_w _ _ _ hm.1.1 hm.1.2 hm.2.1 hm.2.2 w))
        (fun h => (bound_has _ _ _ _ _ _ _ _ _ hx.f.a0 hx.f.a1 n0 n1 h).2.1) (fun h e => by have := (bound_has _ _ _ _ _ _ _ _ _ hx.f.a0 hx.f.a1 n0 n1 h).2.2 e; simp [this]) (per_and2 _ _) w
set_option maxHeartbeats 8000000 in
set_option maxRecDepth 100000 in
theorem less_law (ctg : Bool) (cpe cty cmo ce cb ct : Int) (cg : Bool) (ca : Int) (dtg : Bool) (dpe dty dmo de db dt : Int) (dg : Bool) (da : Int) (n k : Int) (xx : Bool) (cp0 : -9223372036854775808 ≤ cpe) (cp1 : cpe < 9223372036854775808) (cy0 : -9223372036854775808 ≤ cty) (cy1 : cty < 9223372036854775808) (co0 : -9223372036854775808 ≤ cmo) (co1 : cmo < 9223372036854775808) (ce0 : -9223372036854775808 ≤ ce) (ce1 : ce < 9223372036854775808) (cb0 : -9223372036854775808 ≤ cb) (cb1 : cb < 9223372036854775808) (ct0 : -9223372036854775808 ≤ ct) (ct1 : ct < 9223372036854775808) (ca0 : 0 ≤ ca) (ca1 : ca < 18446744073709551616) (dp0 : -9223372036854775808 ≤ dpe) (dp1 : dpe < 9223372036854775808) (dy0 : -9223372036854775808 ≤ dty) (dy1 : dty < 9223372036854775808) (do0 : -9223372036854775808 ≤ dmo) (do1 : dmo < 9223372036854775808) (de0 : -9223372036854775808 ≤ de) (de1 : de < 9223372036854775808) (db0 : -9223372036854775808 ≤ db) (db1 : db < 9223372036854775808) (dt0 : -9223372036854775808 ≤ dt) (dt1 : dt < 9223372036854775808) (da0 : 0 ≤ da) (da1 : da < 18446744073709551616) (n0 : 0 ≤ n) (n1 : n < 18446744073709551616) (k0 : -9223372036854775808 ≤ k) (k1 : k < 9223372036854775808) (w : World) :
    Calls Try.prog 6 #[.agg #[.bool ctg, .int .i64 cpe, .int .i64 cty, .int .i64 cmo, .int .i64 ce, .int .i64 cb, .int .i64 ct, .bool cg, .int .u64 ca], .agg #[.bool dtg, .int .i64 dpe, .int .i64 dty, .int .i64 dmo, .int .i64 de, .int .i64 db, .int .i64 dt, .bool dg, .int .u64 da], .int .u64 n, .int .i64 k, .bool xx] w fun e' w' => e' = .returned (.bool true) ∧ Kp w w' := by
  obtain ⟨xpe, xty, xmo, xe, xb, xt, hx, rx⟩ := right_ex ctg cpe cty cmo ce cb ct cg ca cp0 cp1 cy0 cy1 co0 co1 ce0 ce1 cb0 cb1 ct0 ct1 ca0 ca1
  obtain ⟨ype, yty, ymo, ye, yb, yt, hy, ry⟩ := right_ex dtg dpe dty dmo de db dt dg da dp0 dp1 dy0 dy1 do0 do1 de0 de1 db0 db1 dt0 dt1 da0 da1
  exact less_core ctg cpe cty cmo ce cb ct cg ca dtg dpe dty dmo de db dt dg da xpe xty xmo xe xb xt hx (Lib.hid rx) ype yty ymo ye yb yt hy (Lib.hid ry) n k xx n0 n1 w
set_option maxHeartbeats 8000000 in
set_option maxRecDepth 100000 in
theorem walk (a0 : Bool) (a1 : Int) (a2 : Int) (a3 : Int) (a4 : Int) (a5 : Int) (a6 : Int) (a7 : Bool) (a8 : Int) (a9 : Bool) (a10 : Int) (a11 : Int) (a12 : Int) (a13 : Int) (a14 : Int) (a15 : Int) (a16 : Bool) (a17 : Int) (a18 : Int) (a19 : Int) (a20 : Bool) (w1 : (Lit.int .i64 a1).wf = true) (w2 : (Lit.int .i64 a2).wf = true) (w3 : (Lit.int .i64 a3).wf = true) (w4 : (Lit.int .i64 a4).wf = true) (w5 : (Lit.int .i64 a5).wf = true) (w6 : (Lit.int .i64 a6).wf = true) (w8 : (Lit.int .u64 a8).wf = true) (w10 : (Lit.int .i64 a10).wf = true) (w11 : (Lit.int .i64 a11).wf = true) (w12 : (Lit.int .i64 a12).wf = true) (w13 : (Lit.int .i64 a13).wf = true) (w14 : (Lit.int .i64 a14).wf = true) (w15 : (Lit.int .i64 a15).wf = true) (w17 : (Lit.int .u64 a17).wf = true) (w18 : (Lit.int .u64 a18).wf = true) (w19 : (Lit.int .i64 a19).wf = true) (w : World) :
    Calls Try.prog 6 #[.agg #[.bool a0, .int .i64 a1, .int .i64 a2, .int .i64 a3, .int .i64 a4, .int .i64 a5, .int .i64 a6, .bool a7, .int .u64 a8], .agg #[.bool a9, .int .i64 a10, .int .i64 a11, .int .i64 a12, .int .i64 a13, .int .i64 a14, .int .i64 a15, .bool a16, .int .u64 a17], .int .u64 a18, .int .i64 a19, .bool a20] w fun e w' => e = .returned (.bool true) ∧ Grown w w' :=
  (less_law a0 a1 a2 a3 a4 a5 a6 a7 a8 a9 a10 a11 a12 a13 a14 a15 a16 a17 a18 a19 a20 (i64_bd w1).1 (i64_bd w1).2 (i64_bd w2).1 (i64_bd w2).2 (i64_bd w3).1 (i64_bd w3).2 (i64_bd w4).1 (i64_bd w4).2 (i64_bd w5).1 (i64_bd w5).2 (i64_bd w6).1 (i64_bd w6).2 (u64_bd w8).1 (u64_bd w8).2 (i64_bd w10).1 (i64_bd w10).2 (i64_bd w11).1 (i64_bd w11).2 (i64_bd w12).1 (i64_bd w12).2 (i64_bd w13).1 (i64_bd w13).2 (i64_bd w14).1 (i64_bd w14).2 (i64_bd w15).1 (i64_bd w15).2 (u64_bd w17).1 (u64_bd w17).2 (u64_bd w18).1 (u64_bd w18).2 (i64_bd w19).1 (i64_bd w19).2 w).mono fun _ _ h => ⟨h.1, h.2.grown⟩
end Go.Proofs.Ytddgmbfngbobgaa.capopsLess
