/-
  CapopsSeals: a capability is sealed just by one that has PSeal, a tag, no seal, and its address, which is the type, in its bounds; what is sealed is opened by the same address with PUnseal alone, as it was, but for PGlobal: the walk of the law. No condition.
-/
import Derived.Test.YtddgmbfngbobgaaCSealsNo
import Derived.Test.YtddgmbfngbobgaaCSealsYesA
import Derived.Test.YtddgmbfngbobgaaCSealsYesB
namespace Go.Proofs.Ytddgmbfngbobgaa.capopsSeals
open Go.ChangeShapes Go.WideShapes Go.ChangeAt Go.RowKit
set_option linter.unusedVariables false
set_option linter.unusedSimpArgs false
theorem own : ownKnob Try.prog.godebug = none := by kernel_rfl
theorem bft (b : Bool) : b = false ∨ b = true := by cases b <;> simp
set_option maxHeartbeats 2000000 in
set_option maxRecDepth 100000 in
theorem seals_core (ctg : Bool) (cpe cty cmo ce cb ct : Int) (cg : Bool) (ca : Int) (dtg : Bool) (dpe dty dmo de db dt : Int) (dg : Bool) (da : Int) (ftg : Bool) (fpe fty fmo fe fb ft : Int) (fg : Bool) (fa : Int) (xpe xty xmo xe xb xt : Int) (hx : Rt xpe xty xmo xe xb xt ca) (Rx : Hid (∀ w : World, Calls Try.prog 11 #[.agg #[.bool ctg, .int .i64 cpe, .int .i64 cty, .int .i64 cmo, .int .i64 ce, .int .i64 cb, .int .i64 ct, .bool cg, .int .u64 ca]] w fun e' w' => e' = .returned (.agg #[.bool ctg, .int .i64 xpe, .int .i64 xty, .int .i64 xmo, .int .i64 xe, .int .i64 xb, .int .i64 xt, .bool cg, .int .u64 ca]) ∧ Kp w w')) (ype yty ymo ye yb yt : Int) (hy : Rt ype yty ymo ye yb yt da) (Ry : Hid (∀ w : World, Calls Try.prog 11 #[.agg #[.bool dtg, .int .i64 dpe, .int .i64 dty, .int .i64 dmo, .int .i64 de, .int .i64 db, .int .i64 dt, .bool dg, .int .u64 da]] w fun e' w' => e' = .returned (.agg #[.bool dtg, .int .i64 ype, .int .i64 yty, .int .i64 ymo, .int .i64 ye, .int .i64 yb, .int .i64 yt, .bool dg, .int .u64 da]) ∧ Kp w w')) (zpe zty zmo ze zb zt : Int) (hz : Rt zpe zty zmo ze zb zt fa) (Rz : Hid (∀ w : World, Calls Try.prog 11 #[.agg #[.bool ftg, .int .i64 fpe, .int .i64 fty, .int .i64 fmo, .int .i64 fe, .int .i64 fb, .int .i64 ft, .bool fg, .int .u64 fa]] w fun e' w' => e' = .returned (.agg #[.bool ftg, .int .i64 zpe, .int .i64 zty, .int .i64 zmo, .int .i64 ze, .int .i64 zb, .int .i64 zt, .bool fg, .int .u64 fa]) ∧ Kp w w')) (w : World) :
    Calls Try.prog 7 #[.agg #[.bool ctg, .int .i64 cpe, .int .i64 cty, .int .i64 cmo, .int .i64 ce, .int .i64 cb, .int .i64 ct, .bool cg, .int .u64 ca], .agg #[.bool dtg, .int .i64 dpe, .int .i64 dty, .int .i64 dmo, .int .i64 de, .int .i64 db, .int .i64 dt, .bool dg, .int .u64 da], .agg #[.bool ftg, .int .i64 fpe, .int .i64 fty, .int .i64 fmo, .int .i64 fe, .int .i64 fb, .int .i64 ft, .bool fg, .int .u64 fa]] w fun e' w' => e' = .returned (.bool true) ∧ Kp w w' := by
  have h7 := per_one ype 7 (by omega)
  have h8 := per_one zpe 8 (by omega)
  simp only [show ((2 ^ 7 : Nat) : Int) = 128 from rfl, show ((2 ^ 8 : Nat) : Int) = 256 from rfl] at h7 h8
  obtain ⟨iv, eiv⟩ : ∃ iv, inB (ofB ye yb da) (ofT ye yb yt dg da) (ofO ye yb yt dg da) da 1 = iv := ⟨_, rfl⟩
  obtain ⟨iw, eiw⟩ : ∃ iw, inB (ofB ze zb fa) (ofT ze zb zt fg fa) (ofO ze zb zt fg fa) fa 1 = iw := ⟨_, rfl⟩
  have hi : canB dtg yty ye yb yt dg da = (openB dtg yty && iv) := by rw [← eiv]; rfl
  have hj : canB ftg zty ze zb zt fg fa = (openB ftg zty && iw) := by rw [← eiw]; rfl
  have hs : sealB ctg xty dtg ype yty ye yb yt dg da = (ctg && (xty == 262143) && (dtg && (yty == 262143) && iv) && (bits .and .i64 ype 128 != 0) && decide (da ≤ 262135)) := by
    unfold sealB
    rw [hi, h7]
    have : (!decide (262135 < da)) = decide (da ≤ 262135) := by rw [Bool.eq_iff_iff]; simp
    rw [this]; rfl
  have hu : ∀ (k : decide (da ≤ 262135) = true), unsB true da ftg zpe zty ze zb zt fg fa = ((ftg && (zty == 262143) && iw) && (bits .and .i64 zpe 256 != 0) && (fa == da)) := fun k => by
    unfold unsB
    rw [hj, h8]
    have : decide (262135 < da) = false := by simp at k; simp; omega
    rw [this]; rfl
  rcases bft (ctg) with e0 | e0
  · exact seals_no_0 _ _ _ _ _ _ _ _ _ _ _ _ _ _ _ _ _ _ _ _ _ _ _ _ _ _ _ _ _ _ _ _ _ hx Rx _ _ _ _ _ _ hy Ry _ _ _ _ _ _ hz Rz iv (Lib.hid eiv) (Lib.hid (by rw [hs]; simp [e0])) e0 w
  rcases bft (xty == 262143) with e1 | e1
  · exact seals_no_1 _ _ _ _ _ _ _ _ _ _ _ _ _ _ _ _ _ _ _ _ _ _ _ _ _ _ _ _ _ _ _ _ _ hx Rx _ _ _ _ _ _ hy Ry _ _ _ _ _ _ hz Rz iv (Lib.hid eiv) (Lib.hid (by rw [hs]; simp [e0, e1])) e0 e1 w
  rcases bft (dtg) with e2 | e2
  · exact seals_no_2 _ _ _ _ _ _ _ _ _ _ _ _ _ _ _ _ _ _ _ _ _ _ _ _ _ _ _ _ _ _ _ _ _ hx Rx _ _ _ _ _ _ hy Ry _ _ _ _ _ _ hz Rz iv (Lib.hid eiv) (Lib.hid (by rw [hs]; simp [e0, e1, e2])) e0 (by simpa using e1) e2 w
  rcases bft (yty == 262143) with e3 | e3
  · exact seals_no_3 _ _ _ _ _ _ _ _ _ _ _ _ _ _ _ _ _ _ _ _ _ _ _ _ _ _ _ _ _ _ _ _ _ hx Rx _ _ _ _ _ _ hy Ry _ _ _ _ _ _ hz Rz iv (Lib.hid eiv) (Lib.hid (by rw [hs]; simp [e0, e1, e2, e3])) e0 (by simpa using e1) e2 e3 w
  rcases bft (bits .and .i64 ype 128 != 0) with e4 | e4
  · exact seals_no_4 _ _ _ _ _ _ _ _ _ _ _ _ _ _ _ _ _ _ _ _ _ _ _ _ _ _ _ _ _ _ _ _ _ hx Rx _ _ _ _ _ _ hy Ry _ _ _ _ _ _ hz Rz iv (Lib.hid eiv) (Lib.hid (by rw [hs]; simp [e0, e1, e2, e3, e4])) e0 (by simpa using e1) e2 (by simpa using e3) e4 w
  rcases bft (iv) with e5 | e5
  · exact seals_no_5 _ _ _ _ _ _ _ _ _ _ _ _ _ _ _ _ _ _ _ _ _ _ _ _ _ _ _ _ _ _ _ _ _ hx Rx _ _ _ _ _ _ hy Ry _ _ _ _ _ _ hz Rz iv (Lib.hid eiv) (Lib.hid (by rw [hs]; simp [e0, e1, e2, e3, e4, e5])) e0 (by simpa using e1) e2 (by simpa using e3) e4 e5 w
  rcases bft (decide (da ≤ 262135)) with e6 | e6
  · exact seals_no_6 _ _ _ _ _ _ _ _ _ _ _ _ _ _ _ _ _ _ _ _ _ _ _ _ _ _ _ _ _ _ _ _ _ hx Rx _ _ _ _ _ _ hy Ry _ _ _ _ _ _ hz Rz iv (Lib.hid eiv) (Lib.hid (by rw [hs]; simp [e0, e1, e2, e3, e4, e5, e6])) e0 (by simpa using e1) e2 (by simpa using e3) e4 e5 e6 w
  have hS : sealB ctg xty dtg ype yty ye yb yt dg da = true := by rw [hs]; simp [e0, e1, e2, e3, e4, e5, e6]
  have hi' : inB (ofB ye yb da) (ofT ye yb yt dg da) (ofO ye yb yt dg da) da 1 = true := by rw [eiv]; exact e5
  rcases bft (ftg) with f0 | f0
  · exact seals_yes_0 _ _ _ _ _ _ _ _ _ _ _ _ _ _ _ _ _ _ _ _ _ _ _ _ _ _ _ _ _ _ _ _ _ hx Rx _ _ _ _ _ _ hy Ry _ _ _ _ _ _ hz Rz (Lib.hid hi') (Lib.hid hS) e0 (by simpa using e1) e2 (by simpa using e3) e4 e6 iw (Lib.hid eiw) f0 (Lib.hid (by rw [hu e6]; simp [f0])) w
  rcases bft (zty == 262143) with f1 | f1
  · exact seals_yes_1 _ _ _ _ _ _ _ _ _ _ _ _ _ _ _ _ _ _ _ _ _ _ _ _ _ _ _ _ _ _ _ _ _ hx Rx _ _ _ _ _ _ hy Ry _ _ _ _ _ _ hz Rz (Lib.hid hi') (Lib.hid hS) e0 (by simpa using e1) e2 (by simpa using e3) e4 e6 iw (Lib.hid eiw) f0 f1 (Lib.hid (by rw [hu e6]; simp [f0, f1])) w
  rcases bft (bits .and .i64 zpe 256 != 0) with f2 | f2
  · exact seals_yes_2 _ _ _ _ _ _ _ _ _ _ _ _ _ _ _ _ _ _ _ _ _ _ _ _ _ _ _ _ _ _ _ _ _ hx Rx _ _ _ _ _ _ hy Ry _ _ _ _ _ _ hz Rz (Lib.hid hi') (Lib.hid hS) e0 (by simpa using e1) e2 (by simpa using e3) e4 e6 iw (Lib.hid eiw) f0 (by simpa using f1) f2 (Lib.hid (by rw [hu e6]; simp [f0, f1, f2])) w
  rcases bft (fa == da) with f3 | f3
  · exact seals_yes_3 _ _ _ _ _ _ _ _ _ _ _ _ _ _ _ _ _ _ _ _ _ _ _ _ _ _ _ _ _ _ _ _ _ hx Rx _ _ _ _ _ _ hy Ry _ _ _ _ _ _ hz Rz (Lib.hid hi') (Lib.hid hS) e0 (by simpa using e1) e2 (by simpa using e3) e4 e6 iw (Lib.hid eiw) f0 (by simpa using f1) f2 f3 (Lib.hid (by rw [hu e6]; simp [f0, f1, f2, f3])) w
  rcases bft (iw) with f4 | f4
  · exact seals_yes_4 _ _ _ _ _ _ _ _ _ _ _ _ _ _ _ _ _ _ _ _ _ _ _ _ _ _ _ _ _ _ _ _ _ hx Rx _ _ _ _ _ _ hy Ry _ _ _ _ _ _ hz Rz (Lib.hid hi') (Lib.hid hS) e0 (by simpa using e1) e2 (by simpa using e3) e4 e6 iw (Lib.hid eiw) f0 (by simpa using f1) f2 f3 f4 (Lib.hid (by rw [hu e6]; simp [f0, f1, f2, f3, f4])) w
  have hor : bits .or .i64 (unpV true zpe xpe) (bits .and .i64 xpe 1) = xpe := by
    unfold unpV
    cases perB zpe 1
    · exact or_back xpe hx.p0 hx.p1
    · exact or_keep xpe hx.p0 hx.p1
  exact seals_yes_5 _ _ _ _ _ _ _ _ _ _ _ _ _ _ _ _ _ _ _ _ _ _ _ _ _ _ _ _ _ _ _ _ _ hx Rx _ _ _ _ _ _ hy Ry _ _ _ _ _ _ hz Rz (Lib.hid hi') (Lib.hid hS) e0 (by simpa using e1) e2 (by simpa using e3) e4 e6 iw (Lib.hid eiw) f0 (by simpa using f1) f2 f3 f4 (Lib.hid (by rw [hu e6]; simp [f0, f1, f2, f3, f4])) _ (Lib.hid rfl) hor w
set_option maxHeartbeats 8000000 in
set_option maxRecDepth 100000 in
theorem seals_w (ctg : Bool) (cpe cty cmo ce cb ct : Int) (cg : Bool) (ca : Int) (dtg : Bool) (dpe dty dmo de db dt : Int) (dg : Bool) (da : Int) (ftg : Bool) (fpe fty fmo fe fb ft : Int) (fg : Bool) (fa : Int)  (cp0 : -9223372036854775808 ≤ cpe) (cp1 : cpe < 9223372036854775808) (cy0 : -9223372036854775808 ≤ cty) (cy1 : cty < 9223372036854775808) (co0 : -9223372036854775808 ≤ cmo) (co1 : cmo < 9223372036854775808) (ce0 : -9223372036854775808 ≤ ce) (ce1 : ce < 9223372036854775808) (cb0 : -9223372036854775808 ≤ cb) (cb1 : cb < 9223372036854775808) (ct0 : -9223372036854775808 ≤ ct) (ct1 : ct < 9223372036854775808) (ca0 : 0 ≤ ca) (ca1 : ca < 18446744073709551616) (dp0 : -9223372036854775808 ≤ dpe) (dp1 : dpe < 9223372036854775808) (dy0 : -9223372036854775808 ≤ dty) (dy1 : dty < 9223372036854775808) (do0 : -9223372036854775808 ≤ dmo) (do1 : dmo < 9223372036854775808) (de0 : -9223372036854775808 ≤ de) (de1 : de < 9223372036854775808) (db0 : -9223372036854775808 ≤ db) (db1 : db < 9223372036854775808) (dt0 : -9223372036854775808 ≤ dt) (dt1 : dt < 9223372036854775808) (da0 : 0 ≤ da) (da1 : da < 18446744073709551616) (fp0 : -9223372036854775808 ≤ fpe) (fp1 : fpe < 9223372036854775808) (fy0 : -9223372036854775808 ≤ fty) (fy1 : fty < 9223372036854775808) (fo0 : -9223372036854775808 ≤ fmo) (fo1 : fmo < 9223372036854775808) (fe0 : -9223372036854775808 ≤ fe) (fe1 : fe < 9223372036854775808) (fb0 : -9223372036854775808 ≤ fb) (fb1 : fb < 9223372036854775808) (ft0 : -9223372036854775808 ≤ ft) (ft1 : ft < 9223372036854775808) (fa0 : 0 ≤ fa) (fa1 : fa < 18446744073709551616)  (w : World) :
    Calls Try.prog 7 #[.agg #[.bool ctg, .int .i64 cpe, .int .i64 cty, .int .i64 cmo, .int .i64 ce, .int .i64 cb, .int .i64 ct, .bool cg, .int .u64 ca], .agg #[.bool dtg, .int .i64 dpe, .int .i64 dty, .int .i64 dmo, .int .i64 de, .int .i64 db, .int .i64 dt, .bool dg, .int .u64 da], .agg #[.bool ftg, .int .i64 fpe, .int .i64 fty, .int .i64 fmo, .int .i64 fe, .int .i64 fb, .int .i64 ft, .bool fg, .int .u64 fa]] w fun e' w' => e' = .returned (.bool true) ∧ Kp w w' := by
  obtain ⟨xpe, xty, xmo, xe, xb, xt, hx, rx⟩ := right_ex ctg cpe cty cmo ce cb ct cg ca cp0 cp1 cy0 cy1 co0 co1 ce0 ce1 cb0 cb1 ct0 ct1 ca0 ca1
  obtain ⟨ype, yty, ymo, ye, yb, yt, hy, ry⟩ := right_ex dtg dpe dty dmo de db dt dg da dp0 dp1 dy0 dy1 do0 do1 de0 de1 db0 db1 dt0 dt1 da0 da1
  obtain ⟨zpe, zty, zmo, ze, zb, zt, hz, rz⟩ := right_ex ftg fpe fty fmo fe fb ft fg fa fp0 fp1 fy0 fy1 fo0 fo1 fe0 fe1 fb0 fb1 ft0 ft1 fa0 fa1
  exact seals_core ctg cpe cty cmo ce cb ct cg ca dtg dpe dty dmo de db dt dg da ftg fpe fty fmo fe fb ft fg fa xpe xty xmo xe xb xt hx (Lib.hid rx) ype yty ymo ye yb yt hy (Lib.hid ry) zpe zty zmo ze zb zt hz (Lib.hid rz)  w
set_option maxHeartbeats 8000000 in
set_option maxRecDepth 100000 in
theorem walk (a0 : Bool) (a1 : Int) (a2 : Int) (a3 : Int) (a4 : Int) (a5 : Int) (a6 : Int) (a7 : Bool) (a8 : Int) (a9 : Bool) (a10 : Int) (a11 : Int) (a12 : Int) (a13 : Int) (a14 : Int) (a15 : Int) (a16 : Bool) (a17 : Int) (a18 : Bool) (a19 : Int) (a20 : Int) (a21 : Int) (a22 : Int) (a23 : Int) (a24 : Int) (a25 : Bool) (a26 : Int) (w1 : (Lit.int .i64 a1).wf = true) (w2 : (Lit.int .i64 a2).wf = true) (w3 : (Lit.int .i64 a3).wf = true) (w4 : (Lit.int .i64 a4).wf = true) (w5 : (Lit.int .i64 a5).wf = true) (w6 : (Lit.int .i64 a6).wf = true) (w8 : (Lit.int .u64 a8).wf = true) (w10 : (Lit.int .i64 a10).wf = true) (w11 : (Lit.int .i64 a11).wf = true) (w12 : (Lit.int .i64 a12).wf = true) (w13 : (Lit.int .i64 a13).wf = true) (w14 : (Lit.int .i64 a14).wf = true) (w15 : (Lit.int .i64 a15).wf = true) (w17 : (Lit.int .u64 a17).wf = true) (w19 : (Lit.int .i64 a19).wf = true) (w20 : (Lit.int .i64 a20).wf = true) (w21 : (Lit.int .i64 a21).wf = true) (w22 : (Lit.int .i64 a22).wf = true) (w23 : (Lit.int .i64 a23).wf = true) (w24 : (Lit.int .i64 a24).wf = true) (w26 : (Lit.int .u64 a26).wf = true) (w : World) :
    Calls Try.prog 7 #[.agg #[.bool a0, .int .i64 a1, .int .i64 a2, .int .i64 a3, .int .i64 a4, .int .i64 a5, .int .i64 a6, .bool a7, .int .u64 a8], .agg #[.bool a9, .int .i64 a10, .int .i64 a11, .int .i64 a12, .int .i64 a13, .int .i64 a14, .int .i64 a15, .bool a16, .int .u64 a17], .agg #[.bool a18, .int .i64 a19, .int .i64 a20, .int .i64 a21, .int .i64 a22, .int .i64 a23, .int .i64 a24, .bool a25, .int .u64 a26]] w fun e w' => e = .returned (.bool true) ∧ Grown w w' :=
  (seals_w a0 a1 a2 a3 a4 a5 a6 a7 a8 a9 a10 a11 a12 a13 a14 a15 a16 a17 a18 a19 a20 a21 a22 a23 a24 a25 a26 (i64_bd w1).1 (i64_bd w1).2 (i64_bd w2).1 (i64_bd w2).2 (i64_bd w3).1 (i64_bd w3).2 (i64_bd w4).1 (i64_bd w4).2 (i64_bd w5).1 (i64_bd w5).2 (i64_bd w6).1 (i64_bd w6).2 (u64_bd w8).1 (u64_bd w8).2 (i64_bd w10).1 (i64_bd w10).2 (i64_bd w11).1 (i64_bd w11).2 (i64_bd w12).1 (i64_bd w12).2 (i64_bd w13).1 (i64_bd w13).2 (i64_bd w14).1 (i64_bd w14).2 (i64_bd w15).1 (i64_bd w15).2 (u64_bd w17).1 (u64_bd w17).2 (i64_bd w19).1 (i64_bd w19).2 (i64_bd w20).1 (i64_bd w20).2 (i64_bd w21).1 (i64_bd w21).2 (i64_bd w22).1 (i64_bd w22).2 (i64_bd w23).1 (i64_bd w23).2 (i64_bd w24).1 (i64_bd w24).2 (u64_bd w26).1 (u64_bd w26).2  w).mono fun _ _ h => ⟨h.1, h.2.grown⟩
end Go.Proofs.Ytddgmbfngbobgaa.capopsSeals
