/-
  BusCaps of layer 15: its walk. No condition but what the calls lean on.
-/
import Derived.Test.YtikibfpfieoabaaJCap
namespace Go.Proofs.Ytikibfpfieoabaa
open Go.ChangeShapes Go.WideShapes Go.ChangeAt Go.RowKit
set_option linter.unusedVariables false
set_option linter.unusedSimpArgs false
set_option maxRecDepth 4000
theorem cap_neq_same (tg : Bool) (pe ty mo e b t : Int) (g : Bool) (a : Int) (w : World) :
    (binOp .neq 24 (.agg #[.bool tg, .int .i64 pe, .int .i64 ty, .int .i64 mo, .int .i64 e, .int .i64 b, .int .i64 t, .bool g, .int .u64 a]) (.agg #[.bool tg, .int .i64 pe, .int .i64 ty, .int .i64 mo, .int .i64 e, .int .i64 b, .int .i64 t, .bool g, .int .u64 a])).run Try.prog w = .ok (.bool false) w := by
  simp [go_sem]
theorem cap_eql_same (tg : Bool) (pe ty mo e b t : Int) (g : Bool) (a : Int) (w : World) :
    (binOp .eql 24 (.agg #[.bool tg, .int .i64 pe, .int .i64 ty, .int .i64 mo, .int .i64 e, .int .i64 b, .int .i64 t, .bool g, .int .u64 a]) (.agg #[.bool tg, .int .i64 pe, .int .i64 ty, .int .i64 mo, .int .i64 e, .int .i64 b, .int .i64 t, .bool g, .int .u64 a])).run Try.prog w = .ok (.bool true) w := by
  simp [go_sem]
theorem Blk.kp {w w' : World} {g : Nat} {t : TypeId} {cs : List Value} (h : Blk w g t cs) (k : Kp w w') : Blk w' g t cs := h.fr (Fr.of_kp k (fun _ => False)) id
theorem Blk.bel {w w' : World} {g : Nat} {t : TypeId} {cs : List Value} (h : Blk w g t cs) (k : Below w.heap.size w w') : Blk w' g t cs := h.fr ((Fr.refl w (fun _ => False)).below k (fun _ hi _ => hi)) id
theorem Blk.set9 {w : World} {g : Nat} {t : TypeId} {o0 o1 o2 o3 o4 o5 o6 o7 o8 v0 v1 v2 v3 v4 v5 v6 v7 v8 : Value} (h : Blk w g t [o0, o1, o2, o3, o4, o5, o6, o7, o8]) :
    Blk (((((((((w.setCell ⟨g, 0, none⟩ (v0)).setCell ⟨g, 1, none⟩ (v1)).setCell ⟨g, 2, none⟩ (v2)).setCell ⟨g, 3, none⟩ (v3)).setCell ⟨g, 4, none⟩ (v4)).setCell ⟨g, 5, none⟩ (v5)).setCell ⟨g, 6, none⟩ (v6)).setCell ⟨g, 7, none⟩ (v7)).setCell ⟨g, 8, none⟩ (v8)) g t [v0, v1, v2, v3, v4, v5, v6, v7, v8] := ((((((((h.set_ 0 v0).set_ 1 v1).set_ 2 v2).set_ 3 v3).set_ 4 v4).set_ 5 v5).set_ 6 v6).set_ 7 v7).set_ 8 v8
theorem Blk.far9 {w : World} {g b : Nat} {t : TypeId} {cs : List Value} (h : Blk w g t cs) (hp : g ≠ b) (v0 v1 v2 v3 v4 v5 v6 v7 v8 : Value) :
    Blk (((((((((w.setCell ⟨b, 0, none⟩ (v0)).setCell ⟨b, 1, none⟩ (v1)).setCell ⟨b, 2, none⟩ (v2)).setCell ⟨b, 3, none⟩ (v3)).setCell ⟨b, 4, none⟩ (v4)).setCell ⟨b, 5, none⟩ (v5)).setCell ⟨b, 6, none⟩ (v6)).setCell ⟨b, 7, none⟩ (v7)).setCell ⟨b, 8, none⟩ (v8)) g t cs := ((((((((h.far hp v0).far hp v1).far hp v2).far hp v3).far hp v4).far hp v5).far hp v6).far hp v7).far hp v8
theorem size9 (w : World) (b : Nat) (v0 v1 v2 v3 v4 v5 v6 v7 v8 : Value) : (((((((((w.setCell ⟨b, 0, none⟩ (v0)).setCell ⟨b, 1, none⟩ (v1)).setCell ⟨b, 2, none⟩ (v2)).setCell ⟨b, 3, none⟩ (v3)).setCell ⟨b, 4, none⟩ (v4)).setCell ⟨b, 5, none⟩ (v5)).setCell ⟨b, 6, none⟩ (v6)).setCell ⟨b, 7, none⟩ (v7)).setCell ⟨b, 8, none⟩ (v8)).heap.size = w.heap.size := by simp [World.setCell]
theorem Kp.set9 {a w : World} (h : Kp a w) {b : Nat} (hb : a.heap.size ≤ b) (v0 v1 v2 v3 v4 v5 v6 v7 v8 : Value) : Kp a (((((((((w.setCell ⟨b, 0, none⟩ (v0)).setCell ⟨b, 1, none⟩ (v1)).setCell ⟨b, 2, none⟩ (v2)).setCell ⟨b, 3, none⟩ (v3)).setCell ⟨b, 4, none⟩ (v4)).setCell ⟨b, 5, none⟩ (v5)).setCell ⟨b, 6, none⟩ (v6)).setCell ⟨b, 7, none⟩ (v7)).setCell ⟨b, 8, none⟩ (v8)) :=
  ((((((((h.setCell hb v0).setCell hb v1).setCell hb v2).setCell hb v3).setCell hb v4).setCell hb v5).setCell hb v6).setCell hb v7).setCell hb v8
theorem Fr.set9 {w : World} (S : Nat → Prop) {b : Nat} (hb : S b) (v0 v1 v2 v3 v4 v5 v6 v7 v8 : Value) : Fr w (((((((((w.setCell ⟨b, 0, none⟩ (v0)).setCell ⟨b, 1, none⟩ (v1)).setCell ⟨b, 2, none⟩ (v2)).setCell ⟨b, 3, none⟩ (v3)).setCell ⟨b, 4, none⟩ (v4)).setCell ⟨b, 5, none⟩ (v5)).setCell ⟨b, 6, none⟩ (v6)).setCell ⟨b, 7, none⟩ (v7)).setCell ⟨b, 8, none⟩ (v8)) S :=
  (((((((((Fr.refl w S).setCell (.inr hb) v0).setCell (.inr hb) v1).setCell (.inr hb) v2).setCell (.inr hb) v3).setCell (.inr hb) v4).setCell (.inr hb) v5).setCell (.inr hb) v6).setCell (.inr hb) v7).setCell (.inr hb) v8
theorem OneJ.set9 {W w : World} {hi g : Nat} {S : BS} (h : OneJ W w hi g S) {b : Nat} (hb : hi ≤ b) (hW : W.heap.size ≤ b) (v0 v1 v2 v3 v4 v5 v6 v7 v8 : Value) : OneJ W (((((((((w.setCell ⟨b, 0, none⟩ (v0)).setCell ⟨b, 1, none⟩ (v1)).setCell ⟨b, 2, none⟩ (v2)).setCell ⟨b, 3, none⟩ (v3)).setCell ⟨b, 4, none⟩ (v4)).setCell ⟨b, 5, none⟩ (v5)).setCell ⟨b, 6, none⟩ (v6)).setCell ⟨b, 7, none⟩ (v7)).setCell ⟨b, 8, none⟩ (v8)) hi g S :=
  ⟨h.o.fr (Fr.set9 (fun i => i = b) rfl v0 v1 v2 v3 v4 v5 v6 v7 v8) (fun i _ h2 e => by omega), h.b.trans ((Fr.set9 (w := w) (fun i => i = b) rfl v0 v1 v2 v3 v4 v5 v6 v7 v8).bl h.b.size (fun i e => by omega))⟩
set_option maxRecDepth 100000 in
set_option maxHeartbeats 32000000 in
theorem caps_w (ctg : Bool) (cpe cty cmo ce cb ct : Int) (cg : Bool) (ca : Int) (cp0 : -9223372036854775808 ≤ cpe) (cp1 : cpe < 9223372036854775808) (cy0 : -9223372036854775808 ≤ cty) (cy1 : cty < 9223372036854775808) (co0 : -9223372036854775808 ≤ cmo) (co1 : cmo < 9223372036854775808) (ce0 : -9223372036854775808 ≤ ce) (ce1 : ce < 9223372036854775808) (cb0 : -9223372036854775808 ≤ cb) (cb1 : cb < 9223372036854775808) (ct0 : -9223372036854775808 ≤ ct) (ct1 : ct < 9223372036854775808) (ca0 : 0 ≤ ca) (ca1 : ca < 18446744073709551616) (dtg : Bool) (dpe dty dmo de db dt : Int) (dg : Bool) (da : Int) (dp0 : -9223372036854775808 ≤ dpe) (dp1 : dpe < 9223372036854775808) (dy0 : -9223372036854775808 ≤ dty) (dy1 : dty < 9223372036854775808) (do0 : -9223372036854775808 ≤ dmo) (do1 : dmo < 9223372036854775808) (de0 : -9223372036854775808 ≤ de) (de1 : de < 9223372036854775808) (db0 : -9223372036854775808 ≤ db) (db1 : db < 9223372036854775808) (dt0 : -9223372036854775808 ≤ dt) (dt1 : dt < 9223372036854775808) (da0 : 0 ≤ da) (da1 : da < 18446744073709551616) (at' k v : Int) (at0 : 0 ≤ at') (at1 : at' < 18446744073709551616) (k0 : 0 ≤ k) (k1 : k < 18446744073709551616) (v0 : 0 ≤ v) (v1 : v < 18446744073709551616) (W : World) (tb : JTb W) :
    Calls Try.prog 3 #[.agg #[.bool ctg, .int .i64 cpe, .int .i64 cty, .int .i64 cmo, .int .i64 ce, .int .i64 cb, .int .i64 ct, .bool cg, .int .u64 ca], .agg #[.bool dtg, .int .i64 dpe, .int .i64 dty, .int .i64 dmo, .int .i64 de, .int .i64 db, .int .i64 dt, .bool dg, .int .u64 da], .int .u64 at', .int .u64 k, .int .u64 v] W fun e w' => e = .returned (.bool true) ∧ Below W.heap.size W w' := by
  have NK0 := Lib.hid b4_ok
  obtain ⟨cP, cY, cO, cE, cB, cT, hRc, hCc⟩ := right15 ctg cpe cty cmo ce cb ct cg ca cp0 cp1 cy0 cy1 co0 co1 ce0 ce1 cb0 cb1 ct0 ct1
  obtain ⟨dP, dY, dO, dE, dB, dT, hRd, hCd⟩ := right15 dtg dpe dty dmo de db dt dg da dp0 dp1 dy0 dy1 do0 do1 de0 de1 db0 db1 dt0 dt1
  have HRC := Lib.hid hRc
  have HRD := Lib.hid hRd
  have HCC := Lib.hid hCc
  have HCD := Lib.hid hCd
  have TB0 := Lib.hid tb
  clear hRc hRd hCc hCd tb
  clear cp0 cp1 cy0 cy1 co0 co1 ce0 ce1 cb0 cb1 ct0 ct1 dp0 dp1 dy0 dy1 do0 do1 de0 de1 db0 db1 dt0 dt1
  go_enter Try.func3, Try.ntmps3
  go_upto_region 1 with fail
  have hA := (Blk.new W 24 [.bool ctg, .int .i64 cpe, .int .i64 cty, .int .i64 cmo, .int .i64 ce, .int .i64 cb, .int .i64 ct, .bool cg, .int .u64 ca]).alloc (.cells ([.bool dtg, .int .i64 dpe, .int .i64 dty, .int .i64 dmo, .int .i64 de, .int .i64 db, .int .i64 dt, .bool dg, .int .u64 da] : List Value).toArray 24)
  have hD := Blk.new (W.alloc (.cells ([.bool ctg, .int .i64 cpe, .int .i64 cty, .int .i64 cmo, .int .i64 ce, .int .i64 cb, .int .i64 ct, .bool cg, .int .u64 ca] : List Value).toArray 24)) 24 [.bool dtg, .int .i64 dpe, .int .i64 dty, .int .i64 dmo, .int .i64 de, .int .i64 db, .int .i64 dt, .bool dg, .int .u64 da]
  have hK : Kp W ((W.alloc (.cells ([.bool ctg, .int .i64 cpe, .int .i64 cty, .int .i64 cmo, .int .i64 ce, .int .i64 cb, .int .i64 ct, .bool cg, .int .u64 ca] : List Value).toArray 24)).alloc (.cells ([.bool dtg, .int .i64 dpe, .int .i64 dty, .int .i64 dmo, .int .i64 de, .int .i64 db, .int .i64 dt, .bool dg, .int .u64 da] : List Value).toArray 24)) := ((Kp.refl W).allocs _ _).allocs _ _
  have hs1 : ((W.alloc (.cells ([.bool ctg, .int .i64 cpe, .int .i64 cty, .int .i64 cmo, .int .i64 ce, .int .i64 cb, .int .i64 ct, .bool cg, .int .u64 ca] : List Value).toArray 24)).alloc (.cells ([.bool dtg, .int .i64 dpe, .int .i64 dty, .int .i64 dmo, .int .i64 de, .int .i64 db, .int .i64 dt, .bool dg, .int .u64 da] : List Value).toArray 24)).heap.size = W.heap.size + 1 + 1 := by simp
  simp only [World.size_alloc] at hD
  rw [show ([.bool ctg, .int .i64 cpe, .int .i64 cty, .int .i64 cmo, .int .i64 ce, .int .i64 cb, .int .i64 ct, .bool cg, .int .u64 ca] : List Value).toArray = #[.bool ctg, .int .i64 cpe, .int .i64 cty, .int .i64 cmo, .int .i64 ce, .int .i64 cb, .int .i64 ct, .bool cg, .int .u64 ca] from rfl, show ([.bool dtg, .int .i64 dpe, .int .i64 dty, .int .i64 dmo, .int .i64 de, .int .i64 db, .int .i64 dt, .bool dg, .int .u64 da] : List Value).toArray = #[.bool dtg, .int .i64 dpe, .int .i64 dty, .int .i64 dmo, .int .i64 de, .int .i64 db, .int .i64 dt, .bool dg, .int .u64 da] from rfl] at hA hD hK hs1
  generalize (W.alloc (.cells #[.bool ctg, .int .i64 cpe, .int .i64 cty, .int .i64 cmo, .int .i64 ce, .int .i64 cb, .int .i64 ct, .bool cg, .int .u64 ca] 24)).alloc (.cells #[.bool dtg, .int .i64 dpe, .int .i64 dty, .int .i64 dmo, .int .i64 de, .int .i64 db, .int .i64 dt, .bool dg, .int .u64 da] 24) = w1 at hA hD hK hs1 ⊢
  obtain ⟨_, _, _, _, _, _, _, _, _⟩ := hA.at_.out9
  have HD1 := Lib.hid hD
  have HA1 := Lib.hid hA
  have HK1 := Lib.hid hK
  clear hA hD hK
  go_upto_region 2 with (first | (go_at_call 6; (with_reducible refine (HCC.out _).mono ?_); rintro e' w2 ⟨rfl, k2⟩; have HA2 := Lib.hid (HA1.out.kp k2); have HD2 := Lib.hid (HD1.out.kp k2); have HK2 := Lib.hid (HK1.out.trans k2); have hs2 := k2.1.size; clear k2; obtain ⟨_, _, _, _, _, _, _, _, _⟩ := HA2.out.at_.out9; have := HA2.out.frozen 0; have := HA2.out.frozen 1; have := HA2.out.frozen 2; have := HA2.out.frozen 3; have := HA2.out.frozen 4; have := HA2.out.frozen 5; have := HA2.out.frozen 6; have := HA2.out.frozen 7; have := HA2.out.frozen 8))
  have hA := HA2.out.set9 (v0 := .bool ctg) (v1 := .int .i64 cP) (v2 := .int .i64 cY) (v3 := .int .i64 cO) (v4 := .int .i64 cE) (v5 := .int .i64 cB) (v6 := .int .i64 cT) (v7 := .bool cg) (v8 := .int .u64 ca)
  have hD := HD2.out.far9 (b := W.heap.size) (by omega) (.bool ctg) (.int .i64 cP) (.int .i64 cY) (.int .i64 cO) (.int .i64 cE) (.int .i64 cB) (.int .i64 cT) (.bool cg) (.int .u64 ca)
  have hK := HK2.out.set9 (b := W.heap.size) (Nat.le_refl _) (.bool ctg) (.int .i64 cP) (.int .i64 cY) (.int .i64 cO) (.int .i64 cE) (.int .i64 cB) (.int .i64 cT) (.bool cg) (.int .u64 ca)
  have hs3 := size9 w2 W.heap.size (.bool ctg) (.int .i64 cP) (.int .i64 cY) (.int .i64 cO) (.int .i64 cE) (.int .i64 cB) (.int .i64 cT) (.bool cg) (.int .u64 ca)
  generalize (((((((((w2.setCell ⟨W.heap.size, 0, none⟩ (.bool ctg)).setCell ⟨W.heap.size, 1, none⟩ (.int .i64 cP)).setCell ⟨W.heap.size, 2, none⟩ (.int .i64 cY)).setCell ⟨W.heap.size, 3, none⟩ (.int .i64 cO)).setCell ⟨W.heap.size, 4, none⟩ (.int .i64 cE)).setCell ⟨W.heap.size, 5, none⟩ (.int .i64 cB)).setCell ⟨W.heap.size, 6, none⟩ (.int .i64 cT)).setCell ⟨W.heap.size, 7, none⟩ (.bool cg)).setCell ⟨W.heap.size, 8, none⟩ (.int .u64 ca)) = w3 at hA hD hK hs3 ⊢
  obtain ⟨_, _, _, _, _, _, _, _, _⟩ := hD.at_.out9
  have HD3 := Lib.hid hD
  have HA3 := Lib.hid hA
  have HK3 := Lib.hid hK
  clear hA hD hK HA1 HD1 HK1 HA2 HD2 HK2
  go_upto_region 3 with (first | (go_at_call 6; (with_reducible refine (HCD.out _).mono ?_); rintro e' w4 ⟨rfl, k4⟩; have HA4 := Lib.hid (HA3.out.kp k4); have HD4 := Lib.hid (HD3.out.kp k4); have HK4 := Lib.hid (HK3.out.trans k4); have hs4 := k4.1.size; clear k4; obtain ⟨_, _, _, _, _, _, _, _, _⟩ := HD4.out.at_.out9; have := HD4.out.frozen 0; have := HD4.out.frozen 1; have := HD4.out.frozen 2; have := HD4.out.frozen 3; have := HD4.out.frozen 4; have := HD4.out.frozen 5; have := HD4.out.frozen 6; have := HD4.out.frozen 7; have := HD4.out.frozen 8))
  have hD := HD4.out.set9 (v0 := .bool dtg) (v1 := .int .i64 dP) (v2 := .int .i64 dY) (v3 := .int .i64 dO) (v4 := .int .i64 dE) (v5 := .int .i64 dB) (v6 := .int .i64 dT) (v7 := .bool dg) (v8 := .int .u64 da)
  have hA := HA4.out.far9 (b := W.heap.size + 1) (by omega) (.bool dtg) (.int .i64 dP) (.int .i64 dY) (.int .i64 dO) (.int .i64 dE) (.int .i64 dB) (.int .i64 dT) (.bool dg) (.int .u64 da)
  have hK := HK4.out.set9 (b := W.heap.size + 1) (by omega) (.bool dtg) (.int .i64 dP) (.int .i64 dY) (.int .i64 dO) (.int .i64 dE) (.int .i64 dB) (.int .i64 dT) (.bool dg) (.int .u64 da)
  have hs5 := size9 w4 (W.heap.size + 1) (.bool dtg) (.int .i64 dP) (.int .i64 dY) (.int .i64 dO) (.int .i64 dE) (.int .i64 dB) (.int .i64 dT) (.bool dg) (.int .u64 da)
  generalize (((((((((w4.setCell ⟨W.heap.size + 1, 0, none⟩ (.bool dtg)).setCell ⟨W.heap.size + 1, 1, none⟩ (.int .i64 dP)).setCell ⟨W.heap.size + 1, 2, none⟩ (.int .i64 dY)).setCell ⟨W.heap.size + 1, 3, none⟩ (.int .i64 dO)).setCell ⟨W.heap.size + 1, 4, none⟩ (.int .i64 dE)).setCell ⟨W.heap.size + 1, 5, none⟩ (.int .i64 dB)).setCell ⟨W.heap.size + 1, 6, none⟩ (.int .i64 dT)).setCell ⟨W.heap.size + 1, 7, none⟩ (.bool dg)).setCell ⟨W.heap.size + 1, 8, none⟩ (.int .u64 da)) = w5 at hA hD hK hs5 ⊢
  have D5 := Lib.hid hD
  have A5 := Lib.hid hA
  have HK5 := Lib.hid hK
  have HTB := Lib.hid (TB0.out.below hK.1)
  clear hA hD hK HA3 HD3 HK3 HA4 HD4 HK4
  have hn : W.heap.size + 2 ≤ w5.heap.size := by omega
  clear hs1 hs2 hs3 hs4 hs5
  go_upto_region 7 with (first | (go_at_call 7; (with_reducible refine (cjnew_4k _ HTB.out).mono ?_); rintro e' w6 ⟨g, rfl, m6, b6⟩; have hs6 := b6.size; have H6 := Lib.hid (OneJ.mk m6 b6); have A6 := Lib.hid (A5.out.bel b6); have D6 := Lib.hid (D5.out.bel b6); obtain ⟨_, _, _, _, _, _, _, _, _⟩ := A6.out.at_.out9; clear m6 b6))
  obtain ⟨hi, hhi⟩ : ∃ hi, hi = w6.heap.size := ⟨_, rfl⟩
  rw [← hhi] at H6
  obtain ⟨q, hq⟩ : ∃ q : Nat, at' % 255 = (q : Int) := ⟨(at' % 255).toNat, by omega⟩
  have hq1 : q < 255 := by omega
  obtain ⟨kk, hkk⟩ : ∃ q : Nat, k % 16 = (q : Int) := ⟨(k % 16).toNat, by omega⟩
  have hkk1 : kk < 16 := by omega
  obtain ⟨pa, hP⟩ : ∃ P : Int, P = 2147483648 + (q : Int) * 16 := ⟨_, rfl⟩
  rw [hq, ← hP]
  have cb1 := xk_bd (bitsV cP cY cO cE cB cT cg)
  have db1 := xk_bd (bitsV dP dY dO dE dB dT dg)
  obtain ⟨f1, S1, S2, S3, e1, e2, cf⟩ := cF q kk hq1 hkk1 v v0 v1 ctg ca (xk (bitsV cP cY cO cE cB cT cg)) ca0 ca1 cb1.1 cb1.2 dtg da (xk (bitsV dP dY dO dE dB dT dg)) da0 da1 db1.1 db1.2 pa (by omega)
  have hc2 := cf.c2
  have hd2 := cf.d2
  have hd3 := cf.d3
  rw [unV_right HRC.out] at hc2
  rw [unV_right HRD.out] at hd2 hd3
  have HC2 := Lib.hid hc2
  have HD2 := Lib.hid hd2
  have HD3 := Lib.hid hd3
  have CFF := Lib.hid cf
  have F1 := Lib.hid f1
  have E1 := Lib.hid e1
  have E2 := Lib.hid e2
  obtain ⟨A, M, hc3⟩ := cf.c3
  unfold unV at hc3
  obtain ⟨xP, hxP⟩ : ∃ x, fP (xk M) = x := ⟨_, rfl⟩
  obtain ⟨xY, hxY⟩ : ∃ x, fY (xk M) = x := ⟨_, rfl⟩
  obtain ⟨xO, hxO⟩ : ∃ x, fM (xk M) = x := ⟨_, rfl⟩
  obtain ⟨xE, hxE⟩ : ∃ x, fE (xk M) = x := ⟨_, rfl⟩
  obtain ⟨xB, hxB⟩ : ∃ x, fB (xk M) = x := ⟨_, rfl⟩
  obtain ⟨xT, hxT⟩ : ∃ x, fT (xk M) = x := ⟨_, rfl⟩
  obtain ⟨xg, hxg⟩ : ∃ x, fG (xk M) = x := ⟨_, rfl⟩
  rw [hxP, hxY, hxO, hxE, hxB, hxT, hxg] at hc3
  have HC3 := Lib.hid hc3
  clear hc3 hxP hxY hxO hxE hxB hxT hxg cf f1 e1 e2 hc2 hd2 hd3 cb1 db1
  have p0 : 2147483648 ≤ pa := by omega
  have p1 : pa ≤ 2147487728 := by omega
  clear hq hP HCC HCD
  go_upto_region 9 with (first | (go_at_call 8; (with_reducible refine (cjstorecap_at H6.out.o NK0.out (JTb.h1 HTB (Lib.hid H6.out.b)) pa true S1 ctg cP cY cO cE cB cT cg ca HRC.out ca0 ca1 F1.out E1.out (by omega) (by omega)).mono ?_); rintro e' w7 ⟨rfl, m7, f7⟩; have hs7 := f7.size; have H7 := Lib.hid (H6.out.code m7 f7); have A7 := Lib.hid (A6.out.fr f7 (fun x => by unfold Rg at x; omega)); have D7 := Lib.hid (D6.out.fr f7 (fun x => by unfold Rg at x; omega)); obtain ⟨_, _, _, _, _, _, _, _, _⟩ := D7.out.at_.out9; clear m7 f7) | (go_at_call 8; (with_reducible refine (cjstorecap_at H7.out.o CFF.out.k1 (JTb.h1 HTB (Lib.hid H7.out.b)) (pa + 16) true S2 dtg dP dY dO dE dB dT dg da HRD.out da0 da1 CFF.out.o2 E2.out (by omega) (by omega)).mono ?_); rintro e' w8 ⟨rfl, m8, f8⟩; have hs8 := f8.size; have H8 := Lib.hid (H7.out.code m8 f8); have A8 := Lib.hid (A7.out.fr f8 (fun x => by unfold Rg at x; omega)); have D8 := Lib.hid (D7.out.fr f8 (fun x => by unfold Rg at x; omega)); clear m8 f8))
  clear HRC HRD F1 E1 E2 H6 H7 A5 D5 A6 D6 A7 D7
  go_upto_region 10 with (first | (go_at_call 9; (with_reducible refine (cjloadcap_at H8.out.o CFF.out.k2 (JTb.h1 HTB (Lib.hid H8.out.b)) pa (.agg #[.bool ctg, .int .i64 cP, .int .i64 cY, .int .i64 cO, .int .i64 cE, .int .i64 cB, .int .i64 cT, .bool cg, .int .u64 ca]) true HC2.out CFF.out.l2 (by omega) (by omega)).mono ?_); rintro e' w9 ⟨rfl, m9, f9⟩; have hs9 := f9.size; have H9 := Lib.hid (H8.out.code m9 f9); have A9 := Lib.hid (A8.out.fr f9 (fun x => by unfold Rg at x; omega)); have D9 := Lib.hid (D8.out.fr f9 (fun x => by unfold Rg at x; omega)); clear m9 f9))
  have hx10 := Blk.new w9 24 [.bool ctg, .int .i64 cP, .int .i64 cY, .int .i64 cO, .int .i64 cE, .int .i64 cB, .int .i64 cT, .bool cg, .int .u64 ca]
  have H10 := Lib.hid (H9.out.alloc (.cells ([.bool ctg, .int .i64 cP, .int .i64 cY, .int .i64 cO, .int .i64 cE, .int .i64 cB, .int .i64 cT, .bool cg, .int .u64 ca] : List Value).toArray 24))
  have A10 := Lib.hid (A9.out.alloc (.cells ([.bool ctg, .int .i64 cP, .int .i64 cY, .int .i64 cO, .int .i64 cE, .int .i64 cB, .int .i64 cT, .bool cg, .int .u64 ca] : List Value).toArray 24))
  have D10 := Lib.hid (D9.out.alloc (.cells ([.bool ctg, .int .i64 cP, .int .i64 cY, .int .i64 cO, .int .i64 cE, .int .i64 cB, .int .i64 cT, .bool cg, .int .u64 ca] : List Value).toArray 24))
  have hs10 : (w9.alloc (.cells ([.bool ctg, .int .i64 cP, .int .i64 cY, .int .i64 cO, .int .i64 cE, .int .i64 cB, .int .i64 cT, .bool cg, .int .u64 ca] : List Value).toArray 24)).heap.size = w9.heap.size + 1 := by simp
  rw [show ([.bool ctg, .int .i64 cP, .int .i64 cY, .int .i64 cO, .int .i64 cE, .int .i64 cB, .int .i64 cT, .bool cg, .int .u64 ca] : List Value).toArray = #[.bool ctg, .int .i64 cP, .int .i64 cY, .int .i64 cO, .int .i64 cE, .int .i64 cB, .int .i64 cT, .bool cg, .int .u64 ca] from rfl] at hx10 H10 hs10 A10 D10
  generalize w9.alloc (.cells #[.bool ctg, .int .i64 cP, .int .i64 cY, .int .i64 cO, .int .i64 cE, .int .i64 cB, .int .i64 cT, .bool cg, .int .u64 ca] 24) = w10 at hx10 H10 hs10 A10 D10 ⊢
  have X10 := Lib.hid hx10
  clear hx10
  go_upto_region 11 with (first | (go_at_call 9; (with_reducible refine (cjloadcap_at H10.out.o CFF.out.k2 (JTb.h1 HTB (Lib.hid H10.out.b)) (pa + 16) (.agg #[.bool dtg, .int .i64 dP, .int .i64 dY, .int .i64 dO, .int .i64 dE, .int .i64 dB, .int .i64 dT, .bool dg, .int .u64 da]) true HD2.out CFF.out.m2 (by omega) (by omega)).mono ?_); rintro e' w11 ⟨rfl, m11, f11⟩; have hs11 := f11.size; have H11 := Lib.hid (H10.out.code m11 f11); have A11 := Lib.hid (A10.out.fr f11 (fun x => by unfold Rg at x; omega)); have D11 := Lib.hid (D10.out.fr f11 (fun x => by unfold Rg at x; omega)); have X11 := Lib.hid (X10.out.fr f11 (fun x => by unfold Rg at x; omega)); clear m11 f11))
  have hx12 := Blk.new w11 24 [.bool dtg, .int .i64 dP, .int .i64 dY, .int .i64 dO, .int .i64 dE, .int .i64 dB, .int .i64 dT, .bool dg, .int .u64 da]
  have H12 := Lib.hid (H11.out.alloc (.cells ([.bool dtg, .int .i64 dP, .int .i64 dY, .int .i64 dO, .int .i64 dE, .int .i64 dB, .int .i64 dT, .bool dg, .int .u64 da] : List Value).toArray 24))
  have A12 := Lib.hid (A11.out.alloc (.cells ([.bool dtg, .int .i64 dP, .int .i64 dY, .int .i64 dO, .int .i64 dE, .int .i64 dB, .int .i64 dT, .bool dg, .int .u64 da] : List Value).toArray 24))
  have D12 := Lib.hid (D11.out.alloc (.cells ([.bool dtg, .int .i64 dP, .int .i64 dY, .int .i64 dO, .int .i64 dE, .int .i64 dB, .int .i64 dT, .bool dg, .int .u64 da] : List Value).toArray 24))
  have X12 := Lib.hid (X11.out.alloc (.cells ([.bool dtg, .int .i64 dP, .int .i64 dY, .int .i64 dO, .int .i64 dE, .int .i64 dB, .int .i64 dT, .bool dg, .int .u64 da] : List Value).toArray 24))
  have hs12 : (w11.alloc (.cells ([.bool dtg, .int .i64 dP, .int .i64 dY, .int .i64 dO, .int .i64 dE, .int .i64 dB, .int .i64 dT, .bool dg, .int .u64 da] : List Value).toArray 24)).heap.size = w11.heap.size + 1 := by simp
  rw [show ([.bool dtg, .int .i64 dP, .int .i64 dY, .int .i64 dO, .int .i64 dE, .int .i64 dB, .int .i64 dT, .bool dg, .int .u64 da] : List Value).toArray = #[.bool dtg, .int .i64 dP, .int .i64 dY, .int .i64 dO, .int .i64 dE, .int .i64 dB, .int .i64 dT, .bool dg, .int .u64 da] from rfl] at hx12 H12 hs12 A12 D12 X12
  generalize w11.alloc (.cells #[.bool dtg, .int .i64 dP, .int .i64 dY, .int .i64 dO, .int .i64 dE, .int .i64 dB, .int .i64 dT, .bool dg, .int .u64 da] 24) = w12 at hx12 H12 hs12 A12 D12 X12 ⊢
  have Y12 := Lib.hid hx12
  clear hx12
  clear H8 H9 H10 H11 A8 A9 A10 A11 D8 D9 D10 D11 X10 X11
  have htop := H12.out.o.top
  have hlo := H12.out.b.size
  have n1 := fun w => cap_neq_same ctg cP cY cO cE cB cT cg ca w
  have n2 := fun w => cap_neq_same dtg dP dY dO dE dB dT dg da w
  have n3 : (ca != ca) = false := by simp
  obtain ⟨_, _, _, _, _, _, _, _, _⟩ := A12.out.at_.out9
  obtain ⟨_, _, _, _, _, _, _, _, _⟩ := D12.out.at_.out9
  obtain ⟨_, _, _, _, _, _, _, _, _⟩ := X12.out.at_.out9
  obtain ⟨_, _, _, _, _, _, _, _, _⟩ := Y12.out.at_.out9
  go_upto_region 13 with fail
  go_upto_region 14 with (first | (go_at_call 10; (with_reducible refine (cjload_at H12.out.o CFF.out.k2 (JTb.h1 HTB (Lib.hid H12.out.b)) pa 8 ca true S2 CFF.out.n1 CFF.out.n2 CFF.out.n3 (by omega) (by omega) (by decide) (by decide)).mono ?_); rintro e' w13 ⟨rfl, m13, f13⟩; have hs13 := f13.size; have H13 := Lib.hid (H12.out.code m13 f13); have A13 := Lib.hid (A12.out.fr f13 (fun x => by unfold Rg at x; omega)); have D13 := Lib.hid (D12.out.fr f13 (fun x => by unfold Rg at x; omega)); have X13 := Lib.hid (X12.out.fr f13 (fun x => by unfold Rg at x; omega)); have Y13 := Lib.hid (Y12.out.fr f13 (fun x => by unfold Rg at x; omega)); clear m13 f13))
  have a8 := A13.out.at_ 8 _ rfl
  go_upto_region 16 with (first | (go_at_call 11; (with_reducible refine (cjstore_at H13.out.o CFF.out.k2 (JTb.h1 HTB (Lib.hid H13.out.b)) (pa + (kk : Int)) 1 v true S3 CFF.out.s2 CFF.out.s3 (by omega) (by omega) (by decide) (by decide) v0 v1).mono ?_); rintro e' w14 ⟨rfl, m14, f14⟩; have hs14 := f14.size; have H14 := Lib.hid (H13.out.code m14 f14); have A14 := Lib.hid (A13.out.fr f14 (fun x => by unfold Rg at x; omega)); have D14 := Lib.hid (D13.out.fr f14 (fun x => by unfold Rg at x; omega)); have X14 := Lib.hid (X13.out.fr f14 (fun x => by unfold Rg at x; omega)); have Y14 := Lib.hid (Y13.out.fr f14 (fun x => by unfold Rg at x; omega)); clear m14 f14))
  clear H12 H13 A12 A13 D12 D13 X12 X13 Y12 Y13
  have htop2 := H14.out.o.top
  have hlo2 := H14.out.b.size
  go_upto_region 17 with (first | (go_at_call 9; (with_reducible refine (cjloadcap_at H14.out.o CFF.out.k3 (JTb.h1 HTB (Lib.hid H14.out.b)) pa (.agg #[.bool false, .int .i64 xP, .int .i64 xY, .int .i64 xO, .int .i64 xE, .int .i64 xB, .int .i64 xT, .bool xg, .int .u64 A]) true HC3.out CFF.out.l3 (by omega) (by omega)).mono ?_); rintro e' w15 ⟨rfl, m15, f15⟩; have hs15 := f15.size; have H15 := Lib.hid (H14.out.code m15 f15); have D15 := Lib.hid (D14.out.fr f15 (fun x => by unfold Rg at x; omega)); have X15 := Lib.hid (X14.out.fr f15 (fun x => by unfold Rg at x; omega)); have Y15 := Lib.hid (Y14.out.fr f15 (fun x => by unfold Rg at x; omega)); obtain ⟨_, _, _, _, _, _, _, _, _⟩ := X15.out.at_.out9; have := X15.out.frozen 0; have := X15.out.frozen 1; have := X15.out.frozen 2; have := X15.out.frozen 3; have := X15.out.frozen 4; have := X15.out.frozen 5; have := X15.out.frozen 6; have := X15.out.frozen 7; have := X15.out.frozen 8; clear m15 f15))
  have hX := X15.out.set9 (v0 := .bool false) (v1 := .int .i64 xP) (v2 := .int .i64 xY) (v3 := .int .i64 xO) (v4 := .int .i64 xE) (v5 := .int .i64 xB) (v6 := .int .i64 xT) (v7 := .bool xg) (v8 := .int .u64 A)
  have hD := D15.out.far9 (b := w9.heap.size) (by omega) (.bool false) (.int .i64 xP) (.int .i64 xY) (.int .i64 xO) (.int .i64 xE) (.int .i64 xB) (.int .i64 xT) (.bool xg) (.int .u64 A)
  have hY := Y15.out.far9 (b := w9.heap.size) (by omega) (.bool false) (.int .i64 xP) (.int .i64 xY) (.int .i64 xO) (.int .i64 xE) (.int .i64 xB) (.int .i64 xT) (.bool xg) (.int .u64 A)
  have hH := H15.out.set9 (b := w9.heap.size) (by omega) (by omega) (.bool false) (.int .i64 xP) (.int .i64 xY) (.int .i64 xO) (.int .i64 xE) (.int .i64 xB) (.int .i64 xT) (.bool xg) (.int .u64 A)
  have hs16 := size9 w15 (w9.heap.size) (.bool false) (.int .i64 xP) (.int .i64 xY) (.int .i64 xO) (.int .i64 xE) (.int .i64 xB) (.int .i64 xT) (.bool xg) (.int .u64 A)
  generalize (((((((((w15.setCell ⟨w9.heap.size, 0, none⟩ (.bool false)).setCell ⟨w9.heap.size, 1, none⟩ (.int .i64 xP)).setCell ⟨w9.heap.size, 2, none⟩ (.int .i64 xY)).setCell ⟨w9.heap.size, 3, none⟩ (.int .i64 xO)).setCell ⟨w9.heap.size, 4, none⟩ (.int .i64 xE)).setCell ⟨w9.heap.size, 5, none⟩ (.int .i64 xB)).setCell ⟨w9.heap.size, 6, none⟩ (.int .i64 xT)).setCell ⟨w9.heap.size, 7, none⟩ (.bool xg)).setCell ⟨w9.heap.size, 8, none⟩ (.int .u64 A)) = w16 at hX hD hY hH hs16 ⊢
  have H16 := Lib.hid hH
  have X16 := Lib.hid hX
  have D16 := Lib.hid hD
  have Y16 := Lib.hid hY
  clear hH hX hD hY
  go_upto_region 18 with (first | (go_at_call 9; (with_reducible refine (cjloadcap_at H16.out.o CFF.out.k3 (JTb.h1 HTB (Lib.hid H16.out.b)) (pa + 16) (.agg #[.bool dtg, .int .i64 dP, .int .i64 dY, .int .i64 dO, .int .i64 dE, .int .i64 dB, .int .i64 dT, .bool dg, .int .u64 da]) true HD3.out CFF.out.m3 (by omega) (by omega)).mono ?_); rintro e' w17 ⟨rfl, m17, f17⟩; have hs17 := f17.size; have H17 := Lib.hid (H16.out.code m17 f17); have D17 := Lib.hid (D16.out.fr f17 (fun x => by unfold Rg at x; omega)); have X17 := Lib.hid (X16.out.fr f17 (fun x => by unfold Rg at x; omega)); have Y17 := Lib.hid (Y16.out.fr f17 (fun x => by unfold Rg at x; omega)); obtain ⟨_, _, _, _, _, _, _, _, _⟩ := Y17.out.at_.out9; have := Y17.out.frozen 0; have := Y17.out.frozen 1; have := Y17.out.frozen 2; have := Y17.out.frozen 3; have := Y17.out.frozen 4; have := Y17.out.frozen 5; have := Y17.out.frozen 6; have := Y17.out.frozen 7; have := Y17.out.frozen 8; clear m17 f17))
  have hY := Y17.out.set9 (v0 := .bool dtg) (v1 := .int .i64 dP) (v2 := .int .i64 dY) (v3 := .int .i64 dO) (v4 := .int .i64 dE) (v5 := .int .i64 dB) (v6 := .int .i64 dT) (v7 := .bool dg) (v8 := .int .u64 da)
  have hD := D17.out.far9 (b := w11.heap.size) (by omega) (.bool dtg) (.int .i64 dP) (.int .i64 dY) (.int .i64 dO) (.int .i64 dE) (.int .i64 dB) (.int .i64 dT) (.bool dg) (.int .u64 da)
  have hX := X17.out.far9 (b := w11.heap.size) (by omega) (.bool dtg) (.int .i64 dP) (.int .i64 dY) (.int .i64 dO) (.int .i64 dE) (.int .i64 dB) (.int .i64 dT) (.bool dg) (.int .u64 da)
  have hH := H17.out.set9 (b := w11.heap.size) (by omega) (by omega) (.bool dtg) (.int .i64 dP) (.int .i64 dY) (.int .i64 dO) (.int .i64 dE) (.int .i64 dB) (.int .i64 dT) (.bool dg) (.int .u64 da)
  have hs18 := size9 w17 (w11.heap.size) (.bool dtg) (.int .i64 dP) (.int .i64 dY) (.int .i64 dO) (.int .i64 dE) (.int .i64 dB) (.int .i64 dT) (.bool dg) (.int .u64 da)
  generalize (((((((((w17.setCell ⟨w11.heap.size, 0, none⟩ (.bool dtg)).setCell ⟨w11.heap.size, 1, none⟩ (.int .i64 dP)).setCell ⟨w11.heap.size, 2, none⟩ (.int .i64 dY)).setCell ⟨w11.heap.size, 3, none⟩ (.int .i64 dO)).setCell ⟨w11.heap.size, 4, none⟩ (.int .i64 dE)).setCell ⟨w11.heap.size, 5, none⟩ (.int .i64 dB)).setCell ⟨w11.heap.size, 6, none⟩ (.int .i64 dT)).setCell ⟨w11.heap.size, 7, none⟩ (.bool dg)).setCell ⟨w11.heap.size, 8, none⟩ (.int .u64 da)) = w18 at hY hD hX hH hs18 ⊢
  have H18 := Lib.hid hH
  have Y18 := Lib.hid hY
  have D18 := Lib.hid hD
  have X18 := Lib.hid hX
  clear hH hY hD hX
  clear H14 H15 H16 H17 D14 D15 D16 D17 X14 X15 X16 X17 Y14 Y15 Y16 Y17
  have n4 := fun w => cap_eql_same dtg dP dY dO dE dB dT dg da w
  have x8 := X18.out.at_ 0 _ rfl
  obtain ⟨_, _, _, _, _, _, _, _, _⟩ := D18.out.at_.out9
  obtain ⟨_, _, _, _, _, _, _, _, _⟩ := Y18.out.at_.out9
  go_wp2_with (first | (go_at_call 12; (with_reducible refine (known15_w _ (JTb.h1 HTB (Lib.hid H18.out.b))).mono ?_); rintro e' w19 ⟨rfl, b19⟩; have HZ := Lib.hid (H18.out.b.trans (b19.mono H18.out.b.size)); clear b19))
  go_ret
  exact ⟨rfl, HK5.out.1.trans (HZ.out.mono (by omega))⟩
end Go.Proofs.Ytikibfpfieoabaa
