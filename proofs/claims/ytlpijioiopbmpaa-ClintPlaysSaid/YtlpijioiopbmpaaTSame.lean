/-
  The statements' same: both tell the same. No condition but what the calls lean on.
-/
import Derived.Test.YtlpijioiopbmpaaTWorks
import Derived.Test.YtlpijioiopbmpaaTList
import Derived.Test.YtlpijioiopbmpaaQInts
namespace Go.Proofs.Ytlpijioiopbmpaa
open Go.ChangeShapes Go.WideShapes Go.ChangeAt Go.RowKit
set_option linter.unusedVariables false
set_option linter.unusedSimpArgs false
/-- Both, alike, in blocks of the call's own, behind a world where the tables are. -/
structure BothT (W w : World) (hi g g1 : Nat) (S : TS) : Prop where
  o : Cl w W.heap.size hi g S
  r : RT w g1 S
  b : Below W.heap.size W w
  h : hi ≤ g1
theorem BothT.code {W w w' : World} {hi g g1 : Nat} {S S' : TS} (h : BothT W w hi g g1 S) (m : Cl w' W.heap.size hi g S') (f : Fr w w' (Rg W.heap.size hi)) (e : S = S') : BothT W w' hi g g1 S' := by
  subst e
  exact ⟨m, h.r.fr f (fun x => by have := h.h; unfold Rg at x; omega), h.b.trans (f.lows h.b.size (Nat.le_refl _)), h.h⟩
theorem BothT.kp {W w w' : World} {hi g g1 : Nat} {S : TS} (h : BothT W w hi g g1 S) (k : Kp w w') : BothT W w' hi g g1 S := ⟨h.o.below k.1, h.r.kp k, h.b.trans (k.1.mono h.b.size), h.h⟩
/-- The program's behind a call that turns it, the document's behind. -/
theorem BothT.both {W w w1 w2 : World} {hi g g1 : Nat} {S S' : TS} (h : BothT W w hi g g1 S) (m : Cl w1 W.heap.size hi g S') (f : Fr w w1 (Rg W.heap.size hi)) (r : RT w2 g1 S') (f2 : Fr w1 w2 (fun i => i = g1)) : BothT W w2 hi g g1 S' := by
  have hh := h.h
  have htop := h.o.top
  have hW : W.heap.size ≤ hi := Nat.le_trans h.o.bot (Nat.le_of_lt h.o.gh)
  exact ⟨m.fr f2 (fun i h1 h2 x => by omega), r, (h.b.trans (f.lows h.b.size (Nat.le_refl _))).trans (f2.bl (Nat.le_trans h.b.size f.size) (fun i x => by omega)), hh⟩
theorem BothT.alloc {W w : World} {hi g g1 : Nat} {S : TS} (h : BothT W w hi g g1 S) (x : Obj) : BothT W (w.alloc x) hi g g1 S := ⟨h.o.fr ((Fr.refl w (fun _ => False)).alloc x) (fun _ _ _ h => h), h.r.fr ((Fr.refl w (fun _ => False)).alloc x) id, h.b.alloc h.b.size x, h.h⟩
theorem BothT.drew {W w : World} {hi g g1 : Nat} {S : TS} (h : BothT W w hi g g1 S) : BothT W w.drew hi g g1 S := h.kp ((Kp.refl w).drew)
theorem BothT.rt {W w w1 : World} {hi g g1 : Nat} {S S' : TS} (h : BothT W w hi g g1 S) (m : Cl w1 W.heap.size hi g S') (f : Fr w w1 (Rg W.heap.size hi)) : RT w1 g1 S := h.r.fr f (fun x => by have := h.h; unfold Rg at x; omega)
set_option maxHeartbeats 8000000 in
theorem same13_w {W w : World} {hi g g1 : Nat} {S : TS} (h : BothT W w hi g g1 S) (ok : S.Ok) (tb : TTb W) :
    Calls Try.prog 10 #[.pointer (some ⟨g, 0, none⟩), .pointer (some ⟨g1, 0, none⟩)] w fun e w' => e = .returned (.bool true) ∧ BothT W w' hi g g1 S := by
  have H0 := Lib.hid h
  have OK := Lib.hid ok
  have HTB := Lib.hid tb
  clear h ok tb
  have e1 : (S.now == S.now) = true := by simp
  have e2 : (S.timer == S.timer) = true := by simp
  have e3 : (S.be == S.be) = true := by simp
  go_enter Try.func10, Try.ntmps10
  go_wp2_with (first | (go_at_call 20; (with_reducible refine (cttime_w H0.out.o OK.out (TTb.h1 HTB (Lib.hid H0.out.b))).mono ?_); rintro e' w1 ⟨rfl, m1, f1⟩; have H1 := Lib.hid (H0.out.code m1 f1 rfl); clear m1 f1) | (go_at_call 22; (with_reducible refine (rttime_w H1.out.r).mono ?_); rintro e' w2 ⟨rfl, k2⟩; have H2 := Lib.hid (H1.out.kp k2); clear k2) | (go_at_call 21; (with_reducible refine (cttimer_w H2.out.o OK.out (TTb.h1 HTB (Lib.hid H2.out.b))).mono ?_); rintro e' w3 ⟨rfl, m3, f3⟩; have H3 := Lib.hid (H2.out.code m3 f3 rfl); clear m3 f3) | (go_at_call 23; (with_reducible refine (rttimer_w H3.out.r).mono ?_); rintro e' w4 ⟨rfl, k4⟩; have H4 := Lib.hid (H3.out.kp k4); clear k4) | (go_at_call 19; (with_reducible refine (ctsoft_w H4.out.o OK.out (TTb.h1 HTB (Lib.hid H4.out.b))).mono ?_); rintro e' w5 ⟨rfl, m5, f5⟩; have H5 := Lib.hid (H4.out.code m5 f5 rfl); clear m5 f5) | (go_at_call 24; (with_reducible refine (rtsoft_w H5.out.r).mono ?_); rintro e' w6 ⟨rfl, k6⟩; have H6 := Lib.hid (H5.out.kp k6); clear k6))
  go_ret
  exact ⟨rfl, H6.out⟩
end Go.Proofs.Ytlpijioiopbmpaa
