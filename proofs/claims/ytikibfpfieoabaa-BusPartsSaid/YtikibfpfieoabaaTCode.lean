/-
  The program's time: its calls. No condition.
-/
import Derived.Test.YtikibfpfieoabaaTObj
namespace Go.Proofs.Ytikibfpfieoabaa
open Go.ChangeShapes Go.WideShapes Go.ChangeAt Go.RowKit
set_option linter.unusedVariables false
set_option linter.unusedSimpArgs false
/-- What the calls lean on in a world: no table. -/
structure TTb (w : World) : Prop where
  any : w.heap.size = w.heap.size
theorem TTb.below {w w' : World} (h : TTb w) (k : Below w.heap.size w w') : TTb w' := ⟨rfl⟩
theorem TTb.h1 {w w' : World} (h : Hid (TTb w)) (k : Hid (Below w.heap.size w w')) : TTb w' := h.out.below k.out
theorem ttb_any (w : World) : TTb w := ⟨rfl⟩
/-- A time: its blocks stand from lo on, below hi. -/
structure Cl (w : World) (lo hi g : Nat) (S : TS) : Prop where
  top : hi ≤ w.heap.size
  bot : lo ≤ g
  gh : g < hi
  ct : CT w g S
theorem Cl.fr {w w' : World} {lo hi g : Nat} {S : TS} {R : Nat → Prop} (m : Cl w lo hi g S) (k : Fr w w' R) (h : ∀ i, lo ≤ i → i < hi → ¬ R i) : Cl w' lo hi g S :=
  ⟨Nat.le_trans m.top k.size, m.bot, m.gh, m.ct.fr k (h g m.bot m.gh)⟩
theorem Cl.up {w w' : World} {lo hi g : Nat} {S S' : TS} (m : Cl w lo hi g S) (c : CT w' g S') (k : Fr w w' (fun i => i = g)) : Cl w' lo hi g S' := ⟨Nat.le_trans m.top k.size, m.bot, m.gh, c⟩
theorem fr_cl {w w' : World} {lo hi g : Nat} {S : TS} (m : Cl w lo hi g S) (k : Fr w w' (fun i => i = g)) : Fr w w' (Rg lo hi) := k.mono (fun i _ h => by subst h; exact ⟨m.bot, m.gh⟩)
theorem Cl.kp {w w' : World} {lo hi g : Nat} {S : TS} (m : Cl w lo hi g S) (k : Kp w w') : Cl w' lo hi g S ∧ Fr w w' (Rg lo hi) := ⟨m.fr (Fr.of_kp k (fun _ => False)) (fun _ _ _ h => h), Fr.of_kp k _⟩
set_option maxHeartbeats 4000000 in
theorem ctnew_w (w : World) (tb : TTb w) : Calls Try.prog 20 #[] w fun e w' => ∃ g, e = .returned (.pointer (some ⟨g, 0, none⟩)) ∧ Cl w' w.heap.size w'.heap.size g TS.new ∧ Below w.heap.size w w' := by
  go_enter Try.func20, Try.ntmps20
  go_wp2
  have b := Blk.new w 90 [.int .u64 0, .int .u64 18446744073709551615, .int .u64 0]
  have a := b.at_
  refine bodyPost_ret (v := .pointer (some ⟨w.heap.size, 0, none⟩)) ?_ rfl ⟨_, rfl, ⟨Nat.le_refl _, Nat.le_refl _, b.lt, b.lt, b.frozen, a 0 _ rfl, a 1 _ rfl, a 2 _ rfl⟩, (Below.refl _ w).alloc (Nat.le_refl _) _⟩
  simp [results, Try.results20, go_sem]
set_option maxHeartbeats 4000000 in
theorem cttimer_w {w : World} {lo hi g : Nat} {S : TS} (m : Cl w lo hi g S) (ok : S.Ok) (tb : TTb w) : Calls Try.prog 32 #[.pointer (some ⟨g, 0, none⟩)] w fun e w' => e = .returned (.bool S.timer) ∧ Cl w' lo hi g S ∧ Fr w w' (Rg lo hi) := by
  have c1 : w.drew.cell? ⟨g, 1, none⟩ = _ := m.ct.c1
  have HQ : Hid (Calls Try.prog 46 #[.pointer (some ⟨g, 0, none⟩)] w.drew fun e w' => e = .returned (.int .u64 S.now) ∧ w' = w.drew) := Lib.hid ((ald_w (w := w.drew) m.ct.c0).mono fun _ _ h => ⟨h.1, h.2.symm⟩)
  have HM := Lib.hid m
  have ht : decide (S.now ≥ S.al) = S.timer := rfl
  have HT := Lib.hid ht
  clear m ht
  go_enter Try.func32, Try.ntmps32
  go_wp2
  refine wp_region_still_lit (by kernel_rfl) (by kernel_rfl) ?_
  with_reducible refine wpStill_step (fun K hK => ?_)
  go_simp
  with_reducible refine hK _ ?_
  clear hK K
  with_reducible refine wpStill_step (fun K hK => ?_)
  go_simp
  with_reducible refine hK _ ?_
  clear hK K
  with_reducible refine wpStill_step (fun K hK => ?_)
  go_simp
  with_reducible refine hK _ ?_
  clear hK K
  with_reducible refine wpStill_step (fun K hK => ?_)
  go_simp
  refine ⟨_, HQ.out, ?_⟩
  with_reducible refine hK _ ?_
  clear hK K
  with_reducible refine wpStill_step (fun K hK => ?_)
  go_simp
  with_reducible refine hK _ ?_
  clear hK K
  with_reducible refine wpStill_step (fun K hK => ?_)
  go_simp
  with_reducible refine hK _ ?_
  clear hK K
  with_reducible refine wpStill_step (fun K hK => ?_)
  go_simp
  with_reducible refine hK _ ?_
  clear hK K
  with_reducible refine wpStill_step (fun K hK => ?_)
  go_simp
  with_reducible refine hK _ ?_
  clear hK K
  with_reducible refine wpStill_step (fun K hK => ?_)
  go_simp
  with_reducible refine hK _ ?_
  clear hK K
  with_reducible refine wpStill_step (fun K hK => ?_)
  go_simp
  with_reducible refine hK _ ?_
  clear hK K
  with_reducible refine wpStill_nil ?_
  change Exit.then _ _ _ _ w.drew
  go_wp2
  go_ret
  exact ⟨ret_bool HT.out, (HM.out.kp (Kp.refl w).drew)⟩
theorem ctsoft_w {w : World} {lo hi g : Nat} {S : TS} (m : Cl w lo hi g S) (ok : S.Ok) (tb : TTb w) : Calls Try.prog 31 #[.pointer (some ⟨g, 0, none⟩)] w fun e w' => e = .returned (.bool S.be) ∧ Cl w' lo hi g S ∧ Fr w w' (Rg lo hi) := by
  have c2 := m.ct.c2
  have hb : (S.bell == 1) = S.be := by unfold TS.bell; cases S.be <;> rfl
  have HM := Lib.hid m
  clear m
  go_enter Try.func31, Try.ntmps31
  go_wp2
  go_ret
  exact ⟨rfl, HM.out, Fr.refl _ _⟩
set_option maxHeartbeats 4000000 in
theorem cloadT_0_4 {w : World} {g : Nat} {S : TS} (m : CT w g S) (ok : S.Ok) :
    Calls Try.prog 79 #[.pointer (some ⟨g, 0, none⟩), .int .i64 0, .int .i64 4] w fun e w' => e = .returned (.tuple #[.int .u64 (S.val 0 4), .bool true]) ∧ Kp w w' := by
  have HF := Lib.hid (cfindT_0_4 w)
  have HM := Lib.hid m
  have hv : bits .and .u64 S.bell 1 = S.val 0 4 := by
    rw [and_one (by have := S.bell_bd; omega) (by have := S.bell_bd; omega)]
    have := S.bell_bd; have := ok.a0; have := ok.a1; have := ok.n0; have := ok.n1; simp [TS.val]; try omega
  have HV := Lib.hid hv
  clear m hv
  go_enter Try.func79, Try.ntmps79
  go_upto_region 4 with (go_at_call 81; (with_reducible refine HF.out.mono ?_); rintro e' w1 ⟨rfl, k1⟩)
  obtain ⟨w5, hw⟩ : ∃ w5, w5 = w1.alloc (.cells #[.int .i64 1, .int .i64 0, .int .u64 1] 152) := ⟨_, rfl⟩
  have b := Blk.new w1 152 [.int .i64 1, .int .i64 0, .int .u64 1]
  have k5 : Kp w w5 := by rw [hw]; exact k1.allocs _ _
  rw [← hw]
  have d0 : w5.drew.cell? ⟨w1.heap.size, 0, none⟩ = some (.int .i64 1) := by rw [hw]; exact b.at_ 0 _ rfl
  have d1 : w5.drew.cell? ⟨w1.heap.size, 1, none⟩ = some (.int .i64 0) := by rw [hw]; exact b.at_ 1 _ rfl
  have d2 : w5.drew.cell? ⟨w1.heap.size, 2, none⟩ = some (.int .u64 1) := by rw [hw]; exact b.at_ 2 _ rfl
  have HQ : Hid (Calls Try.prog 82 #[.pointer (some ⟨g, 0, none⟩), .int .i64 1] w5.drew fun e w' => e = .returned (.int .u64 S.bell) ∧ w' = w5.drew) := Lib.hid ((creadT_1 (HM.out.kp k5).drew).mono fun _ _ h => ⟨h.1, h.2.symm⟩)
  have K5 := Lib.hid k5
  clear b hw k5 k1
  refine wp_region_still_lit (by kernel_rfl) (by kernel_rfl) ?_
  with_reducible refine wpStill_step (fun K hK => ?_)
  go_simp
  with_reducible refine hK _ ?_
  clear hK K
  with_reducible refine wpStill_step (fun K hK => ?_)
  go_simp
  with_reducible refine hK _ ?_
  clear hK K
  with_reducible refine wpStill_step (fun K hK => ?_)
  go_simp
  with_reducible refine hK _ ?_
  clear hK K
  with_reducible refine wpStill_step (fun K hK => ?_)
  go_simp
  refine ⟨_, HQ.out, ?_⟩
  with_reducible refine hK _ ?_
  clear hK K
  with_reducible refine wpStill_step (fun K hK => ?_)
  go_simp
  with_reducible refine hK _ ?_
  clear hK K
  with_reducible refine wpStill_step (fun K hK => ?_)
  go_simp
  with_reducible refine hK _ ?_
  clear hK K
  with_reducible refine wpStill_step (fun K hK => ?_)
  go_simp
  with_reducible refine hK _ ?_
  clear hK K
  with_reducible refine wpStill_step (fun K hK => ?_)
  go_simp
  with_reducible refine hK _ ?_
  clear hK K
  with_reducible refine wpStill_step (fun K hK => ?_)
  go_simp
  with_reducible refine hK _ ?_
  clear hK K
  with_reducible refine wpStill_step (fun K hK => ?_)
  go_simp
  with_reducible refine hK _ ?_
  clear hK K
  with_reducible refine wpStill_step (fun K hK => ?_)
  go_simp
  with_reducible refine hK _ ?_
  clear hK K
  with_reducible refine wpStill_step (fun K hK => ?_)
  go_simp
  with_reducible refine hK _ ?_
  clear hK K
  with_reducible refine wpStill_nil ?_
  change Exit.then _ _ _ _ w5.drew
  go_wp2
  go_ret2
  exact ⟨ret_two HV.out rfl, K5.out.trans (Kp.refl w5).drew⟩
set_option maxHeartbeats 4000000 in
theorem cloadT_16384_8 {w : World} {g : Nat} {S : TS} (m : CT w g S) (ok : S.Ok) :
    Calls Try.prog 79 #[.pointer (some ⟨g, 0, none⟩), .int .i64 16384, .int .i64 8] w fun e w' => e = .returned (.tuple #[.int .u64 (S.val 16384 8), .bool true]) ∧ Kp w w' := by
  have HF := Lib.hid (cfindT_16384_8 w)
  have HM := Lib.hid m
  have hv : bits .and .u64 S.al 18446744073709551615 = S.val 16384 8 := by
    rw [and_all (by have := ok.a0; have := ok.a1; omega) (by have := ok.a0; have := ok.a1; omega)]
    simp [TS.val]
  have HV := Lib.hid hv
  clear m hv
  go_enter Try.func79, Try.ntmps79
  go_upto_region 4 with (go_at_call 81; (with_reducible refine HF.out.mono ?_); rintro e' w1 ⟨rfl, k1⟩)
  obtain ⟨w5, hw⟩ : ∃ w5, w5 = w1.alloc (.cells #[.int .i64 2, .int .i64 0, .int .u64 18446744073709551615] 152) := ⟨_, rfl⟩
  have b := Blk.new w1 152 [.int .i64 2, .int .i64 0, .int .u64 18446744073709551615]
  have k5 : Kp w w5 := by rw [hw]; exact k1.allocs _ _
  rw [← hw]
  have d0 : w5.drew.cell? ⟨w1.heap.size, 0, none⟩ = some (.int .i64 2) := by rw [hw]; exact b.at_ 0 _ rfl
  have d1 : w5.drew.cell? ⟨w1.heap.size, 1, none⟩ = some (.int .i64 0) := by rw [hw]; exact b.at_ 1 _ rfl
  have d2 : w5.drew.cell? ⟨w1.heap.size, 2, none⟩ = some (.int .u64 18446744073709551615) := by rw [hw]; exact b.at_ 2 _ rfl
  have HQ : Hid (Calls Try.prog 82 #[.pointer (some ⟨g, 0, none⟩), .int .i64 2] w5.drew fun e w' => e = .returned (.int .u64 S.al) ∧ w' = w5.drew) := Lib.hid ((creadT_2 (HM.out.kp k5).drew).mono fun _ _ h => ⟨h.1, h.2.symm⟩)
  have K5 := Lib.hid k5
  clear b hw k5 k1
  refine wp_region_still_lit (by kernel_rfl) (by kernel_rfl) ?_
  with_reducible refine wpStill_step (fun K hK => ?_)
  go_simp
  with_reducible refine hK _ ?_
  clear hK K
  with_reducible refine wpStill_step (fun K hK => ?_)
  go_simp
  with_reducible refine hK _ ?_
  clear hK K
  with_reducible refine wpStill_step (fun K hK => ?_)
  go_simp
  with_reducible refine hK _ ?_
  clear hK K
  with_reducible refine wpStill_step (fun K hK => ?_)
  go_simp
  refine ⟨_, HQ.out, ?_⟩
  with_reducible refine hK _ ?_
  clear hK K
  with_reducible refine wpStill_step (fun K hK => ?_)
  go_simp
  with_reducible refine hK _ ?_
  clear hK K
  with_reducible refine wpStill_step (fun K hK => ?_)
  go_simp
  with_reducible refine hK _ ?_
  clear hK K
  with_reducible refine wpStill_step (fun K hK => ?_)
  go_simp
  with_reducible refine hK _ ?_
  clear hK K
  with_reducible refine wpStill_step (fun K hK => ?_)
  go_simp
  with_reducible refine hK _ ?_
  clear hK K
  with_reducible refine wpStill_step (fun K hK => ?_)
  go_simp
  with_reducible refine hK _ ?_
  clear hK K
  with_reducible refine wpStill_step (fun K hK => ?_)
  go_simp
  with_reducible refine hK _ ?_
  clear hK K
  with_reducible refine wpStill_step (fun K hK => ?_)
  go_simp
  with_reducible refine hK _ ?_
  clear hK K
  with_reducible refine wpStill_step (fun K hK => ?_)
  go_simp
  with_reducible refine hK _ ?_
  clear hK K
  with_reducible refine wpStill_nil ?_
  change Exit.then _ _ _ _ w5.drew
  go_wp2
  go_ret2
  exact ⟨ret_two HV.out rfl, K5.out.trans (Kp.refl w5).drew⟩
set_option maxHeartbeats 4000000 in
theorem cloadT_16384_4 {w : World} {g : Nat} {S : TS} (m : CT w g S) (ok : S.Ok) :
    Calls Try.prog 79 #[.pointer (some ⟨g, 0, none⟩), .int .i64 16384, .int .i64 4] w fun e w' => e = .returned (.tuple #[.int .u64 (S.val 16384 4), .bool true]) ∧ Kp w w' := by
  have HF := Lib.hid (cfindT_16384_4 w)
  have HM := Lib.hid m
  have hv : bits .and .u64 S.al 4294967295 = S.val 16384 4 := by
    rw [and_half (by have := ok.a0; have := ok.a1; omega) (by have := ok.a0; have := ok.a1; omega)]
    have := S.bell_bd; have := ok.a0; have := ok.a1; have := ok.n0; have := ok.n1; simp [TS.val]; try omega
  have HV := Lib.hid hv
  clear m hv
  go_enter Try.func79, Try.ntmps79
  go_upto_region 4 with (go_at_call 81; (with_reducible refine HF.out.mono ?_); rintro e' w1 ⟨rfl, k1⟩)
  obtain ⟨w5, hw⟩ : ∃ w5, w5 = w1.alloc (.cells #[.int .i64 2, .int .i64 0, .int .u64 4294967295] 152) := ⟨_, rfl⟩
  have b := Blk.new w1 152 [.int .i64 2, .int .i64 0, .int .u64 4294967295]
  have k5 : Kp w w5 := by rw [hw]; exact k1.allocs _ _
  rw [← hw]
  have d0 : w5.drew.cell? ⟨w1.heap.size, 0, none⟩ = some (.int .i64 2) := by rw [hw]; exact b.at_ 0 _ rfl
  have d1 : w5.drew.cell? ⟨w1.heap.size, 1, none⟩ = some (.int .i64 0) := by rw [hw]; exact b.at_ 1 _ rfl
  have d2 : w5.drew.cell? ⟨w1.heap.size, 2, none⟩ = some (.int .u64 4294967295) := by rw [hw]; exact b.at_ 2 _ rfl
  have HQ : Hid (Calls Try.prog 82 #[.pointer (some ⟨g, 0, none⟩), .int .i64 2] w5.drew fun e w' => e = .returned (.int .u64 S.al) ∧ w' = w5.drew) := Lib.hid ((creadT_2 (HM.out.kp k5).drew).mono fun _ _ h => ⟨h.1, h.2.symm⟩)
  have K5 := Lib.hid k5
  clear b hw k5 k1
  refine wp_region_still_lit (by kernel_rfl) (by kernel_rfl) ?_
  with_reducible refine wpStill_step (fun K hK => ?_)
  go_simp
  with_reducible refine hK _ ?_
  clear hK K
  with_reducible refine wpStill_step (fun K hK => ?_)
  go_simp
  with_reducible refine hK _ ?_
  clear hK K
  with_reducible refine wpStill_step (fun K hK => ?_)
  go_simp
  with_reducible refine hK _ ?_
  clear hK K
  with_reducible refine wpStill_step (fun K hK => ?_)
  go_simp
  refine ⟨_, HQ.out, ?_⟩
  with_reducible refine hK _ ?_
  clear hK K
  with_reducible refine wpStill_step (fun K hK => ?_)
  go_simp
  with_reducible refine hK _ ?_
  clear hK K
  with_reducible refine wpStill_step (fun K hK => ?_)
  go_simp
  with_reducible refine hK _ ?_
  clear hK K
  with_reducible refine wpStill_step (fun K hK => ?_)
  go_simp
  with_reducible refine hK _ ?_
  clear hK K
  with_reducible refine wpStill_step (fun K hK => ?_)
  go_simp
  with_reducible refine hK _ ?_
  clear hK K
  with_reducible refine wpStill_step (fun K hK => ?_)
  go_simp
  with_reducible refine hK _ ?_
  clear hK K
  with_reducible refine wpStill_step (fun K hK => ?_)
  go_simp
  with_reducible refine hK _ ?_
  clear hK K
  with_reducible refine wpStill_step (fun K hK => ?_)
  go_simp
  with_reducible refine hK _ ?_
  clear hK K
  with_reducible refine wpStill_step (fun K hK => ?_)
  go_simp
  with_reducible refine hK _ ?_
  clear hK K
  with_reducible refine wpStill_nil ?_
  change Exit.then _ _ _ _ w5.drew
  go_wp2
  go_ret2
  exact ⟨ret_two HV.out rfl, K5.out.trans (Kp.refl w5).drew⟩
set_option maxHeartbeats 4000000 in
theorem cloadT_16388_4 {w : World} {g : Nat} {S : TS} (m : CT w g S) (ok : S.Ok) :
    Calls Try.prog 79 #[.pointer (some ⟨g, 0, none⟩), .int .i64 16388, .int .i64 4] w fun e w' => e = .returned (.tuple #[.int .u64 (S.val 16388 4), .bool true]) ∧ Kp w w' := by
  have HF := Lib.hid (cfindT_16388_4 w)
  have HM := Lib.hid m
  have hv : bits .and .u64 (S.al / 4294967296) 4294967295 = S.val 16388 4 := by
    rw [and_half (by have := ok.a0; have := ok.a1; omega) (by have := ok.a0; have := ok.a1; omega)]
    have := S.bell_bd; have := ok.a0; have := ok.a1; have := ok.n0; have := ok.n1; simp [TS.val]; try omega
  have HV := Lib.hid hv
  clear m hv
  go_enter Try.func79, Try.ntmps79
  go_upto_region 4 with (go_at_call 81; (with_reducible refine HF.out.mono ?_); rintro e' w1 ⟨rfl, k1⟩)
  obtain ⟨w5, hw⟩ : ∃ w5, w5 = w1.alloc (.cells #[.int .i64 2, .int .i64 32, .int .u64 4294967295] 152) := ⟨_, rfl⟩
  have b := Blk.new w1 152 [.int .i64 2, .int .i64 32, .int .u64 4294967295]
  have k5 : Kp w w5 := by rw [hw]; exact k1.allocs _ _
  rw [← hw]
  have d0 : w5.drew.cell? ⟨w1.heap.size, 0, none⟩ = some (.int .i64 2) := by rw [hw]; exact b.at_ 0 _ rfl
  have d1 : w5.drew.cell? ⟨w1.heap.size, 1, none⟩ = some (.int .i64 32) := by rw [hw]; exact b.at_ 1 _ rfl
  have d2 : w5.drew.cell? ⟨w1.heap.size, 2, none⟩ = some (.int .u64 4294967295) := by rw [hw]; exact b.at_ 2 _ rfl
  have HQ : Hid (Calls Try.prog 82 #[.pointer (some ⟨g, 0, none⟩), .int .i64 2] w5.drew fun e w' => e = .returned (.int .u64 S.al) ∧ w' = w5.drew) := Lib.hid ((creadT_2 (HM.out.kp k5).drew).mono fun _ _ h => ⟨h.1, h.2.symm⟩)
  have K5 := Lib.hid k5
  clear b hw k5 k1
  refine wp_region_still_lit (by kernel_rfl) (by kernel_rfl) ?_
  with_reducible refine wpStill_step (fun K hK => ?_)
  go_simp
  with_reducible refine hK _ ?_
  clear hK K
  with_reducible refine wpStill_step (fun K hK => ?_)
  go_simp
  with_reducible refine hK _ ?_
  clear hK K
  with_reducible refine wpStill_step (fun K hK => ?_)
  go_simp
  with_reducible refine hK _ ?_
  clear hK K
  with_reducible refine wpStill_step (fun K hK => ?_)
  go_simp
  refine ⟨_, HQ.out, ?_⟩
  with_reducible refine hK _ ?_
  clear hK K
  with_reducible refine wpStill_step (fun K hK => ?_)
  go_simp
  with_reducible refine hK _ ?_
  clear hK K
  with_reducible refine wpStill_step (fun K hK => ?_)
  go_simp
  with_reducible refine hK _ ?_
  clear hK K
  with_reducible refine wpStill_step (fun K hK => ?_)
  go_simp
  with_reducible refine hK _ ?_
  clear hK K
  with_reducible refine wpStill_step (fun K hK => ?_)
  go_simp
  with_reducible refine hK _ ?_
  clear hK K
  with_reducible refine wpStill_step (fun K hK => ?_)
  go_simp
  with_reducible refine hK _ ?_
  clear hK K
  with_reducible refine wpStill_step (fun K hK => ?_)
  go_simp
  with_reducible refine hK _ ?_
  clear hK K
  with_reducible refine wpStill_step (fun K hK => ?_)
  go_simp
  with_reducible refine hK _ ?_
  clear hK K
  with_reducible refine wpStill_step (fun K hK => ?_)
  go_simp
  with_reducible refine hK _ ?_
  clear hK K
  with_reducible refine wpStill_nil ?_
  change Exit.then _ _ _ _ w5.drew
  go_wp2
  go_ret2
  exact ⟨ret_two HV.out rfl, K5.out.trans (Kp.refl w5).drew⟩
set_option maxHeartbeats 4000000 in
theorem cloadT_49144_8 {w : World} {g : Nat} {S : TS} (m : CT w g S) (ok : S.Ok) :
    Calls Try.prog 79 #[.pointer (some ⟨g, 0, none⟩), .int .i64 49144, .int .i64 8] w fun e w' => e = .returned (.tuple #[.int .u64 (S.val 49144 8), .bool true]) ∧ Kp w w' := by
  have HF := Lib.hid (cfindT_49144_8 w)
  have HM := Lib.hid m
  have hv : bits .and .u64 S.now 18446744073709551615 = S.val 49144 8 := by
    rw [and_all (by have := ok.n0; have := ok.n1; omega) (by have := ok.n0; have := ok.n1; omega)]
    simp [TS.val]
  have HV := Lib.hid hv
  clear m hv
  go_enter Try.func79, Try.ntmps79
  go_upto_region 4 with (go_at_call 81; (with_reducible refine HF.out.mono ?_); rintro e' w1 ⟨rfl, k1⟩)
  obtain ⟨w5, hw⟩ : ∃ w5, w5 = w1.alloc (.cells #[.int .i64 3, .int .i64 0, .int .u64 18446744073709551615] 152) := ⟨_, rfl⟩
  have b := Blk.new w1 152 [.int .i64 3, .int .i64 0, .int .u64 18446744073709551615]
  have k5 : Kp w w5 := by rw [hw]; exact k1.allocs _ _
  rw [← hw]
  have d0 : w5.drew.cell? ⟨w1.heap.size, 0, none⟩ = some (.int .i64 3) := by rw [hw]; exact b.at_ 0 _ rfl
  have d1 : w5.drew.cell? ⟨w1.heap.size, 1, none⟩ = some (.int .i64 0) := by rw [hw]; exact b.at_ 1 _ rfl
  have d2 : w5.drew.cell? ⟨w1.heap.size, 2, none⟩ = some (.int .u64 18446744073709551615) := by rw [hw]; exact b.at_ 2 _ rfl
  have HQ : Hid (Calls Try.prog 82 #[.pointer (some ⟨g, 0, none⟩), .int .i64 3] w5.drew fun e w' => e = .returned (.int .u64 S.now) ∧ w' = w5.drew) := Lib.hid ((creadT_3 (HM.out.kp k5).drew).mono fun _ _ h => ⟨h.1, h.2.symm⟩)
  have K5 := Lib.hid k5
  clear b hw k5 k1
  refine wp_region_still_lit (by kernel_rfl) (by kernel_rfl) ?_
  with_reducible refine wpStill_step (fun K hK => ?_)
  go_simp
  with_reducible refine hK _ ?_
  clear hK K
  with_reducible refine wpStill_step (fun K hK => ?_)
  go_simp
  with_reducible refine hK _ ?_
  clear hK K
  with_reducible refine wpStill_step (fun K hK => ?_)
  go_simp
  with_reducible refine hK _ ?_
  clear hK K
  with_reducible refine wpStill_step (fun K hK => ?_)
  go_simp
  refine ⟨_, HQ.out, ?_⟩
  with_reducible refine hK _ ?_
  clear hK K
  with_reducible refine wpStill_step (fun K hK => ?_)
  go_simp
  with_reducible refine hK _ ?_
  clear hK K
  with_reducible refine wpStill_step (fun K hK => ?_)
  go_simp
  with_reducible refine hK _ ?_
  clear hK K
  with_reducible refine wpStill_step (fun K hK => ?_)
  go_simp
  with_reducible refine hK _ ?_
  clear hK K
  with_reducible refine wpStill_step (fun K hK => ?_)
  go_simp
  with_reducible refine hK _ ?_
  clear hK K
  with_reducible refine wpStill_step (fun K hK => ?_)
  go_simp
  with_reducible refine hK _ ?_
  clear hK K
  with_reducible refine wpStill_step (fun K hK => ?_)
  go_simp
  with_reducible refine hK _ ?_
  clear hK K
  with_reducible refine wpStill_step (fun K hK => ?_)
  go_simp
  with_reducible refine hK _ ?_
  clear hK K
  with_reducible refine wpStill_step (fun K hK => ?_)
  go_simp
  with_reducible refine hK _ ?_
  clear hK K
  with_reducible refine wpStill_nil ?_
  change Exit.then _ _ _ _ w5.drew
  go_wp2
  go_ret2
  exact ⟨ret_two HV.out rfl, K5.out.trans (Kp.refl w5).drew⟩
set_option maxHeartbeats 4000000 in
theorem cloadT_49144_4 {w : World} {g : Nat} {S : TS} (m : CT w g S) (ok : S.Ok) :
    Calls Try.prog 79 #[.pointer (some ⟨g, 0, none⟩), .int .i64 49144, .int .i64 4] w fun e w' => e = .returned (.tuple #[.int .u64 (S.val 49144 4), .bool true]) ∧ Kp w w' := by
  have HF := Lib.hid (cfindT_49144_4 w)
  have HM := Lib.hid m
  have hv : bits .and .u64 S.now 4294967295 = S.val 49144 4 := by
    rw [and_half (by have := ok.n0; have := ok.n1; omega) (by have := ok.n0; have := ok.n1; omega)]
    have := S.bell_bd; have := ok.a0; have := ok.a1; have := ok.n0; have := ok.n1; simp [TS.val]; try omega
  have HV := Lib.hid hv
  clear m hv
  go_enter Try.func79, Try.ntmps79
  go_upto_region 4 with (go_at_call 81; (with_reducible refine HF.out.mono ?_); rintro e' w1 ⟨rfl, k1⟩)
  obtain ⟨w5, hw⟩ : ∃ w5, w5 = w1.alloc (.cells #[.int .i64 3, .int .i64 0, .int .u64 4294967295] 152) := ⟨_, rfl⟩
  have b := Blk.new w1 152 [.int .i64 3, .int .i64 0, .int .u64 4294967295]
  have k5 : Kp w w5 := by rw [hw]; exact k1.allocs _ _
  rw [← hw]
  have d0 : w5.drew.cell? ⟨w1.heap.size, 0, none⟩ = some (.int .i64 3) := by rw [hw]; exact b.at_ 0 _ rfl
  have d1 : w5.drew.cell? ⟨w1.heap.size, 1, none⟩ = some (.int .i64 0) := by rw [hw]; exact b.at_ 1 _ rfl
  have d2 : w5.drew.cell? ⟨w1.heap.size, 2, none⟩ = some (.int .u64 4294967295) := by rw [hw]; exact b.at_ 2 _ rfl
  have HQ : Hid (Calls Try.prog 82 #[.pointer (some ⟨g, 0, none⟩), .int .i64 3] w5.drew fun e w' => e = .returned (.int .u64 S.now) ∧ w' = w5.drew) := Lib.hid ((creadT_3 (HM.out.kp k5).drew).mono fun _ _ h => ⟨h.1, h.2.symm⟩)
  have K5 := Lib.hid k5
  clear b hw k5 k1
  refine wp_region_still_lit (by kernel_rfl) (by kernel_rfl) ?_
  with_reducible refine wpStill_step (fun K hK => ?_)
  go_simp
  with_reducible refine hK _ ?_
  clear hK K
  with_reducible refine wpStill_step (fun K hK => ?_)
  go_simp
  with_reducible refine hK _ ?_
  clear hK K
  with_reducible refine wpStill_step (fun K hK => ?_)
  go_simp
  with_reducible refine hK _ ?_
  clear hK K
  with_reducible refine wpStill_step (fun K hK => ?_)
  go_simp
  refine ⟨_, HQ.out, ?_⟩
  with_reducible refine hK _ ?_
  clear hK K
  with_reducible refine wpStill_step (fun K hK => ?_)
  go_simp
  with_reducible refine hK _ ?_
  clear hK K
  with_reducible refine wpStill_step (fun K hK => ?_)
  go_simp
  with_reducible refine hK _ ?_
  clear hK K
  with_reducible refine wpStill_step (fun K hK => ?_)
  go_simp
  with_reducible refine hK _ ?_
  clear hK K
  with_reducible refine wpStill_step (fun K hK => ?_)
  go_simp
  with_reducible refine hK _ ?_
  clear hK K
  with_reducible refine wpStill_step (fun K hK => ?_)
  go_simp
  with_reducible refine hK _ ?_
  clear hK K
  with_reducible refine wpStill_step (fun K hK => ?_)
  go_simp
  with_reducible refine hK _ ?_
  clear hK K
  with_reducible refine wpStill_step (fun K hK => ?_)
  go_simp
  with_reducible refine hK _ ?_
  clear hK K
  with_reducible refine wpStill_step (fun K hK => ?_)
  go_simp
  with_reducible refine hK _ ?_
  clear hK K
  with_reducible refine wpStill_nil ?_
  change Exit.then _ _ _ _ w5.drew
  go_wp2
  go_ret2
  exact ⟨ret_two HV.out rfl, K5.out.trans (Kp.refl w5).drew⟩
set_option maxHeartbeats 4000000 in
theorem cloadT_49148_4 {w : World} {g : Nat} {S : TS} (m : CT w g S) (ok : S.Ok) :
    Calls Try.prog 79 #[.pointer (some ⟨g, 0, none⟩), .int .i64 49148, .int .i64 4] w fun e w' => e = .returned (.tuple #[.int .u64 (S.val 49148 4), .bool true]) ∧ Kp w w' := by
  have HF := Lib.hid (cfindT_49148_4 w)
  have HM := Lib.hid m
  have hv : bits .and .u64 (S.now / 4294967296) 4294967295 = S.val 49148 4 := by
    rw [and_half (by have := ok.n0; have := ok.n1; omega) (by have := ok.n0; have := ok.n1; omega)]
    have := S.bell_bd; have := ok.a0; have := ok.a1; have := ok.n0; have := ok.n1; simp [TS.val]; try omega
  have HV := Lib.hid hv
  clear m hv
  go_enter Try.func79, Try.ntmps79
  go_upto_region 4 with (go_at_call 81; (with_reducible refine HF.out.mono ?_); rintro e' w1 ⟨rfl, k1⟩)
  obtain ⟨w5, hw⟩ : ∃ w5, w5 = w1.alloc (.cells #[.int .i64 3, .int .i64 32, .int .u64 4294967295] 152) := ⟨_, rfl⟩
  have b := Blk.new w1 152 [.int .i64 3, .int .i64 32, .int .u64 4294967295]
  have k5 : Kp w w5 := by rw [hw]; exact k1.allocs _ _
  rw [← hw]
  have d0 : w5.drew.cell? ⟨w1.heap.size, 0, none⟩ = some (.int .i64 3) := by rw [hw]; exact b.at_ 0 _ rfl
  have d1 : w5.drew.cell? ⟨w1.heap.size, 1, none⟩ = some (.int .i64 32) := by rw [hw]; exact b.at_ 1 _ rfl
  have d2 : w5.drew.cell? ⟨w1.heap.size, 2, none⟩ = some (.int .u64 4294967295) := by rw [hw]; exact b.at_ 2 _ rfl
  have HQ : Hid (Calls Try.prog 82 #[.pointer (some ⟨g, 0, none⟩), .int .i64 3] w5.drew fun e w' => e = .returned (.int .u64 S.now) ∧ w' = w5.drew) := Lib.hid ((creadT_3 (HM.out.kp k5).drew).mono fun _ _ h => ⟨h.1, h.2.symm⟩)
  have K5 := Lib.hid k5
  clear b hw k5 k1
  refine wp_region_still_lit (by kernel_rfl) (by kernel_rfl) ?_
  with_reducible refine wpStill_step (fun K hK => ?_)
  go_simp
  with_reducible refine hK _ ?_
  clear hK K
  with_reducible refine wpStill_step (fun K hK => ?_)
  go_simp
  with_reducible refine hK _ ?_
  clear hK K
  with_reducible refine wpStill_step (fun K hK => ?_)
  go_simp
  with_reducible refine hK _ ?_
  clear hK K
  with_reducible refine wpStill_step (fun K hK => ?_)
  go_simp
  refine ⟨_, HQ.out, ?_⟩
  with_reducible refine hK _ ?_
  clear hK K
  with_reducible refine wpStill_step (fun K hK => ?_)
  go_simp
  with_reducible refine hK _ ?_
  clear hK K
  with_reducible refine wpStill_step (fun K hK => ?_)
  go_simp
  with_reducible refine hK _ ?_
  clear hK K
  with_reducible refine wpStill_step (fun K hK => ?_)
  go_simp
  with_reducible refine hK _ ?_
  clear hK K
  with_reducible refine wpStill_step (fun K hK => ?_)
  go_simp
  with_reducible refine hK _ ?_
  clear hK K
  with_reducible refine wpStill_step (fun K hK => ?_)
  go_simp
  with_reducible refine hK _ ?_
  clear hK K
  with_reducible refine wpStill_step (fun K hK => ?_)
  go_simp
  with_reducible refine hK _ ?_
  clear hK K
  with_reducible refine wpStill_step (fun K hK => ?_)
  go_simp
  with_reducible refine hK _ ?_
  clear hK K
  with_reducible refine wpStill_step (fun K hK => ?_)
  go_simp
  with_reducible refine hK _ ?_
  clear hK K
  with_reducible refine wpStill_nil ?_
  change Exit.then _ _ _ _ w5.drew
  go_wp2
  go_ret2
  exact ⟨ret_two HV.out rfl, K5.out.trans (Kp.refl w5).drew⟩
set_option maxHeartbeats 4000000 in
theorem cloadT_no (w : World) (g : Nat) (off size : Int) (h : rgT off size = false) :
    Calls Try.prog 79 #[.pointer (some ⟨g, 0, none⟩), .int .i64 off, .int .i64 size] w fun e w' => e = .returned (.tuple #[.int .u64 0, .bool false]) ∧ Kp w w' := by
  have HF := Lib.hid (cfindT_no w off size h)
  clear h
  go_enter Try.func79, Try.ntmps79
  go_wp2_with (go_at_call 81; (with_reducible refine HF.out.mono ?_); rintro e' w1 ⟨rfl, k1⟩; have K1 := Lib.hid k1; clear k1)
  go_ret2
  exact ⟨rfl, K1.out.allocs _ _⟩
set_option maxHeartbeats 4000000 in
theorem cstoreT_0_4 {w : World} {g : Nat} {S : TS} (m : CT w g S) (ok : S.Ok) (v : Int) (v0 : 0 ≤ v) (v1 : v < 18446744073709551616) :
    Calls Try.prog 80 #[.pointer (some ⟨g, 0, none⟩), .int .i64 0, .int .i64 4, .int .u64 v] w fun e w' => e = .returned (.bool true) ∧ CT w' g (S.put 0 4 v) ∧ Fr w w' (fun i => i = g) := by
  have HF := Lib.hid (cfindT_0_4 w)
  have HM := Lib.hid m
  have HW := Lib.hid (fun (w' : World) (k : Kp w w') (x : Int) => cwriteT_1 ((m.kp k).drew) x)
  have hx : bits .or .u64 (bits .andNot .u64 S.bell 1) (IntKind.u64.wrap (bits .and .u64 v 1)) = (if (v % 2 == 1) = true then 1 else 0) := by
    rw [not_one S.bell_bd.1 S.bell_bd.2, and_one v0 v1, show IntKind.u64.wrap (v % 2) = v % 2 by rw [IntKind.wrap_u64]; omega, or_none (by omega) (by omega)]; rcases (show v % 2 = 0 ∨ v % 2 = 1 by omega) with h | h <;> rw [h] <;> rfl
  have hp : S.put 0 4 v = { S with be := v % 2 == 1 } := rfl
  have hs : ∀ w', Kp w w' → CT (w'.drew.setCell ⟨g, 2, none⟩ (.int .u64 (if (v % 2 == 1) = true then 1 else 0))) g (S.put 0 4 v) := fun w' k => by
    rw [hp]; exact (m.kp k).drew.set2 (v % 2 == 1) _ rfl
  obtain ⟨y, hy⟩ : ∃ y : Int, y = (if (v % 2 == 1) = true then 1 else 0) := ⟨_, rfl⟩
  rw [← hy] at hx hs
  have HX := Lib.hid hx
  have HS := Lib.hid hs
  clear m v0 v1 hx hp hs hy
  go_enter Try.func80, Try.ntmps80
  go_upto_region 4 with (go_at_call 81; (with_reducible refine HF.out.mono ?_); rintro e' w1 ⟨rfl, k1⟩)
  obtain ⟨w5, hw⟩ : ∃ w5, w5 = w1.alloc (.cells #[.int .i64 1, .int .i64 0, .int .u64 1] 152) := ⟨_, rfl⟩
  have b := Blk.new w1 152 [.int .i64 1, .int .i64 0, .int .u64 1]
  have k5 : Kp w w5 := by rw [hw]; exact k1.allocs _ _
  rw [← hw]
  have d0 : w5.drew.cell? ⟨w1.heap.size, 0, none⟩ = some (.int .i64 1) := by rw [hw]; exact b.at_ 0 _ rfl
  have d1 : w5.drew.cell? ⟨w1.heap.size, 1, none⟩ = some (.int .i64 0) := by rw [hw]; exact b.at_ 1 _ rfl
  have d2 : w5.drew.cell? ⟨w1.heap.size, 2, none⟩ = some (.int .u64 1) := by rw [hw]; exact b.at_ 2 _ rfl
  have HQ : Hid (Calls Try.prog 82 #[.pointer (some ⟨g, 0, none⟩), .int .i64 1] w5.drew fun e w' => e = .returned (.int .u64 S.bell) ∧ w' = w5.drew) := Lib.hid ((creadT_1 (HM.out.kp k5).drew).mono fun _ _ h => ⟨h.1, h.2.symm⟩)
  have K5 := Lib.hid k5
  clear b hw k5 k1
  refine wp_region_still_tail 21 (by kernel_rfl) (by kernel_rfl) ?_
  simp only [List.take_succ_cons, List.take_zero, List.drop_succ_cons, List.drop_zero]
  with_reducible refine wpStill_step (fun K hK => ?_)
  go_simp
  with_reducible refine hK _ ?_
  clear hK K
  with_reducible refine wpStill_step (fun K hK => ?_)
  go_simp
  with_reducible refine hK _ ?_
  clear hK K
  with_reducible refine wpStill_step (fun K hK => ?_)
  go_simp
  with_reducible refine hK _ ?_
  clear hK K
  with_reducible refine wpStill_step (fun K hK => ?_)
  go_simp
  with_reducible refine hK _ ?_
  clear hK K
  with_reducible refine wpStill_step (fun K hK => ?_)
  go_simp
  with_reducible refine hK _ ?_
  clear hK K
  with_reducible refine wpStill_step (fun K hK => ?_)
  go_simp
  with_reducible refine hK _ ?_
  clear hK K
  with_reducible refine wpStill_step (fun K hK => ?_)
  go_simp
  refine ⟨_, HQ.out, ?_⟩
  with_reducible refine hK _ ?_
  clear hK K
  with_reducible refine wpStill_step (fun K hK => ?_)
  go_simp
  with_reducible refine hK _ ?_
  clear hK K
  with_reducible refine wpStill_step (fun K hK => ?_)
  go_simp
  with_reducible refine hK _ ?_
  clear hK K
  with_reducible refine wpStill_step (fun K hK => ?_)
  go_simp
  with_reducible refine hK _ ?_
  clear hK K
  with_reducible refine wpStill_step (fun K hK => ?_)
  go_simp
  with_reducible refine hK _ ?_
  clear hK K
  with_reducible refine wpStill_step (fun K hK => ?_)
  go_simp
  with_reducible refine hK _ ?_
  clear hK K
  with_reducible refine wpStill_step (fun K hK => ?_)
  go_simp
  with_reducible refine hK _ ?_
  clear hK K
  with_reducible refine wpStill_step (fun K hK => ?_)
  go_simp
  with_reducible refine hK _ ?_
  clear hK K
  with_reducible refine wpStill_step (fun K hK => ?_)
  go_simp
  with_reducible refine hK _ ?_
  clear hK K
  with_reducible refine wpStill_step (fun K hK => ?_)
  go_simp
  with_reducible refine hK _ ?_
  clear hK K
  with_reducible refine wpStill_step (fun K hK => ?_)
  go_simp
  with_reducible refine hK _ ?_
  clear hK K
  with_reducible refine wpStill_step (fun K hK => ?_)
  go_simp
  with_reducible refine hK _ ?_
  clear hK K
  with_reducible refine wpStill_step (fun K hK => ?_)
  go_simp
  with_reducible refine hK _ ?_
  clear hK K
  with_reducible refine wpStill_step (fun K hK => ?_)
  go_simp
  with_reducible refine hK _ ?_
  clear hK K
  with_reducible refine wpStill_step (fun K hK => ?_)
  go_simp
  with_reducible refine hK _ ?_
  clear hK K
  with_reducible refine wpStill_nil ?_
  change wpList _ _ _ _ _ w5.drew
  go_wp2_with (go_at_call 83; (with_reducible refine (HW.out _ K5.out _).mono ?_); rintro e' w2 ⟨rfl, hw2⟩; rw [HX.out] at hw2; subst hw2)
  go_ret
  exact ⟨rfl, HS.out _ K5.out, (((Fr.refl w (fun i => i = g)).kp K5.out).drew).setCell (p := ⟨g, 2, none⟩) (.inr rfl) _⟩
set_option maxHeartbeats 4000000 in
theorem cstoreT_16384_8 {w : World} {g : Nat} {S : TS} (m : CT w g S) (ok : S.Ok) (v : Int) (v0 : 0 ≤ v) (v1 : v < 18446744073709551616) :
    Calls Try.prog 80 #[.pointer (some ⟨g, 0, none⟩), .int .i64 16384, .int .i64 8, .int .u64 v] w fun e w' => e = .returned (.bool true) ∧ CT w' g (S.put 16384 8 v) ∧ Fr w w' (fun i => i = g) := by
  have HF := Lib.hid (cfindT_16384_8 w)
  have HM := Lib.hid m
  have HW := Lib.hid (fun (w' : World) (k : Kp w w') (x : Int) => cwriteT_2 ((m.kp k).drew) x)
  have hx : bits .or .u64 (bits .andNot .u64 S.al 18446744073709551615) (IntKind.u64.wrap (bits .and .u64 v 18446744073709551615)) = (laidT S.al v false 8) := by
    rw [not_all (by have := ok.a0; have := ok.a1; omega) (by have := ok.a0; have := ok.a1; omega), and_all v0 v1, show IntKind.u64.wrap v = v by rw [IntKind.wrap_u64]; omega, or_none v0 v1]; rfl
  have hp : S.put 16384 8 v = { S with al := (laidT S.al v false 8) } := rfl
  have hs : ∀ w', Kp w w' → CT (w'.drew.setCell ⟨g, 1, none⟩ (.int .u64 (laidT S.al v false 8))) g (S.put 16384 8 v) := fun w' k => by
    rw [hp]; exact (m.kp k).drew.set1 _
  obtain ⟨y, hy⟩ : ∃ y : Int, y = (laidT S.al v false 8) := ⟨_, rfl⟩
  rw [← hy] at hx hs
  have HX := Lib.hid hx
  have HS := Lib.hid hs
  clear m v0 v1 hx hp hs hy
  go_enter Try.func80, Try.ntmps80
  go_upto_region 4 with (go_at_call 81; (with_reducible refine HF.out.mono ?_); rintro e' w1 ⟨rfl, k1⟩)
  obtain ⟨w5, hw⟩ : ∃ w5, w5 = w1.alloc (.cells #[.int .i64 2, .int .i64 0, .int .u64 18446744073709551615] 152) := ⟨_, rfl⟩
  have b := Blk.new w1 152 [.int .i64 2, .int .i64 0, .int .u64 18446744073709551615]
  have k5 : Kp w w5 := by rw [hw]; exact k1.allocs _ _
  rw [← hw]
  have d0 : w5.drew.cell? ⟨w1.heap.size, 0, none⟩ = some (.int .i64 2) := by rw [hw]; exact b.at_ 0 _ rfl
  have d1 : w5.drew.cell? ⟨w1.heap.size, 1, none⟩ = some (.int .i64 0) := by rw [hw]; exact b.at_ 1 _ rfl
  have d2 : w5.drew.cell? ⟨w1.heap.size, 2, none⟩ = some (.int .u64 18446744073709551615) := by rw [hw]; exact b.at_ 2 _ rfl
  have HQ : Hid (Calls Try.prog 82 #[.pointer (some ⟨g, 0, none⟩), .int .i64 2] w5.drew fun e w' => e = .returned (.int .u64 S.al) ∧ w' = w5.drew) := Lib.hid ((creadT_2 (HM.out.kp k5).drew).mono fun _ _ h => ⟨h.1, h.2.symm⟩)
  have K5 := Lib.hid k5
  clear b hw k5 k1
  refine wp_region_still_tail 21 (by kernel_rfl) (by kernel_rfl) ?_
  simp only [List.take_succ_cons, List.take_zero, List.drop_succ_cons, List.drop_zero]
  with_reducible refine wpStill_step (fun K hK => ?_)
  go_simp
  with_reducible refine hK _ ?_
  clear hK K
  with_reducible refine wpStill_step (fun K hK => ?_)
  go_simp
  with_reducible refine hK _ ?_
  clear hK K
  with_reducible refine wpStill_step (fun K hK => ?_)
  go_simp
  with_reducible refine hK _ ?_
  clear hK K
  with_reducible refine wpStill_step (fun K hK => ?_)
  go_simp
  with_reducible refine hK _ ?_
  clear hK K
  with_reducible refine wpStill_step (fun K hK => ?_)
  go_simp
  with_reducible refine hK _ ?_
  clear hK K
  with_reducible refine wpStill_step (fun K hK => ?_)
  go_simp
  with_reducible refine hK _ ?_
  clear hK K
  with_reducible refine wpStill_step (fun K hK => ?_)
  go_simp
  refine ⟨_, HQ.out, ?_⟩
  with_reducible refine hK _ ?_
  clear hK K
  with_reducible refine wpStill_step (fun K hK => ?_)
  go_simp
  with_reducible refine hK _ ?_
  clear hK K
  with_reducible refine wpStill_step (fun K hK => ?_)
  go_simp
  with_reducible refine hK _ ?_
  clear hK K
  with_reducible refine wpStill_step (fun K hK => ?_)
  go_simp
  with_reducible refine hK _ ?_
  clear hK K
  with_reducible refine wpStill_step (fun K hK => ?_)
  go_simp
  with_reducible refine hK _ ?_
  clear hK K
  with_reducible refine wpStill_step (fun K hK => ?_)
  go_simp
  with_reducible refine hK _ ?_
  clear hK K
  with_reducible refine wpStill_step (fun K hK => ?_)
  go_simp
  with_reducible refine hK _ ?_
  clear hK K
  with_reducible refine wpStill_step (fun K hK => ?_)
  go_simp
  with_reducible refine hK _ ?_
  clear hK K
  with_reducible refine wpStill_step (fun K hK => ?_)
  go_simp
  with_reducible refine hK _ ?_
  clear hK K
  with_reducible refine wpStill_step (fun K hK => ?_)
  go_simp
  with_reducible refine hK _ ?_
  clear hK K
  with_reducible refine wpStill_step (fun K hK => ?_)
  go_simp
  with_reducible refine hK _ ?_
  clear hK K
  with_reducible refine wpStill_step (fun K hK => ?_)
  go_simp
  with_reducible refine hK _ ?_
  clear hK K
  with_reducible refine wpStill_step (fun K hK => ?_)
  go_simp
  with_reducible refine hK _ ?_
  clear hK K
  with_reducible refine wpStill_step (fun K hK => ?_)
  go_simp
  with_reducible refine hK _ ?_
  clear hK K
  with_reducible refine wpStill_step (fun K hK => ?_)
  go_simp
  with_reducible refine hK _ ?_
  clear hK K
  with_reducible refine wpStill_nil ?_
  change wpList _ _ _ _ _ w5.drew
  go_wp2_with (go_at_call 83; (with_reducible refine (HW.out _ K5.out _).mono ?_); rintro e' w2 ⟨rfl, hw2⟩; rw [HX.out] at hw2; subst hw2)
  go_ret
  exact ⟨rfl, HS.out _ K5.out, (((Fr.refl w (fun i => i = g)).kp K5.out).drew).setCell (p := ⟨g, 1, none⟩) (.inr rfl) _⟩
set_option maxHeartbeats 4000000 in
theorem cstoreT_16384_4 {w : World} {g : Nat} {S : TS} (m : CT w g S) (ok : S.Ok) (v : Int) (v0 : 0 ≤ v) (v1 : v < 18446744073709551616) :
    Calls Try.prog 80 #[.pointer (some ⟨g, 0, none⟩), .int .i64 16384, .int .i64 4, .int .u64 v] w fun e w' => e = .returned (.bool true) ∧ CT w' g (S.put 16384 4 v) ∧ Fr w w' (fun i => i = g) := by
  have HF := Lib.hid (cfindT_16384_4 w)
  have HM := Lib.hid m
  have HW := Lib.hid (fun (w' : World) (k : Kp w w') (x : Int) => cwriteT_2 ((m.kp k).drew) x)
  have hx : bits .or .u64 (bits .andNot .u64 S.al 4294967295) (IntKind.u64.wrap (bits .and .u64 v 4294967295)) = (laidT S.al v false 4) := by
    rw [not_low (by have := ok.a0; have := ok.a1; omega) (by have := ok.a0; have := ok.a1; omega), and_half v0 v1, show IntKind.u64.wrap (v % 4294967296) = v % 4294967296 by rw [IntKind.wrap_u64]; omega]; exact low_word' (by have := ok.a0; have := ok.a1; omega) (by have := ok.a0; have := ok.a1; omega) v0 v1
  have hp : S.put 16384 4 v = { S with al := (laidT S.al v false 4) } := rfl
  have hs : ∀ w', Kp w w' → CT (w'.drew.setCell ⟨g, 1, none⟩ (.int .u64 (laidT S.al v false 4))) g (S.put 16384 4 v) := fun w' k => by
    rw [hp]; exact (m.kp k).drew.set1 _
  obtain ⟨y, hy⟩ : ∃ y : Int, y = (laidT S.al v false 4) := ⟨_, rfl⟩
  rw [← hy] at hx hs
  have HX := Lib.hid hx
  have HS := Lib.hid hs
  clear m v0 v1 hx hp hs hy
  go_enter Try.func80, Try.ntmps80
  go_upto_region 4 with (go_at_call 81; (with_reducible refine HF.out.mono ?_); rintro e' w1 ⟨rfl, k1⟩)
  obtain ⟨w5, hw⟩ : ∃ w5, w5 = w1.alloc (.cells #[.int .i64 2, .int .i64 0, .int .u64 4294967295] 152) := ⟨_, rfl⟩
  have b := Blk.new w1 152 [.int .i64 2, .int .i64 0, .int .u64 4294967295]
  have k5 : Kp w w5 := by rw [hw]; exact k1.allocs _ _
  rw [← hw]
  have d0 : w5.drew.cell? ⟨w1.heap.size, 0, none⟩ = some (.int .i64 2) := by rw [hw]; exact b.at_ 0 _ rfl
  have d1 : w5.drew.cell? ⟨w1.heap.size, 1, none⟩ = some (.int .i64 0) := by rw [hw]; exact b.at_ 1 _ rfl
  have d2 : w5.drew.cell? ⟨w1.heap.size, 2, none⟩ = some (.int .u64 4294967295) := by rw [hw]; exact b.at_ 2 _ rfl
  have HQ : Hid (Calls Try.prog 82 #[.pointer (some ⟨g, 0, none⟩), .int .i64 2] w5.drew fun e w' => e = .returned (.int .u64 S.al) ∧ w' = w5.drew) := Lib.hid ((creadT_2 (HM.out.kp k5).drew).mono fun _ _ h => ⟨h.1, h.2.symm⟩)
  have K5 := Lib.hid k5
  clear b hw k5 k1
  refine wp_region_still_tail 21 (by kernel_rfl) (by kernel_rfl) ?_
  simp only [List.take_succ_cons, List.take_zero, List.drop_succ_cons, List.drop_zero]
  with_reducible refine wpStill_step (fun K hK => ?_)
  go_simp
  with_reducible refine hK _ ?_
  clear hK K
  with_reducible refine wpStill_step (fun K hK => ?_)
  go_simp
  with_reducible refine hK _ ?_
  clear hK K
  with_reducible refine wpStill_step (fun K hK => ?_)
  go_simp
  with_reducible refine hK _ ?_
  clear hK K
  with_reducible refine wpStill_step (fun K hK => ?_)
  go_simp
  with_reducible refine hK _ ?_
  clear hK K
  with_reducible refine wpStill_step (fun K hK => ?_)
  go_simp
  with_reducible refine hK _ ?_
  clear hK K
  with_reducible refine wpStill_step (fun K hK => ?_)
  go_simp
  with_reducible refine hK _ ?_
  clear hK K
  with_reducible refine wpStill_step (fun K hK => ?_)
  go_simp
  refine ⟨_, HQ.out, ?_⟩
  with_reducible refine hK _ ?_
  clear hK K
  with_reducible refine wpStill_step (fun K hK => ?_)
  go_simp
  with_reducible refine hK _ ?_
  clear hK K
  with_reducible refine wpStill_step (fun K hK => ?_)
  go_simp
  with_reducible refine hK _ ?_
  clear hK K
  with_reducible refine wpStill_step (fun K hK => ?_)
  go_simp
  with_reducible refine hK _ ?_
  clear hK K
  with_reducible refine wpStill_step (fun K hK => ?_)
  go_simp
  with_reducible refine hK _ ?_
  clear hK K
  with_reducible refine wpStill_step (fun K hK => ?_)
  go_simp
  with_reducible refine hK _ ?_
  clear hK K
  with_reducible refine wpStill_step (fun K hK => ?_)
  go_simp
  with_reducible refine hK _ ?_
  clear hK K
  with_reducible refine wpStill_step (fun K hK => ?_)
  go_simp
  with_reducible refine hK _ ?_
  clear hK K
  with_reducible refine wpStill_step (fun K hK => ?_)
  go_simp
  with_reducible refine hK _ ?_
  clear hK K
  with_reducible refine wpStill_step (fun K hK => ?_)
  go_simp
  with_reducible refine hK _ ?_
  clear hK K
  with_reducible refine wpStill_step (fun K hK => ?_)
  go_simp
  with_reducible refine hK _ ?_
  clear hK K
  with_reducible refine wpStill_step (fun K hK => ?_)
  go_simp
  with_reducible refine hK _ ?_
  clear hK K
  with_reducible refine wpStill_step (fun K hK => ?_)
  go_simp
  with_reducible refine hK _ ?_
  clear hK K
  with_reducible refine wpStill_step (fun K hK => ?_)
  go_simp
  with_reducible refine hK _ ?_
  clear hK K
  with_reducible refine wpStill_step (fun K hK => ?_)
  go_simp
  with_reducible refine hK _ ?_
  clear hK K
  with_reducible refine wpStill_nil ?_
  change wpList _ _ _ _ _ w5.drew
  go_wp2_with (go_at_call 83; (with_reducible refine (HW.out _ K5.out _).mono ?_); rintro e' w2 ⟨rfl, hw2⟩; rw [HX.out] at hw2; subst hw2)
  go_ret
  exact ⟨rfl, HS.out _ K5.out, (((Fr.refl w (fun i => i = g)).kp K5.out).drew).setCell (p := ⟨g, 1, none⟩) (.inr rfl) _⟩
set_option maxHeartbeats 4000000 in
theorem cstoreT_16388_4 {w : World} {g : Nat} {S : TS} (m : CT w g S) (ok : S.Ok) (v : Int) (v0 : 0 ≤ v) (v1 : v < 18446744073709551616) :
    Calls Try.prog 80 #[.pointer (some ⟨g, 0, none⟩), .int .i64 16388, .int .i64 4, .int .u64 v] w fun e w' => e = .returned (.bool true) ∧ CT w' g (S.put 16388 4 v) ∧ Fr w w' (fun i => i = g) := by
  have HF := Lib.hid (cfindT_16388_4 w)
  have HM := Lib.hid m
  have HW := Lib.hid (fun (w' : World) (k : Kp w w') (x : Int) => cwriteT_2 ((m.kp k).drew) x)
  have hx : bits .or .u64 (bits .andNot .u64 S.al 18446744069414584320) (IntKind.u64.wrap (bits .and .u64 v 4294967295 * 4294967296)) = (laidT S.al v true 4) := by
    rw [not_high (by have := ok.a0; have := ok.a1; omega) (by have := ok.a0; have := ok.a1; omega), and_half v0 v1, show IntKind.u64.wrap (v % 4294967296 * 4294967296) = IntKind.u64.wrap (v * 4294967296) by rw [IntKind.wrap_u64, IntKind.wrap_u64]; omega]; exact up_word (by have := ok.a0; have := ok.a1; omega) (by have := ok.a0; have := ok.a1; omega) v0 v1
  have hp : S.put 16388 4 v = { S with al := (laidT S.al v true 4) } := rfl
  have hs : ∀ w', Kp w w' → CT (w'.drew.setCell ⟨g, 1, none⟩ (.int .u64 (laidT S.al v true 4))) g (S.put 16388 4 v) := fun w' k => by
    rw [hp]; exact (m.kp k).drew.set1 _
  obtain ⟨y, hy⟩ : ∃ y : Int, y = (laidT S.al v true 4) := ⟨_, rfl⟩
  rw [← hy] at hx hs
  have HX := Lib.hid hx
  have HS := Lib.hid hs
  clear m v0 v1 hx hp hs hy
  go_enter Try.func80, Try.ntmps80
  go_upto_region 4 with (go_at_call 81; (with_reducible refine HF.out.mono ?_); rintro e' w1 ⟨rfl, k1⟩)
  obtain ⟨w5, hw⟩ : ∃ w5, w5 = w1.alloc (.cells #[.int .i64 2, .int .i64 32, .int .u64 4294967295] 152) := ⟨_, rfl⟩
  have b := Blk.new w1 152 [.int .i64 2, .int .i64 32, .int .u64 4294967295]
  have k5 : Kp w w5 := by rw [hw]; exact k1.allocs _ _
  rw [← hw]
  have d0 : w5.drew.cell? ⟨w1.heap.size, 0, none⟩ = some (.int .i64 2) := by rw [hw]; exact b.at_ 0 _ rfl
  have d1 : w5.drew.cell? ⟨w1.heap.size, 1, none⟩ = some (.int .i64 32) := by rw [hw]; exact b.at_ 1 _ rfl
  have d2 : w5.drew.cell? ⟨w1.heap.size, 2, none⟩ = some (.int .u64 4294967295) := by rw [hw]; exact b.at_ 2 _ rfl
  have HQ : Hid (Calls Try.prog 82 #[.pointer (some ⟨g, 0, none⟩), .int .i64 2] w5.drew fun e w' => e = .returned (.int .u64 S.al) ∧ w' = w5.drew) := Lib.hid ((creadT_2 (HM.out.kp k5).drew).mono fun _ _ h => ⟨h.1, h.2.symm⟩)
  have K5 := Lib.hid k5
  clear b hw k5 k1
  refine wp_region_still_tail 21 (by kernel_rfl) (by kernel_rfl) ?_
  simp only [List.take_succ_cons, List.take_zero, List.drop_succ_cons, List.drop_zero]
  with_reducible refine wpStill_step (fun K hK => ?_)
  go_simp
  with_reducible refine hK _ ?_
  clear hK K
  with_reducible refine wpStill_step (fun K hK => ?_)
  go_simp
  with_reducible refine hK _ ?_
  clear hK K
  with_reducible refine wpStill_step (fun K hK => ?_)
  go_simp
  with_reducible refine hK _ ?_
  clear hK K
  with_reducible refine wpStill_step (fun K hK => ?_)
  go_simp
  with_reducible refine hK _ ?_
  clear hK K
  with_reducible refine wpStill_step (fun K hK => ?_)
  go_simp
  with_reducible refine hK _ ?_
  clear hK K
  with_reducible refine wpStill_step (fun K hK => ?_)
  go_simp
  with_reducible refine hK _ ?_
  clear hK K
  with_reducible refine wpStill_step (fun K hK => ?_)
  go_simp
  refine ⟨_, HQ.out, ?_⟩
  with_reducible refine hK _ ?_
  clear hK K
  with_reducible refine wpStill_step (fun K hK => ?_)
  go_simp
  with_reducible refine hK _ ?_
  clear hK K
  with_reducible refine wpStill_step (fun K hK => ?_)
  go_simp
  with_reducible refine hK _ ?_
  clear hK K
  with_reducible refine wpStill_step (fun K hK => ?_)
  go_simp
  with_reducible refine hK _ ?_
  clear hK K
  with_reducible refine wpStill_step (fun K hK => ?_)
  go_simp
  with_reducible refine hK _ ?_
  clear hK K
  with_reducible refine wpStill_step (fun K hK => ?_)
  go_simp
  with_reducible refine hK _ ?_
  clear hK K
  with_reducible refine wpStill_step (fun K hK => ?_)
  go_simp
  with_reducible refine hK _ ?_
  clear hK K
  with_reducible refine wpStill_step (fun K hK => ?_)
  go_simp
  with_reducible refine hK _ ?_
  clear hK K
  with_reducible refine wpStill_step (fun K hK => ?_)
  go_simp
  with_reducible refine hK _ ?_
  clear hK K
  with_reducible refine wpStill_step (fun K hK => ?_)
  go_simp
  with_reducible refine hK _ ?_
  clear hK K
  with_reducible refine wpStill_step (fun K hK => ?_)
  go_simp
  with_reducible refine hK _ ?_
  clear hK K
  with_reducible refine wpStill_step (fun K hK => ?_)
  go_simp
  with_reducible refine hK _ ?_
  clear hK K
  with_reducible refine wpStill_step (fun K hK => ?_)
  go_simp
  with_reducible refine hK _ ?_
  clear hK K
  with_reducible refine wpStill_step (fun K hK => ?_)
  go_simp
  with_reducible refine hK _ ?_
  clear hK K
  with_reducible refine wpStill_step (fun K hK => ?_)
  go_simp
  with_reducible refine hK _ ?_
  clear hK K
  with_reducible refine wpStill_nil ?_
  change wpList _ _ _ _ _ w5.drew
  go_wp2_with (go_at_call 83; (with_reducible refine (HW.out _ K5.out _).mono ?_); rintro e' w2 ⟨rfl, hw2⟩; rw [HX.out] at hw2; subst hw2)
  go_ret
  exact ⟨rfl, HS.out _ K5.out, (((Fr.refl w (fun i => i = g)).kp K5.out).drew).setCell (p := ⟨g, 1, none⟩) (.inr rfl) _⟩
set_option maxHeartbeats 4000000 in
theorem cstoreT_49144_8 {w : World} {g : Nat} {S : TS} (m : CT w g S) (ok : S.Ok) (v : Int) (v0 : 0 ≤ v) (v1 : v < 18446744073709551616) :
    Calls Try.prog 80 #[.pointer (some ⟨g, 0, none⟩), .int .i64 49144, .int .i64 8, .int .u64 v] w fun e w' => e = .returned (.bool true) ∧ CT w' g (S.put 49144 8 v) ∧ Fr w w' (fun i => i = g) := by
  have HF := Lib.hid (cfindT_49144_8 w)
  have HM := Lib.hid m
  have HW := Lib.hid (fun (w' : World) (k : Kp w w') (x : Int) => cwriteT_3 ((m.kp k).drew) x)
  have hx : bits .or .u64 (bits .andNot .u64 S.now 18446744073709551615) (IntKind.u64.wrap (bits .and .u64 v 18446744073709551615)) = (laidT S.now v false 8) := by
    rw [not_all (by have := ok.n0; have := ok.n1; omega) (by have := ok.n0; have := ok.n1; omega), and_all v0 v1, show IntKind.u64.wrap v = v by rw [IntKind.wrap_u64]; omega, or_none v0 v1]; rfl
  have hp : S.put 49144 8 v = { S with now := (laidT S.now v false 8) } := rfl
  have hs : ∀ w', Kp w w' → CT (w'.drew.setCell ⟨g, 0, none⟩ (.int .u64 (laidT S.now v false 8))) g (S.put 49144 8 v) := fun w' k => by
    rw [hp]; exact (m.kp k).drew.set0 _
  obtain ⟨y, hy⟩ : ∃ y : Int, y = (laidT S.now v false 8) := ⟨_, rfl⟩
  rw [← hy] at hx hs
  have HX := Lib.hid hx
  have HS := Lib.hid hs
  clear m v0 v1 hx hp hs hy
  go_enter Try.func80, Try.ntmps80
  go_upto_region 4 with (go_at_call 81; (with_reducible refine HF.out.mono ?_); rintro e' w1 ⟨rfl, k1⟩)
  obtain ⟨w5, hw⟩ : ∃ w5, w5 = w1.alloc (.cells #[.int .i64 3, .int .i64 0, .int .u64 18446744073709551615] 152) := ⟨_, rfl⟩
  have b := Blk.new w1 152 [.int .i64 3, .int .i64 0, .int .u64 18446744073709551615]
  have k5 : Kp w w5 := by rw [hw]; exact k1.allocs _ _
  rw [← hw]
  have d0 : w5.drew.cell? ⟨w1.heap.size, 0, none⟩ = some (.int .i64 3) := by rw [hw]; exact b.at_ 0 _ rfl
  have d1 : w5.drew.cell? ⟨w1.heap.size, 1, none⟩ = some (.int .i64 0) := by rw [hw]; exact b.at_ 1 _ rfl
  have d2 : w5.drew.cell? ⟨w1.heap.size, 2, none⟩ = some (.int .u64 18446744073709551615) := by rw [hw]; exact b.at_ 2 _ rfl
  have HQ : Hid (Calls Try.prog 82 #[.pointer (some ⟨g, 0, none⟩), .int .i64 3] w5.drew fun e w' => e = .returned (.int .u64 S.now) ∧ w' = w5.drew) := Lib.hid ((creadT_3 (HM.out.kp k5).drew).mono fun _ _ h => ⟨h.1, h.2.symm⟩)
  have K5 := Lib.hid k5
  clear b hw k5 k1
  refine wp_region_still_tail 21 (by kernel_rfl) (by kernel_rfl) ?_
  simp only [List.take_succ_cons, List.take_zero, List.drop_succ_cons, List.drop_zero]
  with_reducible refine wpStill_step (fun K hK => ?_)
  go_simp
  with_reducible refine hK _ ?_
  clear hK K
  with_reducible refine wpStill_step (fun K hK => ?_)
  go_simp
  with_reducible refine hK _ ?_
  clear hK K
  with_reducible refine wpStill_step (fun K hK => ?_)
  go_simp
  with_reducible refine hK _ ?_
  clear hK K
  with_reducible refine wpStill_step (fun K hK => ?_)
  go_simp
  with_reducible refine hK _ ?_
  clear hK K
  with_reducible refine wpStill_step (fun K hK => ?_)
  go_simp
  with_reducible refine hK _ ?_
  clear hK K
  with_reducible refine wpStill_step (fun K hK => ?_)
  go_simp
  with_reducible refine hK _ ?_
  clear hK K
  with_reducible refine wpStill_step (fun K hK => ?_)
  go_simp
  refine ⟨_, HQ.out, ?_⟩
  with_reducible refine hK _ ?_
  clear hK K
  with_reducible refine wpStill_step (fun K hK => ?_)
  go_simp
  with_reducible refine hK _ ?_
  clear hK K
  with_reducible refine wpStill_step (fun K hK => ?_)
  go_simp
  with_reducible refine hK _ ?_
  clear hK K
  with_reducible refine wpStill_step (fun K hK => ?_)
  go_simp
  with_reducible refine hK _ ?_
  clear hK K
  with_reducible refine wpStill_step (fun K hK => ?_)
  go_simp
  with_reducible refine hK _ ?_
  clear hK K
  with_reducible refine wpStill_step (fun K hK => ?_)
  go_simp
  with_reducible refine hK _ ?_
  clear hK K
  with_reducible refine wpStill_step (fun K hK => ?_)
  go_simp
  with_reducible refine hK _ ?_
  clear hK K
  with_reducible refine wpStill_step (fun K hK => ?_)
  go_simp
  with_reducible refine hK _ ?_
  clear hK K
  with_reducible refine wpStill_step (fun K hK => ?_)
  go_simp
  with_reducible refine hK _ ?_
  clear hK K
  with_reducible refine wpStill_step (fun K hK => ?_)
  go_simp
  with_reducible refine hK _ ?_
  clear hK K
  with_reducible refine wpStill_step (fun K hK => ?_)
  go_simp
  with_reducible refine hK _ ?_
  clear hK K
  with_reducible refine wpStill_step (fun K hK => ?_)
  go_simp
  with_reducible refine hK _ ?_
  clear hK K
  with_reducible refine wpStill_step (fun K hK => ?_)
  go_simp
  with_reducible refine hK _ ?_
  clear hK K
  with_reducible refine wpStill_step (fun K hK => ?_)
  go_simp
  with_reducible refine hK _ ?_
  clear hK K
  with_reducible refine wpStill_step (fun K hK => ?_)
  go_simp
  with_reducible refine hK _ ?_
  clear hK K
  with_reducible refine wpStill_nil ?_
  change wpList _ _ _ _ _ w5.drew
  go_wp2_with (go_at_call 83; (with_reducible refine (HW.out _ K5.out _).mono ?_); rintro e' w2 ⟨rfl, hw2⟩; rw [HX.out] at hw2; subst hw2)
  go_ret
  exact ⟨rfl, HS.out _ K5.out, (((Fr.refl w (fun i => i = g)).kp K5.out).drew).setCell (p := ⟨g, 0, none⟩) (.inr rfl) _⟩
set_option maxHeartbeats 4000000 in
theorem cstoreT_49144_4 {w : World} {g : Nat} {S : TS} (m : CT w g S) (ok : S.Ok) (v : Int) (v0 : 0 ≤ v) (v1 : v < 18446744073709551616) :
    Calls Try.prog 80 #[.pointer (some ⟨g, 0, none⟩), .int .i64 49144, .int .i64 4, .int .u64 v] w fun e w' => e = .returned (.bool true) ∧ CT w' g (S.put 49144 4 v) ∧ Fr w w' (fun i => i = g) := by
  have HF := Lib.hid (cfindT_49144_4 w)
  have HM := Lib.hid m
  have HW := Lib.hid (fun (w' : World) (k : Kp w w') (x : Int) => cwriteT_3 ((m.kp k).drew) x)
  have hx : bits .or .u64 (bits .andNot .u64 S.now 4294967295) (IntKind.u64.wrap (bits .and .u64 v 4294967295)) = (laidT S.now v false 4) := by
    rw [not_low (by have := ok.n0; have := ok.n1; omega) (by have := ok.n0; have := ok.n1; omega), and_half v0 v1, show IntKind.u64.wrap (v % 4294967296) = v % 4294967296 by rw [IntKind.wrap_u64]; omega]; exact low_word' (by have := ok.n0; have := ok.n1; omega) (by have := ok.n0; have := ok.n1; omega) v0 v1
  have hp : S.put 49144 4 v = { S with now := (laidT S.now v false 4) } := rfl
  have hs : ∀ w', Kp w w' → CT (w'.drew.setCell ⟨g, 0, none⟩ (.int .u64 (laidT S.now v false 4))) g (S.put 49144 4 v) := fun w' k => by
    rw [hp]; exact (m.kp k).drew.set0 _
  obtain ⟨y, hy⟩ : ∃ y : Int, y = (laidT S.now v false 4) := ⟨_, rfl⟩
  rw [← hy] at hx hs
  have HX := Lib.hid hx
  have HS := Lib.hid hs
  clear m v0 v1 hx hp hs hy
  go_enter Try.func80, Try.ntmps80
  go_upto_region 4 with (go_at_call 81; (with_reducible refine HF.out.mono ?_); rintro e' w1 ⟨rfl, k1⟩)
  obtain ⟨w5, hw⟩ : ∃ w5, w5 = w1.alloc (.cells #[.int .i64 3, .int .i64 0, .int .u64 4294967295] 152) := ⟨_, rfl⟩
  have b := Blk.new w1 152 [.int .i64 3, .int .i64 0, .int .u64 4294967295]
  have k5 : Kp w w5 := by rw [hw]; exact k1.allocs _ _
  rw [← hw]
  have d0 : w5.drew.cell? ⟨w1.heap.size, 0, none⟩ = some (.int .i64 3) := by rw [hw]; exact b.at_ 0 _ rfl
  have d1 : w5.drew.cell? ⟨w1.heap.size, 1, none⟩ = some (.int .i64 0) := by rw [hw]; exact b.at_ 1 _ rfl
  have d2 : w5.drew.cell? ⟨w1.heap.size, 2, none⟩ = some (.int .u64 4294967295) := by rw [hw]; exact b.at_ 2 _ rfl
  have HQ : Hid (Calls Try.prog 82 #[.pointer (some ⟨g, 0, none⟩), .int .i64 3] w5.drew fun e w' => e = .returned (.int .u64 S.now) ∧ w' = w5.drew) := Lib.hid ((creadT_3 (HM.out.kp k5).drew).mono fun _ _ h => ⟨h.1, h.2.symm⟩)
  have K5 := Lib.hid k5
  clear b hw k5 k1
  refine wp_region_still_tail 21 (by kernel_rfl) (by kernel_rfl) ?_
  simp only [List.take_succ_cons, List.take_zero, List.drop_succ_cons, List.drop_zero]
  with_reducible refine wpStill_step (fun K hK => ?_)
  go_simp
  with_reducible refine hK _ ?_
  clear hK K
  with_reducible refine wpStill_step (fun K hK => ?_)
  go_simp
  with_reducible refine hK _ ?_
  clear hK K
  with_reducible refine wpStill_step (fun K hK => ?_)
  go_simp
  with_reducible refine hK _ ?_
  clear hK K
  with_reducible refine wpStill_step (fun K hK => ?_)
  go_simp
  with_reducible refine hK _ ?_
  clear hK K
  with_reducible refine wpStill_step (fun K hK => ?_)
  go_simp
  with_reducible refine hK _ ?_
  clear hK K
  with_reducible refine wpStill_step (fun K hK => ?_)
  go_simp
  with_reducible refine hK _ ?_
  clear hK K
  with_reducible refine wpStill_step (fun K hK => ?_)
  go_simp
  refine ⟨_, HQ.out, ?_⟩
  with_reducible refine hK _ ?_
  clear hK K
  with_reducible refine wpStill_step (fun K hK => ?_)
  go_simp
  with_reducible refine hK _ ?_
  clear hK K
  with_reducible refine wpStill_step (fun K hK => ?_)
  go_simp
  with_reducible refine hK _ ?_
  clear hK K
  with_reducible refine wpStill_step (fun K hK => ?_)
  go_simp
  with_reducible refine hK _ ?_
  clear hK K
  with_reducible refine wpStill_step (fun K hK => ?_)
  go_simp
  with_reducible refine hK _ ?_
  clear hK K
  with_reducible refine wpStill_step (fun K hK => ?_)
  go_simp
  with_reducible refine hK _ ?_
  clear hK K
  with_reducible refine wpStill_step (fun K hK => ?_)
  go_simp
  with_reducible refine hK _ ?_
  clear hK K
  with_reducible refine wpStill_step (fun K hK => ?_)
  go_simp
  with_reducible refine hK _ ?_
  clear hK K
  with_reducible refine wpStill_step (fun K hK => ?_)
  go_simp
  with_reducible refine hK _ ?_
  clear hK K
  with_reducible refine wpStill_step (fun K hK => ?_)
  go_simp
  with_reducible refine hK _ ?_
  clear hK K
  with_reducible refine wpStill_step (fun K hK => ?_)
  go_simp
  with_reducible refine hK _ ?_
  clear hK K
  with_reducible refine wpStill_step (fun K hK => ?_)
  go_simp
  with_reducible refine hK _ ?_
  clear hK K
  with_reducible refine wpStill_step (fun K hK => ?_)
  go_simp
  with_reducible refine hK _ ?_
  clear hK K
  with_reducible refine wpStill_step (fun K hK => ?_)
  go_simp
  with_reducible refine hK _ ?_
  clear hK K
  with_reducible refine wpStill_step (fun K hK => ?_)
  go_simp
  with_reducible refine hK _ ?_
  clear hK K
  with_reducible refine wpStill_nil ?_
  change wpList _ _ _ _ _ w5.drew
  go_wp2_with (go_at_call 83; (with_reducible refine (HW.out _ K5.out _).mono ?_); rintro e' w2 ⟨rfl, hw2⟩; rw [HX.out] at hw2; subst hw2)
  go_ret
  exact ⟨rfl, HS.out _ K5.out, (((Fr.refl w (fun i => i = g)).kp K5.out).drew).setCell (p := ⟨g, 0, none⟩) (.inr rfl) _⟩
set_option maxHeartbeats 4000000 in
theorem cstoreT_49148_4 {w : World} {g : Nat} {S : TS} (m : CT w g S) (ok : S.Ok) (v : Int) (v0 : 0 ≤ v) (v1 : v < 18446744073709551616) :
    Calls Try.prog 80 #[.pointer (some ⟨g, 0, none⟩), .int .i64 49148, .int .i64 4, .int .u64 v] w fun e w' => e = .returned (.bool true) ∧ CT w' g (S.put 49148 4 v) ∧ Fr w w' (fun i => i = g) := by
  have HF := Lib.hid (cfindT_49148_4 w)
  have HM := Lib.hid m
  have HW := Lib.hid (fun (w' : World) (k : Kp w w') (x : Int) => cwriteT_3 ((m.kp k).drew) x)
  have hx : bits .or .u64 (bits .andNot .u64 S.now 18446744069414584320) (IntKind.u64.wrap (bits .and .u64 v 4294967295 * 4294967296)) = (laidT S.now v true 4) := by
    rw [not_high (by have := ok.n0; have := ok.n1; omega) (by have := ok.n0; have := ok.n1; omega), and_half v0 v1, show IntKind.u64.wrap (v % 4294967296 * 4294967296) = IntKind.u64.wrap (v * 4294967296) by rw [IntKind.wrap_u64, IntKind.wrap_u64]; omega]; exact up_word (by have := ok.n0; have := ok.n1; omega) (by have := ok.n0; have := ok.n1; omega) v0 v1
  have hp : S.put 49148 4 v = { S with now := (laidT S.now v true 4) } := rfl
  have hs : ∀ w', Kp w w' → CT (w'.drew.setCell ⟨g, 0, none⟩ (.int .u64 (laidT S.now v true 4))) g (S.put 49148 4 v) := fun w' k => by
    rw [hp]; exact (m.kp k).drew.set0 _
  obtain ⟨y, hy⟩ : ∃ y : Int, y = (laidT S.now v true 4) := ⟨_, rfl⟩
  rw [← hy] at hx hs
  have HX := Lib.hid hx
  have HS := Lib.hid hs
  clear m v0 v1 hx hp hs hy
  go_enter Try.func80, Try.ntmps80
  go_upto_region 4 with (go_at_call 81; (with_reducible refine HF.out.mono ?_); rintro e' w1 ⟨rfl, k1⟩)
  obtain ⟨w5, hw⟩ : ∃ w5, w5 = w1.alloc (.cells #[.int .i64 3, .int .i64 32, .int .u64 4294967295] 152) := ⟨_, rfl⟩
  have b := Blk.new w1 152 [.int .i64 3, .int .i64 32, .int .u64 4294967295]
  have k5 : Kp w w5 := by rw [hw]; exact k1.allocs _ _
  rw [← hw]
  have d0 : w5.drew.cell? ⟨w1.heap.size, 0, none⟩ = some (.int .i64 3) := by rw [hw]; exact b.at_ 0 _ rfl
  have d1 : w5.drew.cell? ⟨w1.heap.size, 1, none⟩ = some (.int .i64 32) := by rw [hw]; exact b.at_ 1 _ rfl
  have d2 : w5.drew.cell? ⟨w1.heap.size, 2, none⟩ = some (.int .u64 4294967295) := by rw [hw]; exact b.at_ 2 _ rfl
  have HQ : Hid (Calls Try.prog 82 #[.pointer (some ⟨g, 0, none⟩), .int .i64 3] w5.drew fun e w' => e = .returned (.int .u64 S.now) ∧ w' = w5.drew) := Lib.hid ((creadT_3 (HM.out.kp k5).drew).mono fun _ _ h => ⟨h.1, h.2.symm⟩)
  have K5 := Lib.hid k5
  clear b hw k5 k1
  refine wp_region_still_tail 21 (by kernel_rfl) (by kernel_rfl) ?_
  simp only [List.take_succ_cons, List.take_zero, List.drop_succ_cons, List.drop_zero]
  with_reducible refine wpStill_step (fun K hK => ?_)
  go_simp
  with_reducible refine hK _ ?_
  clear hK K
  with_reducible refine wpStill_step (fun K hK => ?_)
  go_simp
  with_reducible refine hK _ ?_
  clear hK K
  with_reducible refine wpStill_step (fun K hK => ?_)
  go_simp
  with_reducible refine hK _ ?_
  clear hK K
  with_reducible refine wpStill_step (fun K hK => ?_)
  go_simp
  with_reducible refine hK _ ?_
  clear hK K
  with_reducible refine wpStill_step (fun K hK => ?_)
  go_simp
  with_reducible refine hK _ ?_
  clear hK K
  with_reducible refine wpStill_step (fun K hK => ?_)
  go_simp
  with_reducible refine hK _ ?_
  clear hK K
  with_reducible refine wpStill_step (fun K hK => ?_)
  go_simp
  refine ⟨_, HQ.out, ?_⟩
  with_reducible refine hK _ ?_
  clear hK K
  with_reducible refine wpStill_step (fun K hK => ?_)
  go_simp
  with_reducible refine hK _ ?_
  clear hK K
  with_reducible refine wpStill_step (fun K hK => ?_)
  go_simp
  with_reducible refine hK _ ?_
  clear hK K
  with_reducible refine wpStill_step (fun K hK => ?_)
  go_simp
  with_reducible refine hK _ ?_
  clear hK K
  with_reducible refine wpStill_step (fun K hK => ?_)
  go_simp
  with_reducible refine hK _ ?_
  clear hK K
  with_reducible refine wpStill_step (fun K hK => ?_)
  go_simp
  with_reducible refine hK _ ?_
  clear hK K
  with_reducible refine wpStill_step (fun K hK => ?_)
  go_simp
  with_reducible refine hK _ ?_
  clear hK K
  with_reducible refine wpStill_step (fun K hK => ?_)
  go_simp
  with_reducible refine hK _ ?_
  clear hK K
  with_reducible refine wpStill_step (fun K hK => ?_)
  go_simp
  with_reducible refine hK _ ?_
  clear hK K
  with_reducible refine wpStill_step (fun K hK => ?_)
  go_simp
  with_reducible refine hK _ ?_
  clear hK K
  with_reducible refine wpStill_step (fun K hK => ?_)
  go_simp
  with_reducible refine hK _ ?_
  clear hK K
  with_reducible refine wpStill_step (fun K hK => ?_)
  go_simp
  with_reducible refine hK _ ?_
  clear hK K
  with_reducible refine wpStill_step (fun K hK => ?_)
  go_simp
  with_reducible refine hK _ ?_
  clear hK K
  with_reducible refine wpStill_step (fun K hK => ?_)
  go_simp
  with_reducible refine hK _ ?_
  clear hK K
  with_reducible refine wpStill_step (fun K hK => ?_)
  go_simp
  with_reducible refine hK _ ?_
  clear hK K
  with_reducible refine wpStill_nil ?_
  change wpList _ _ _ _ _ w5.drew
  go_wp2_with (go_at_call 83; (with_reducible refine (HW.out _ K5.out _).mono ?_); rintro e' w2 ⟨rfl, hw2⟩; rw [HX.out] at hw2; subst hw2)
  go_ret
  exact ⟨rfl, HS.out _ K5.out, (((Fr.refl w (fun i => i = g)).kp K5.out).drew).setCell (p := ⟨g, 0, none⟩) (.inr rfl) _⟩
set_option maxHeartbeats 4000000 in
theorem cstoreT_no (w : World) (g : Nat) (off size v : Int) (h : rgT off size = false) :
    Calls Try.prog 80 #[.pointer (some ⟨g, 0, none⟩), .int .i64 off, .int .i64 size, .int .u64 v] w fun e w' => e = .returned (.bool false) ∧ Kp w w' := by
  have HF := Lib.hid (cfindT_no w off size h)
  clear h
  go_enter Try.func80, Try.ntmps80
  go_wp2_with (go_at_call 81; (with_reducible refine HF.out.mono ?_); rintro e' w1 ⟨rfl, k1⟩; have K1 := Lib.hid k1; clear k1)
  go_ret
  exact ⟨rfl, K1.out.allocs _ _⟩
theorem ctload_w {w : World} {lo hi g : Nat} {S : TS} (m : Cl w lo hi g S) (ok : S.Ok) (tb : TTb w) (off size : Int) (o0 : -9223372036854775808 ≤ off) (o1 : off < 9223372036854775808) (s0 : -9223372036854775808 ≤ size) (s1 : size < 9223372036854775808) : Calls Try.prog 79 #[.pointer (some ⟨g, 0, none⟩), .int .i64 off, .int .i64 size] w fun e w' => e = .returned (.tuple #[.int .u64 (S.ldV off size), .bool (rgT off size)]) ∧ Cl w' lo hi g S ∧ Fr w w' (Rg lo hi) := by
  rcases rgT_ways off size with ⟨rfl, rfl⟩ | ⟨rfl, rfl⟩ | ⟨rfl, rfl⟩ | ⟨rfl, rfl⟩ | ⟨rfl, rfl⟩ | ⟨rfl, rfl⟩ | ⟨rfl, rfl⟩ | h
  · exact (cloadT_0_4 m.ct ok).mono fun e w' x => ⟨x.1, m.kp x.2⟩
  · exact (cloadT_16384_8 m.ct ok).mono fun e w' x => ⟨x.1, m.kp x.2⟩
  · exact (cloadT_16384_4 m.ct ok).mono fun e w' x => ⟨x.1, m.kp x.2⟩
  · exact (cloadT_16388_4 m.ct ok).mono fun e w' x => ⟨x.1, m.kp x.2⟩
  · exact (cloadT_49144_8 m.ct ok).mono fun e w' x => ⟨x.1, m.kp x.2⟩
  · exact (cloadT_49144_4 m.ct ok).mono fun e w' x => ⟨x.1, m.kp x.2⟩
  · exact (cloadT_49148_4 m.ct ok).mono fun e w' x => ⟨x.1, m.kp x.2⟩
  · rw [TS.ldV, h]
    exact (cloadT_no w g off size h).mono fun e w' x => ⟨x.1, m.kp x.2⟩
theorem ctstore_w {w : World} {lo hi g : Nat} {S : TS} (m : Cl w lo hi g S) (ok : S.Ok) (tb : TTb w) (off size v : Int) (o0 : -9223372036854775808 ≤ off) (o1 : off < 9223372036854775808) (s0 : -9223372036854775808 ≤ size) (s1 : size < 9223372036854775808) (v0 : 0 ≤ v) (v1 : v < 18446744073709551616) : Calls Try.prog 80 #[.pointer (some ⟨g, 0, none⟩), .int .i64 off, .int .i64 size, .int .u64 v] w fun e w' => e = .returned (.bool (rgT off size)) ∧ Cl w' lo hi g (S.stS off size v) ∧ Fr w w' (Rg lo hi) := by
  rcases rgT_ways off size with ⟨rfl, rfl⟩ | ⟨rfl, rfl⟩ | ⟨rfl, rfl⟩ | ⟨rfl, rfl⟩ | ⟨rfl, rfl⟩ | ⟨rfl, rfl⟩ | ⟨rfl, rfl⟩ | h
  · exact (cstoreT_0_4 m.ct ok v v0 v1).mono fun e w' x => ⟨x.1, m.up x.2.1 x.2.2, fr_cl m x.2.2⟩
  · exact (cstoreT_16384_8 m.ct ok v v0 v1).mono fun e w' x => ⟨x.1, m.up x.2.1 x.2.2, fr_cl m x.2.2⟩
  · exact (cstoreT_16384_4 m.ct ok v v0 v1).mono fun e w' x => ⟨x.1, m.up x.2.1 x.2.2, fr_cl m x.2.2⟩
  · exact (cstoreT_16388_4 m.ct ok v v0 v1).mono fun e w' x => ⟨x.1, m.up x.2.1 x.2.2, fr_cl m x.2.2⟩
  · exact (cstoreT_49144_8 m.ct ok v v0 v1).mono fun e w' x => ⟨x.1, m.up x.2.1 x.2.2, fr_cl m x.2.2⟩
  · exact (cstoreT_49144_4 m.ct ok v v0 v1).mono fun e w' x => ⟨x.1, m.up x.2.1 x.2.2, fr_cl m x.2.2⟩
  · exact (cstoreT_49148_4 m.ct ok v v0 v1).mono fun e w' x => ⟨x.1, m.up x.2.1 x.2.2, fr_cl m x.2.2⟩
  · rw [TS.stS, h]
    exact (cstoreT_no w g off size v h).mono fun e w' x => ⟨x.1, m.kp x.2⟩
end Go.Proofs.Ytikibfpfieoabaa
