/-
  DecodeTotal of layer 10: every word is told with its length and its bits. No condition but what the tables hold.
  DecodeWho of layer 10: who knows a word tells it. No condition but what the tables hold.
-/
import Derived.Test.YtlfeandnpflaaaaGreatDoorML
import Derived.Test.YtlfeandnpflaaaaGreatDoorMC
namespace Go.Proofs.YtlfeandnpflaaaaGreatDoor
open Go.ChangeShapes Go.WideShapes Go.ChangeAt Go.RowKit
set_option linter.unusedVariables false
set_option linter.unusedSimpArgs false
set_option maxRecDepth 4000 in
set_option maxHeartbeats 16000000 in
theorem total_l (x y : Int) (x0 : 0 ≤ x) (x1 : x < 4294967296) (y0 : 0 ≤ y) (y1 : y < 4294967296) (hl : x % 4 = 3) (i : Ins) (hr : RegD i)
    (c : ∀ w, Tb w → Calls Tryz.prog 5 #[.int .u32 x] w fun e w' => e = .returned (Ins.v i 4 (x)) ∧ Kp w w') (w : World) (tb : Tb w) :
    Calls Tryz.prog 10 #[.int .u32 x, .int .u32 y] w fun e w' => e = .returned (.bool true) ∧ Kp w w' := by
  obtain ⟨op, fn, rd, r1, r2, imm, wid, wo, us⟩ := i
  obtain ⟨⟨d0, d1⟩, ⟨e0, e1⟩, ⟨f0, f1⟩⟩ := hr
  dsimp only [Ins.v] at *
  have t0 : (decide (0 ≤ rd)) = true := by simp; omega
  have t1 : (decide (rd < 32)) = true := by simp; omega
  have t2 : (decide (0 ≤ r1)) = true := by simp; omega
  have t3 : (decide (r1 < 32)) = true := by simp; omega
  have t4 : (decide (0 ≤ r2)) = true := by simp; omega
  have t5 : (decide (r2 < 32)) = true := by simp; omega
  have hL : ((x % 65536) % 4 == 3) = true := by simp; omega
  have HL := Lib.hid hL
  have hl1 : (x % 4 == 3) = true := by simp; omega
  have hl2 : (x.tmod 4 == 3) = true := by rw [Int.tmod_eq_emod_of_nonneg x0]; exact hl1
  have hl3 : IntKind.u16.wrap x = x % 65536 := by rw [IntKind.wrap_u16]
  have hx : (x != x) = false := by simp
  clear hL hl
  have HC := Lib.hid c
  have TB := Lib.hid tb
  clear c tb d0 d1 e0 e1 f0 f1
  go_enter Tryz.func10, Tryz.ntmps10
  go_upto_region 3 with ((go_at_call 5; (with_reducible refine (HC.out _ TB.out).mono ?_); rintro e' w1 ⟨rfl, qk⟩; have HKw1 := Lib.hid qk; dsimp only [Dc.v, Ins.v]; have szw1 := qk.size; (try simp at szw1); have KWw1 := Lib.hid (Kp.trans (Kp.refl w) qk); clear qk))
  have hA0 : At w1.heap.size [.int .i64 op, .int .i64 fn, .int .i64 rd, .int .i64 r1, .int .i64 r2, .int .i64 imm, .int .i64 wid, .bool wo, .bool us, .int .i64 4, .int .u32 x] (w1.alloc (.cells #[.int .i64 op, .int .i64 fn, .int .i64 rd, .int .i64 r1, .int .i64 r2, .int .i64 imm, .int .i64 wid, .bool wo, .bool us, .int .i64 4, .int .u32 x] 24)) := At.new' w1 _ _ rfl
  have hB0 : Bh w (w1.heap.size + 1) (w1.alloc (.cells #[.int .i64 op, .int .i64 fn, .int .i64 rd, .int .i64 r1, .int .i64 r2, .int .i64 imm, .int .i64 wid, .bool wo, .bool us, .int .i64 4, .int .u32 x] 24)) := ⟨KWw1.out.allocs _ _, by omega, by simp⟩
  generalize hgw : w1.alloc (.cells #[.int .i64 op, .int .i64 fn, .int .i64 rd, .int .i64 r1, .int .i64 r2, .int .i64 imm, .int .i64 wid, .bool wo, .bool us, .int .i64 4, .int .u32 x] 24) = g at hA0 hB0 ⊢
  clear hgw
  refine wp_region_held_drew (S := (fun w' => At (w1.heap.size) [.int .i64 op, .int .i64 fn, .int .i64 rd, .int .i64 r1, .int .i64 r2, .int .i64 imm, .int .i64 wid, .bool wo, .bool us, .int .i64 4, .int .u32 x] w' ∧ Bh w (w1.heap.size + 1) w')) (by kernel_rfl) ⟨At.drew (by with_reducible assumption), Bh.drew (by with_reducible assumption)⟩ (fun hS => ?_)
  (refine tk 0 ?_ rfl (Or.inl ⟨by rfl, ?_⟩) hS ?_; rotate_left; focus (intro w' hSw; obtain ⟨s0, sb⟩ := hSw; go_simp <;> try with_reducible rfl))
  try simp only [Act.put, zA, zB, zC]
  (refine tk 1 ?_ rfl (Or.inl ⟨by rfl, ?_⟩) hS ?_; rotate_left; focus (intro w' hSw; obtain ⟨s0, sb⟩ := hSw; go_simp <;> try with_reducible rfl))
  try simp only [Act.put, zA, zB, zC]
  (refine tk 3 ?_ rfl (Or.inl ⟨by rfl, ?_⟩) hS ?_; rotate_left; focus (intro w' hSw; obtain ⟨s0, sb⟩ := hSw; go_simp <;> try with_reducible rfl))
  try simp only [Act.put, zA, zB, zC]
  refine rdy 2 rfl (fun K hK => ?_)
  (refine take_if (by rfl) ?_; obtain ⟨s0, sb⟩ := hS; go_simp; (with_reducible refine (long_k (x % 65536) (by omega) (by omega) true HL.out _).mono ?_); rintro e' w' ⟨rfl, qk⟩; have t0 := At.kp s0 qk (Nat.lt_of_lt_of_le (show w1.heap.size < w1.heap.size + 1 by omega) sb.le); have tb := Bh.step sb qk; clear qk; refine hK.out _ _ ⟨t0, tb⟩ (fun hS => ?_))
  clear hK K
  try simp only [Act.put, zA, zB, zC]
  (refine tk 4 ?_ rfl (Or.inl ⟨by rfl, ?_⟩) hS ?_; rotate_left; focus (intro w' hSw; obtain ⟨s0, sb⟩ := hSw; go_simp <;> try with_reducible rfl))
  try simp only [Act.put, zA, zB, zC]
  (refine tk 5 ?_ rfl (Or.inl ⟨by rfl, ?_⟩) hS ?_; rotate_left; focus (intro w' hSw; obtain ⟨s0, sb⟩ := hSw; go_simp <;> try with_reducible rfl))
  try simp only [Act.put, zA, zB, zC]
  (refine tk 6 ?_ rfl ?_ hS ?_; rotate_left; focus (first | (refine Or.inl ⟨by rfl, ?_⟩; intro w' hSw; obtain ⟨s0, sb⟩ := hSw; go_simp <;> try with_reducible rfl) | (refine Or.inr ⟨by rfl, ?_⟩; rfl)))
  try simp only [Act.put, zA, zB, zC]
  (refine tk 7 ?_ rfl ?_ hS ?_; rotate_left; focus (first | (refine Or.inl ⟨by rfl, ?_⟩; intro w' hSw; obtain ⟨s0, sb⟩ := hSw; go_simp <;> try with_reducible rfl) | (refine Or.inr ⟨by rfl, ?_⟩; rfl)))
  try simp only [Act.put, zA, zB, zC]
  (refine tk 8 ?_ rfl ?_ hS ?_; rotate_left; focus (first | (refine Or.inl ⟨by rfl, ?_⟩; intro w' hSw; obtain ⟨s0, sb⟩ := hSw; go_simp <;> try with_reducible rfl) | (refine Or.inr ⟨by rfl, ?_⟩; rfl)))
  try simp only [Act.put, zA, zB, zC]
  (refine tk 9 ?_ rfl ?_ hS ?_; rotate_left; focus (first | (refine Or.inl ⟨by rfl, ?_⟩; intro w' hSw; obtain ⟨s0, sb⟩ := hSw; have c0_0 := s0 0 _ rfl; have c0_1 := s0 1 _ rfl; have c0_2 := s0 2 _ rfl; have c0_3 := s0 3 _ rfl; have c0_4 := s0 4 _ rfl; have c0_5 := s0 5 _ rfl; have c0_6 := s0 6 _ rfl; have c0_7 := s0 7 _ rfl; have c0_8 := s0 8 _ rfl; have c0_9 := s0 9 _ rfl; have c0_10 := s0 10 _ rfl; go_simp <;> try with_reducible rfl) | (refine Or.inr ⟨by rfl, ?_⟩; rfl)))
  try simp only [Act.put, zA, zB, zC]
  (refine tk 10 ?_ rfl ?_ hS ?_; rotate_left; focus (first | (refine Or.inl ⟨by rfl, ?_⟩; intro w' hSw; obtain ⟨s0, sb⟩ := hSw; go_simp <;> try with_reducible rfl) | (refine Or.inr ⟨by rfl, ?_⟩; rfl)))
  try simp only [Act.put, zA, zB, zC]
  (refine tk 11 ?_ rfl ?_ hS ?_; rotate_left; focus (first | (refine Or.inl ⟨by rfl, ?_⟩; intro w' hSw; obtain ⟨s0, sb⟩ := hSw; go_simp <;> try with_reducible rfl) | (refine Or.inr ⟨by rfl, ?_⟩; rfl)))
  try simp only [Act.put, zA, zB, zC]
  (refine tk 12 ?_ rfl ?_ hS ?_; rotate_left; focus (first | (refine Or.inl ⟨by rfl, ?_⟩; intro w' hSw; obtain ⟨s0, sb⟩ := hSw; go_simp <;> try with_reducible rfl) | (refine Or.inr ⟨by rfl, ?_⟩; rfl)))
  try simp only [Act.put, zA, zB, zC]
  (refine tk 13 ?_ rfl ?_ hS ?_; rotate_left; focus (first | (refine Or.inl ⟨by rfl, ?_⟩; intro w' hSw; obtain ⟨s0, sb⟩ := hSw; have c0_0 := s0 0 _ rfl; have c0_1 := s0 1 _ rfl; have c0_2 := s0 2 _ rfl; have c0_3 := s0 3 _ rfl; have c0_4 := s0 4 _ rfl; have c0_5 := s0 5 _ rfl; have c0_6 := s0 6 _ rfl; have c0_7 := s0 7 _ rfl; have c0_8 := s0 8 _ rfl; have c0_9 := s0 9 _ rfl; have c0_10 := s0 10 _ rfl; go_simp <;> try with_reducible rfl) | (refine Or.inr ⟨by rfl, ?_⟩; rfl)))
  try simp only [Act.put, zA, zB, zC]
  (refine tk 14 ?_ rfl ?_ hS ?_; rotate_left; focus (first | (refine Or.inl ⟨by rfl, ?_⟩; intro w' hSw; obtain ⟨s0, sb⟩ := hSw; go_simp <;> try with_reducible rfl) | (refine Or.inr ⟨by rfl, ?_⟩; rfl)))
  try simp only [Act.put, zA, zB, zC]
  (refine tk 15 ?_ rfl ?_ hS ?_; rotate_left; focus (first | (refine Or.inl ⟨by rfl, ?_⟩; intro w' hSw; obtain ⟨s0, sb⟩ := hSw; go_simp <;> try with_reducible rfl) | (refine Or.inr ⟨by rfl, ?_⟩; rfl)))
  try simp only [Act.put, zA, zB, zC]
  (refine tk 16 ?_ rfl ?_ hS ?_; rotate_left; focus (first | (refine Or.inl ⟨by rfl, ?_⟩; intro w' hSw; obtain ⟨s0, sb⟩ := hSw; go_simp <;> try with_reducible rfl) | (refine Or.inr ⟨by rfl, ?_⟩; rfl)))
  try simp only [Act.put, zA, zB, zC]
  (refine tk 17 ?_ rfl ?_ hS ?_; rotate_left; focus (first | (refine Or.inl ⟨by rfl, ?_⟩; intro w' hSw; obtain ⟨s0, sb⟩ := hSw; go_simp <;> try with_reducible rfl) | (refine Or.inr ⟨by rfl, ?_⟩; rfl)))
  try simp only [Act.put, zA, zB, zC]
  (refine tk 18 ?_ rfl (Or.inl ⟨by rfl, ?_⟩) hS ?_; rotate_left; focus (intro w' hSw; obtain ⟨s0, sb⟩ := hSw; go_simp <;> try with_reducible rfl))
  try simp only [Act.put, zA, zB, zC]
  (refine tk 19 ?_ rfl (Or.inl ⟨by rfl, ?_⟩) hS ?_; rotate_left; focus (intro w' hSw; obtain ⟨s0, sb⟩ := hSw; go_simp <;> try with_reducible rfl))
  try simp only [Act.put, zA, zB, zC]
  (refine tk 20 ?_ rfl ?_ hS ?_; rotate_left; focus (first | (refine Or.inl ⟨by rfl, ?_⟩; intro w' hSw; obtain ⟨s0, sb⟩ := hSw; go_simp <;> try with_reducible rfl) | (refine Or.inr ⟨by rfl, ?_⟩; rfl)))
  try simp only [Act.put, zA, zB, zC]
  (refine tk 21 ?_ rfl ?_ hS ?_; rotate_left; focus (first | (refine Or.inl ⟨by rfl, ?_⟩; intro w' hSw; obtain ⟨s0, sb⟩ := hSw; go_simp <;> try with_reducible rfl) | (refine Or.inr ⟨by rfl, ?_⟩; rfl)))
  try simp only [Act.put, zA, zB, zC]
  (refine tk 22 ?_ rfl ?_ hS ?_; rotate_left; focus (first | (refine Or.inl ⟨by rfl, ?_⟩; intro w' hSw; obtain ⟨s0, sb⟩ := hSw; go_simp <;> try with_reducible rfl) | (refine Or.inr ⟨by rfl, ?_⟩; rfl)))
  try simp only [Act.put, zA, zB, zC]
  (refine tk 23 ?_ rfl ?_ hS ?_; rotate_left; focus (first | (refine Or.inl ⟨by rfl, ?_⟩; intro w' hSw; obtain ⟨s0, sb⟩ := hSw; go_simp <;> try with_reducible rfl) | (refine Or.inr ⟨by rfl, ?_⟩; rfl)))
  try simp only [Act.put, zA, zB, zC]
  (refine tk 24 ?_ rfl ?_ hS ?_; rotate_left; focus (first | (refine Or.inl ⟨by rfl, ?_⟩; intro w' hSw; obtain ⟨s0, sb⟩ := hSw; have c0_0 := s0 0 _ rfl; have c0_1 := s0 1 _ rfl; have c0_2 := s0 2 _ rfl; have c0_3 := s0 3 _ rfl; have c0_4 := s0 4 _ rfl; have c0_5 := s0 5 _ rfl; have c0_6 := s0 6 _ rfl; have c0_7 := s0 7 _ rfl; have c0_8 := s0 8 _ rfl; have c0_9 := s0 9 _ rfl; have c0_10 := s0 10 _ rfl; go_simp <;> try with_reducible rfl) | (refine Or.inr ⟨by rfl, ?_⟩; rfl)))
  try simp only [Act.put, zA, zB, zC]
  (refine tk 25 ?_ rfl ?_ hS ?_; rotate_left; focus (first | (refine Or.inl ⟨by rfl, ?_⟩; intro w' hSw; obtain ⟨s0, sb⟩ := hSw; go_simp <;> try with_reducible rfl) | (refine Or.inr ⟨by rfl, ?_⟩; rfl)))
  try simp only [Act.put, zA, zB, zC]
  (refine tk 26 ?_ rfl ?_ hS ?_; rotate_left; focus (first | (refine Or.inl ⟨by rfl, ?_⟩; intro w' hSw; obtain ⟨s0, sb⟩ := hSw; go_simp <;> try with_reducible rfl) | (refine Or.inr ⟨by rfl, ?_⟩; rfl)))
  try simp only [Act.put, zA, zB, zC]
  (refine tk 27 ?_ rfl ?_ hS ?_; rotate_left; focus (first | (refine Or.inl ⟨by rfl, ?_⟩; intro w' hSw; obtain ⟨s0, sb⟩ := hSw; go_simp <;> try with_reducible rfl) | (refine Or.inr ⟨by rfl, ?_⟩; rfl)))
  try simp only [Act.put, zA, zB, zC]
  (refine tk 28 ?_ rfl ?_ hS ?_; rotate_left; focus (first | (refine Or.inl ⟨by rfl, ?_⟩; intro w' hSw; obtain ⟨s0, sb⟩ := hSw; have c0_0 := s0 0 _ rfl; have c0_1 := s0 1 _ rfl; have c0_2 := s0 2 _ rfl; have c0_3 := s0 3 _ rfl; have c0_4 := s0 4 _ rfl; have c0_5 := s0 5 _ rfl; have c0_6 := s0 6 _ rfl; have c0_7 := s0 7 _ rfl; have c0_8 := s0 8 _ rfl; have c0_9 := s0 9 _ rfl; have c0_10 := s0 10 _ rfl; go_simp <;> try with_reducible rfl) | (refine Or.inr ⟨by rfl, ?_⟩; rfl)))
  try simp only [Act.put, zA, zB, zC]
  (refine tk 29 ?_ rfl ?_ hS ?_; rotate_left; focus (first | (refine Or.inl ⟨by rfl, ?_⟩; intro w' hSw; obtain ⟨s0, sb⟩ := hSw; go_simp <;> try with_reducible rfl) | (refine Or.inr ⟨by rfl, ?_⟩; rfl)))
  try simp only [Act.put, zA, zB, zC]
  (refine tk 30 ?_ rfl ?_ hS ?_; rotate_left; focus (first | (refine Or.inl ⟨by rfl, ?_⟩; intro w' hSw; obtain ⟨s0, sb⟩ := hSw; go_simp <;> try with_reducible rfl) | (refine Or.inr ⟨by rfl, ?_⟩; rfl)))
  try simp only [Act.put, zA, zB, zC]
  (refine tk 31 ?_ rfl ?_ hS ?_; rotate_left; focus (first | (refine Or.inl ⟨by rfl, ?_⟩; intro w' hSw; obtain ⟨s0, sb⟩ := hSw; go_simp <;> try with_reducible rfl) | (refine Or.inr ⟨by rfl, ?_⟩; rfl)))
  try simp only [Act.put, zA, zB, zC]
  (refine tk 32 ?_ rfl ?_ hS ?_; rotate_left; focus (first | (refine Or.inl ⟨by rfl, ?_⟩; intro w' hSw; obtain ⟨s0, sb⟩ := hSw; go_simp <;> try with_reducible rfl) | (refine Or.inr ⟨by rfl, ?_⟩; rfl)))
  try simp only [Act.put, zA, zB, zC]
  (refine tk 33 ?_ rfl ?_ hS ?_; rotate_left; focus (first | (refine Or.inl ⟨by rfl, ?_⟩; intro w' hSw; obtain ⟨s0, sb⟩ := hSw; go_simp <;> try with_reducible rfl) | (refine Or.inr ⟨by rfl, ?_⟩; rfl)))
  try simp only [Act.put, zA, zB, zC]
  (refine tk 34 ?_ rfl ?_ hS ?_; rotate_left; focus (first | (refine Or.inl ⟨by rfl, ?_⟩; intro w' hSw; obtain ⟨s0, sb⟩ := hSw; go_simp <;> try with_reducible rfl) | (refine Or.inr ⟨by rfl, ?_⟩; rfl)))
  try simp only [Act.put, zA, zB, zC]
  (refine tk 35 ?_ rfl ?_ hS ?_; rotate_left; focus (first | (refine Or.inl ⟨by rfl, ?_⟩; intro w' hSw; obtain ⟨s0, sb⟩ := hSw; go_simp <;> try with_reducible rfl) | (refine Or.inr ⟨by rfl, ?_⟩; rfl)))
  try simp only [Act.put, zA, zB, zC]
  (refine tk 36 ?_ rfl ?_ hS ?_; rotate_left; focus (first | (refine Or.inl ⟨by rfl, ?_⟩; intro w' hSw; obtain ⟨s0, sb⟩ := hSw; go_simp <;> try with_reducible rfl) | (refine Or.inr ⟨by rfl, ?_⟩; rfl)))
  try simp only [Act.put, zA, zB, zC]
  (refine tk 37 ?_ rfl ?_ hS ?_; rotate_left; focus (first | (refine Or.inl ⟨by rfl, ?_⟩; intro w' hSw; obtain ⟨s0, sb⟩ := hSw; go_simp <;> try with_reducible rfl) | (refine Or.inr ⟨by rfl, ?_⟩; rfl)))
  try simp only [Act.put, zA, zB, zC]
  (refine tk 38 ?_ rfl ?_ hS ?_; rotate_left; focus (first | (refine Or.inl ⟨by rfl, ?_⟩; intro w' hSw; obtain ⟨s0, sb⟩ := hSw; go_simp <;> try with_reducible rfl) | (refine Or.inr ⟨by rfl, ?_⟩; rfl)))
  try simp only [Act.put, zA, zB, zC]
  (refine tk 40 ?_ rfl ?_ hS ?_; rotate_left; focus (first | (refine Or.inl ⟨by rfl, ?_⟩; intro w' hSw; obtain ⟨s0, sb⟩ := hSw; have c0_0 := s0 0 _ rfl; have c0_1 := s0 1 _ rfl; have c0_2 := s0 2 _ rfl; have c0_3 := s0 3 _ rfl; have c0_4 := s0 4 _ rfl; have c0_5 := s0 5 _ rfl; have c0_6 := s0 6 _ rfl; have c0_7 := s0 7 _ rfl; have c0_8 := s0 8 _ rfl; have c0_9 := s0 9 _ rfl; have c0_10 := s0 10 _ rfl; go_simp <;> try with_reducible rfl) | (refine Or.inr ⟨by rfl, ?_⟩; rfl)))
  try simp only [Act.put, zA, zB, zC]
  refine rdy 39 rfl (fun K hK => ?_)
  (first | (refine take_if (by rfl) ?_; obtain ⟨s0, sb⟩ := hS; go_simp; (with_reducible refine (HC.out _ (TB.out.kp sb.kp)).mono ?_); rintro e' w' ⟨rfl, qk⟩; have t0 := At.kp s0 qk (Nat.lt_of_lt_of_le (show w1.heap.size < w1.heap.size + 1 by omega) sb.le); have tb := Bh.step sb qk; clear qk; refine hK.out _ _ ⟨t0, tb⟩ (fun hS => ?_)) | (refine skip_if (by rfl) ?_; refine hK.out _ _ hS (fun hS => ?_)))
  clear hK K
  try simp only [Act.put, zA, zB, zC]
  (refine tk 41 ?_ rfl ?_ hS ?_; rotate_left; focus (first | (refine Or.inl ⟨by rfl, ?_⟩; intro w' hSw; obtain ⟨s0, sb⟩ := hSw; go_simp <;> try with_reducible rfl) | (refine Or.inr ⟨by rfl, ?_⟩; rfl)))
  try simp only [Act.put, zA, zB, zC]
  (refine tk 42 ?_ rfl ?_ hS ?_; rotate_left; focus (first | (refine Or.inl ⟨by rfl, ?_⟩; intro w' hSw; obtain ⟨s0, sb⟩ := hSw; go_simp <;> try with_reducible rfl) | (refine Or.inr ⟨by rfl, ?_⟩; rfl)))
  try simp only [Act.put, zA, zB, zC]
  (refine tk 43 ?_ rfl ?_ hS ?_; rotate_left; focus (first | (refine Or.inl ⟨by rfl, ?_⟩; intro w' hSw; obtain ⟨s0, sb⟩ := hSw; go_simp <;> try with_reducible rfl) | (refine Or.inr ⟨by rfl, ?_⟩; rfl)))
  try simp only [Act.put, zA, zB, zC]
  (refine tk 44 ?_ rfl (Or.inl ⟨by rfl, ?_⟩) hS ?_; rotate_left; focus (intro w' hSw; obtain ⟨s0, sb⟩ := hSw; go_simp <;> try with_reducible rfl))
  try simp only [Act.put, zA, zB, zC]
  refine wpAnyH_done (by kernel_rfl) ?_ _
  obtain ⟨s0, sb⟩ := hS
  have c0_0 := s0 0 _ rfl; have c0_1 := s0 1 _ rfl; have c0_2 := s0 2 _ rfl; have c0_3 := s0 3 _ rfl; have c0_4 := s0 4 _ rfl; have c0_5 := s0 5 _ rfl; have c0_6 := s0 6 _ rfl; have c0_7 := s0 7 _ rfl; have c0_8 := s0 8 _ rfl; have c0_9 := s0 9 _ rfl; have c0_10 := s0 10 _ rfl
  go_wp2_with (go_at_call 9; (with_reducible refine (works10_w _ (TB.out.kp sb.kp)).mono ?_); rintro e' wz ⟨rfl, qk⟩; have KZ := Lib.hid (sb.kp.trans qk); clear qk)
  go_ret
  exact ⟨rfl, KZ.out⟩
set_option maxRecDepth 4000 in
set_option maxHeartbeats 16000000 in
theorem total_h (x y : Int) (x0 : 0 ≤ x) (x1 : x < 4294967296) (y0 : 0 ≤ y) (y1 : y < 4294967296) (hl : ¬ x % 4 = 3) (i : Ins) (hr : RegD i)
    (c : ∀ w, Tb w → Calls Tryz.prog 5 #[.int .u32 x] w fun e w' => e = .returned (Ins.v i 2 ((x % 65536))) ∧ Kp w w') (z : Int) (hz : IntKind.u32.wrap (x % 65536 + IntKind.u32.wrap (y * 65536)) = z) (d : ∀ w, Tb w → Calls Tryz.prog 5 #[.int .u32 z] w fun e w' => e = .returned (Ins.v i 2 (x % 65536)) ∧ Kp w w') (w : World) (tb : Tb w) :
    Calls Tryz.prog 10 #[.int .u32 x, .int .u32 y] w fun e w' => e = .returned (.bool true) ∧ Kp w w' := by
  obtain ⟨op, fn, rd, r1, r2, imm, wid, wo, us⟩ := i
  obtain ⟨⟨d0, d1⟩, ⟨e0, e1⟩, ⟨f0, f1⟩⟩ := hr
  dsimp only [Ins.v] at *
  have t0 : (decide (0 ≤ rd)) = true := by simp; omega
  have t1 : (decide (rd < 32)) = true := by simp; omega
  have t2 : (decide (0 ≤ r1)) = true := by simp; omega
  have t3 : (decide (r1 < 32)) = true := by simp; omega
  have t4 : (decide (0 ≤ r2)) = true := by simp; omega
  have t5 : (decide (r2 < 32)) = true := by simp; omega
  have hL : ((x % 65536) % 4 == 3) = false := by simp; omega
  have HL := Lib.hid hL
  have hl1 : (x % 4 == 3) = false := by simp; omega
  have hl2 : (x.tmod 4 == 3) = false := by rw [Int.tmod_eq_emod_of_nonneg x0]; exact hl1
  have hl3 : IntKind.u16.wrap x = x % 65536 := by rw [IntKind.wrap_u16]
  have hl4 : x.tmod 65536 = x % 65536 := Int.tmod_eq_emod_of_nonneg x0
  have hx : (x % 65536 != x % 65536) = false := by simp
  have q1 := ins_neq op fn rd r1 r2 imm wid wo us 2 (x % 65536)
  have HD := Lib.hid d
  clear hL hl d
  have HC := Lib.hid c
  have TB := Lib.hid tb
  clear c tb d0 d1 e0 e1 f0 f1
  go_enter Tryz.func10, Tryz.ntmps10
  go_upto_region 3 with ((go_at_call 5; (with_reducible refine (HC.out _ TB.out).mono ?_); rintro e' w1 ⟨rfl, qk⟩; have HKw1 := Lib.hid qk; dsimp only [Dc.v, Ins.v]; have szw1 := qk.size; (try simp at szw1); have KWw1 := Lib.hid (Kp.trans (Kp.refl w) qk); clear qk))
  have hA0 : At w1.heap.size [.int .i64 op, .int .i64 fn, .int .i64 rd, .int .i64 r1, .int .i64 r2, .int .i64 imm, .int .i64 wid, .bool wo, .bool us, .int .i64 2, .int .u32 (x % 65536)] (w1.alloc (.cells #[.int .i64 op, .int .i64 fn, .int .i64 rd, .int .i64 r1, .int .i64 r2, .int .i64 imm, .int .i64 wid, .bool wo, .bool us, .int .i64 2, .int .u32 (x % 65536)] 24)) := At.new' w1 _ _ rfl
  have hB0 : Bh w (w1.heap.size + 1) (w1.alloc (.cells #[.int .i64 op, .int .i64 fn, .int .i64 rd, .int .i64 r1, .int .i64 r2, .int .i64 imm, .int .i64 wid, .bool wo, .bool us, .int .i64 2, .int .u32 (x % 65536)] 24)) := ⟨KWw1.out.allocs _ _, by omega, by simp⟩
  generalize hgw : w1.alloc (.cells #[.int .i64 op, .int .i64 fn, .int .i64 rd, .int .i64 r1, .int .i64 r2, .int .i64 imm, .int .i64 wid, .bool wo, .bool us, .int .i64 2, .int .u32 (x % 65536)] 24) = g at hA0 hB0 ⊢
  clear hgw
  refine wp_region_held_drew (S := (fun w' => At (w1.heap.size) [.int .i64 op, .int .i64 fn, .int .i64 rd, .int .i64 r1, .int .i64 r2, .int .i64 imm, .int .i64 wid, .bool wo, .bool us, .int .i64 2, .int .u32 (x % 65536)] w' ∧ Bh w (w1.heap.size + 1) w')) (by kernel_rfl) ⟨At.drew (by with_reducible assumption), Bh.drew (by with_reducible assumption)⟩ (fun hS => ?_)
  (refine tk 0 ?_ rfl (Or.inl ⟨by rfl, ?_⟩) hS ?_; rotate_left; focus (intro w' hSw; obtain ⟨s0, sb⟩ := hSw; go_simp <;> try with_reducible rfl))
  try simp only [Act.put, zA, zB, zC]
  (refine tk 1 ?_ rfl (Or.inl ⟨by rfl, ?_⟩) hS ?_; rotate_left; focus (intro w' hSw; obtain ⟨s0, sb⟩ := hSw; go_simp <;> try with_reducible rfl))
  try simp only [Act.put, zA, zB, zC]
  (refine tk 3 ?_ rfl (Or.inl ⟨by rfl, ?_⟩) hS ?_; rotate_left; focus (intro w' hSw; obtain ⟨s0, sb⟩ := hSw; go_simp <;> try with_reducible rfl))
  try simp only [Act.put, zA, zB, zC]
  refine rdy 2 rfl (fun K hK => ?_)
  (refine take_if (by rfl) ?_; obtain ⟨s0, sb⟩ := hS; go_simp; (with_reducible refine (long_k (x % 65536) (by omega) (by omega) false HL.out _).mono ?_); rintro e' w' ⟨rfl, qk⟩; have t0 := At.kp s0 qk (Nat.lt_of_lt_of_le (show w1.heap.size < w1.heap.size + 1 by omega) sb.le); have tb := Bh.step sb qk; clear qk; refine hK.out _ _ ⟨t0, tb⟩ (fun hS => ?_))
  clear hK K
  try simp only [Act.put, zA, zB, zC]
  (refine tk 4 ?_ rfl (Or.inl ⟨by rfl, ?_⟩) hS ?_; rotate_left; focus (intro w' hSw; obtain ⟨s0, sb⟩ := hSw; go_simp <;> try with_reducible rfl))
  try simp only [Act.put, zA, zB, zC]
  (refine tk 5 ?_ rfl (Or.inl ⟨by rfl, ?_⟩) hS ?_; rotate_left; focus (intro w' hSw; obtain ⟨s0, sb⟩ := hSw; go_simp <;> try with_reducible rfl))
  try simp only [Act.put, zA, zB, zC]
  (refine tk 6 ?_ rfl ?_ hS ?_; rotate_left; focus (first | (refine Or.inl ⟨by rfl, ?_⟩; intro w' hSw; obtain ⟨s0, sb⟩ := hSw; go_simp <;> try with_reducible rfl) | (refine Or.inr ⟨by rfl, ?_⟩; rfl)))
  try simp only [Act.put, zA, zB, zC]
  (refine tk 7 ?_ rfl ?_ hS ?_; rotate_left; focus (first | (refine Or.inl ⟨by rfl, ?_⟩; intro w' hSw; obtain ⟨s0, sb⟩ := hSw; go_simp <;> try with_reducible rfl) | (refine Or.inr ⟨by rfl, ?_⟩; rfl)))
  try simp only [Act.put, zA, zB, zC]
  (refine tk 8 ?_ rfl ?_ hS ?_; rotate_left; focus (first | (refine Or.inl ⟨by rfl, ?_⟩; intro w' hSw; obtain ⟨s0, sb⟩ := hSw; go_simp <;> try with_reducible rfl) | (refine Or.inr ⟨by rfl, ?_⟩; rfl)))
  try simp only [Act.put, zA, zB, zC]
  (refine tk 9 ?_ rfl ?_ hS ?_; rotate_left; focus (first | (refine Or.inl ⟨by rfl, ?_⟩; intro w' hSw; obtain ⟨s0, sb⟩ := hSw; have c0_0 := s0 0 _ rfl; have c0_1 := s0 1 _ rfl; have c0_2 := s0 2 _ rfl; have c0_3 := s0 3 _ rfl; have c0_4 := s0 4 _ rfl; have c0_5 := s0 5 _ rfl; have c0_6 := s0 6 _ rfl; have c0_7 := s0 7 _ rfl; have c0_8 := s0 8 _ rfl; have c0_9 := s0 9 _ rfl; have c0_10 := s0 10 _ rfl; go_simp <;> try with_reducible rfl) | (refine Or.inr ⟨by rfl, ?_⟩; rfl)))
  try simp only [Act.put, zA, zB, zC]
  (refine tk 10 ?_ rfl ?_ hS ?_; rotate_left; focus (first | (refine Or.inl ⟨by rfl, ?_⟩; intro w' hSw; obtain ⟨s0, sb⟩ := hSw; go_simp <;> try with_reducible rfl) | (refine Or.inr ⟨by rfl, ?_⟩; rfl)))
  try simp only [Act.put, zA, zB, zC]
  (refine tk 11 ?_ rfl ?_ hS ?_; rotate_left; focus (first | (refine Or.inl ⟨by rfl, ?_⟩; intro w' hSw; obtain ⟨s0, sb⟩ := hSw; go_simp <;> try with_reducible rfl) | (refine Or.inr ⟨by rfl, ?_⟩; rfl)))
  try simp only [Act.put, zA, zB, zC]
  (refine tk 12 ?_ rfl ?_ hS ?_; rotate_left; focus (first | (refine Or.inl ⟨by rfl, ?_⟩; intro w' hSw; obtain ⟨s0, sb⟩ := hSw; go_simp <;> try with_reducible rfl) | (refine Or.inr ⟨by rfl, ?_⟩; rfl)))
  try simp only [Act.put, zA, zB, zC]
  (refine tk 13 ?_ rfl ?_ hS ?_; rotate_left; focus (first | (refine Or.inl ⟨by rfl, ?_⟩; intro w' hSw; obtain ⟨s0, sb⟩ := hSw; have c0_0 := s0 0 _ rfl; have c0_1 := s0 1 _ rfl; have c0_2 := s0 2 _ rfl; have c0_3 := s0 3 _ rfl; have c0_4 := s0 4 _ rfl; have c0_5 := s0 5 _ rfl; have c0_6 := s0 6 _ rfl; have c0_7 := s0 7 _ rfl; have c0_8 := s0 8 _ rfl; have c0_9 := s0 9 _ rfl; have c0_10 := s0 10 _ rfl; go_simp <;> try with_reducible rfl) | (refine Or.inr ⟨by rfl, ?_⟩; rfl)))
  try simp only [Act.put, zA, zB, zC]
  (refine tk 14 ?_ rfl ?_ hS ?_; rotate_left; focus (first | (refine Or.inl ⟨by rfl, ?_⟩; intro w' hSw; obtain ⟨s0, sb⟩ := hSw; go_simp <;> try with_reducible rfl) | (refine Or.inr ⟨by rfl, ?_⟩; rfl)))
  try simp only [Act.put, zA, zB, zC]
  (refine tk 15 ?_ rfl ?_ hS ?_; rotate_left; focus (first | (refine Or.inl ⟨by rfl, ?_⟩; intro w' hSw; obtain ⟨s0, sb⟩ := hSw; go_simp <;> try with_reducible rfl) | (refine Or.inr ⟨by rfl, ?_⟩; rfl)))
  try simp only [Act.put, zA, zB, zC]
  (refine tk 16 ?_ rfl ?_ hS ?_; rotate_left; focus (first | (refine Or.inl ⟨by rfl, ?_⟩; intro w' hSw; obtain ⟨s0, sb⟩ := hSw; go_simp <;> try with_reducible rfl) | (refine Or.inr ⟨by rfl, ?_⟩; rfl)))
  try simp only [Act.put, zA, zB, zC]
  (refine tk 17 ?_ rfl ?_ hS ?_; rotate_left; focus (first | (refine Or.inl ⟨by rfl, ?_⟩; intro w' hSw; obtain ⟨s0, sb⟩ := hSw; go_simp <;> try with_reducible rfl) | (refine Or.inr ⟨by rfl, ?_⟩; rfl)))
  try simp only [Act.put, zA, zB, zC]
  (refine tk 18 ?_ rfl (Or.inl ⟨by rfl, ?_⟩) hS ?_; rotate_left; focus (intro w' hSw; obtain ⟨s0, sb⟩ := hSw; go_simp <;> try with_reducible rfl))
  try simp only [Act.put, zA, zB, zC]
  (refine tk 19 ?_ rfl (Or.inl ⟨by rfl, ?_⟩) hS ?_; rotate_left; focus (intro w' hSw; obtain ⟨s0, sb⟩ := hSw; go_simp <;> try with_reducible rfl))
  try simp only [Act.put, zA, zB, zC]
  (refine tk 20 ?_ rfl ?_ hS ?_; rotate_left; focus (first | (refine Or.inl ⟨by rfl, ?_⟩; intro w' hSw; obtain ⟨s0, sb⟩ := hSw; go_simp <;> try with_reducible rfl) | (refine Or.inr ⟨by rfl, ?_⟩; rfl)))
  try simp only [Act.put, zA, zB, zC]
  (refine tk 21 ?_ rfl ?_ hS ?_; rotate_left; focus (first | (refine Or.inl ⟨by rfl, ?_⟩; intro w' hSw; obtain ⟨s0, sb⟩ := hSw; go_simp <;> try with_reducible rfl) | (refine Or.inr ⟨by rfl, ?_⟩; rfl)))
  try simp only [Act.put, zA, zB, zC]
  (refine tk 22 ?_ rfl ?_ hS ?_; rotate_left; focus (first | (refine Or.inl ⟨by rfl, ?_⟩; intro w' hSw; obtain ⟨s0, sb⟩ := hSw; go_simp <;> try with_reducible rfl) | (refine Or.inr ⟨by rfl, ?_⟩; rfl)))
  try simp only [Act.put, zA, zB, zC]
  (refine tk 23 ?_ rfl ?_ hS ?_; rotate_left; focus (first | (refine Or.inl ⟨by rfl, ?_⟩; intro w' hSw; obtain ⟨s0, sb⟩ := hSw; go_simp <;> try with_reducible rfl) | (refine Or.inr ⟨by rfl, ?_⟩; rfl)))
  try simp only [Act.put, zA, zB, zC]
  (refine tk 24 ?_ rfl ?_ hS ?_; rotate_left; focus (first | (refine Or.inl ⟨by rfl, ?_⟩; intro w' hSw; obtain ⟨s0, sb⟩ := hSw; have c0_0 := s0 0 _ rfl; have c0_1 := s0 1 _ rfl; have c0_2 := s0 2 _ rfl; have c0_3 := s0 3 _ rfl; have c0_4 := s0 4 _ rfl; have c0_5 := s0 5 _ rfl; have c0_6 := s0 6 _ rfl; have c0_7 := s0 7 _ rfl; have c0_8 := s0 8 _ rfl; have c0_9 := s0 9 _ rfl; have c0_10 := s0 10 _ rfl; go_simp <;> try with_reducible rfl) | (refine Or.inr ⟨by rfl, ?_⟩; rfl)))
  try simp only [Act.put, zA, zB, zC]
  (refine tk 25 ?_ rfl ?_ hS ?_; rotate_left; focus (first | (refine Or.inl ⟨by rfl, ?_⟩; intro w' hSw; obtain ⟨s0, sb⟩ := hSw; go_simp <;> try with_reducible rfl) | (refine Or.inr ⟨by rfl, ?_⟩; rfl)))
  try simp only [Act.put, zA, zB, zC]
  (refine tk 26 ?_ rfl ?_ hS ?_; rotate_left; focus (first | (refine Or.inl ⟨by rfl, ?_⟩; intro w' hSw; obtain ⟨s0, sb⟩ := hSw; go_simp <;> try with_reducible rfl) | (refine Or.inr ⟨by rfl, ?_⟩; rfl)))
  try simp only [Act.put, zA, zB, zC]
  (refine tk 27 ?_ rfl ?_ hS ?_; rotate_left; focus (first | (refine Or.inl ⟨by rfl, ?_⟩; intro w' hSw; obtain ⟨s0, sb⟩ := hSw; go_simp <;> try with_reducible rfl) | (refine Or.inr ⟨by rfl, ?_⟩; rfl)))
  try simp only [Act.put, zA, zB, zC]
  (refine tk 28 ?_ rfl ?_ hS ?_; rotate_left; focus (first | (refine Or.inl ⟨by rfl, ?_⟩; intro w' hSw; obtain ⟨s0, sb⟩ := hSw; have c0_0 := s0 0 _ rfl; have c0_1 := s0 1 _ rfl; have c0_2 := s0 2 _ rfl; have c0_3 := s0 3 _ rfl; have c0_4 := s0 4 _ rfl; have c0_5 := s0 5 _ rfl; have c0_6 := s0 6 _ rfl; have c0_7 := s0 7 _ rfl; have c0_8 := s0 8 _ rfl; have c0_9 := s0 9 _ rfl; have c0_10 := s0 10 _ rfl; go_simp <;> try with_reducible rfl) | (refine Or.inr ⟨by rfl, ?_⟩; rfl)))
  try simp only [Act.put, zA, zB, zC]
  (refine tk 29 ?_ rfl ?_ hS ?_; rotate_left; focus (first | (refine Or.inl ⟨by rfl, ?_⟩; intro w' hSw; obtain ⟨s0, sb⟩ := hSw; go_simp <;> try with_reducible rfl) | (refine Or.inr ⟨by rfl, ?_⟩; rfl)))
  try simp only [Act.put, zA, zB, zC]
  (refine tk 30 ?_ rfl ?_ hS ?_; rotate_left; focus (first | (refine Or.inl ⟨by rfl, ?_⟩; intro w' hSw; obtain ⟨s0, sb⟩ := hSw; go_simp <;> try with_reducible rfl) | (refine Or.inr ⟨by rfl, ?_⟩; rfl)))
  try simp only [Act.put, zA, zB, zC]
  (refine tk 31 ?_ rfl ?_ hS ?_; rotate_left; focus (first | (refine Or.inl ⟨by rfl, ?_⟩; intro w' hSw; obtain ⟨s0, sb⟩ := hSw; go_simp <;> try with_reducible rfl) | (refine Or.inr ⟨by rfl, ?_⟩; rfl)))
  try simp only [Act.put, zA, zB, zC]
  (refine tk 32 ?_ rfl ?_ hS ?_; rotate_left; focus (first | (refine Or.inl ⟨by rfl, ?_⟩; intro w' hSw; obtain ⟨s0, sb⟩ := hSw; go_simp <;> try with_reducible rfl) | (refine Or.inr ⟨by rfl, ?_⟩; rfl)))
  try simp only [Act.put, zA, zB, zC]
  (refine tk 33 ?_ rfl ?_ hS ?_; rotate_left; focus (first | (refine Or.inl ⟨by rfl, ?_⟩; intro w' hSw; obtain ⟨s0, sb⟩ := hSw; go_simp <;> try with_reducible rfl) | (refine Or.inr ⟨by rfl, ?_⟩; rfl)))
  try simp only [Act.put, zA, zB, zC]
  (refine tk 34 ?_ rfl ?_ hS ?_; rotate_left; focus (first | (refine Or.inl ⟨by rfl, ?_⟩; intro w' hSw; obtain ⟨s0, sb⟩ := hSw; go_simp <;> try with_reducible rfl) | (refine Or.inr ⟨by rfl, ?_⟩; rfl)))
  try simp only [Act.put, zA, zB, zC]
  (refine tk 35 ?_ rfl ?_ hS ?_; rotate_left; focus (first | (refine Or.inl ⟨by rfl, ?_⟩; intro w' hSw; obtain ⟨s0, sb⟩ := hSw; go_simp <;> try with_reducible rfl) | (refine Or.inr ⟨by rfl, ?_⟩; rfl)))
  try simp only [Act.put, zA, zB, zC]
  (refine tk 36 ?_ rfl ?_ hS ?_; rotate_left; focus (first | (refine Or.inl ⟨by rfl, ?_⟩; intro w' hSw; obtain ⟨s0, sb⟩ := hSw; go_simp <;> try with_reducible rfl) | (refine Or.inr ⟨by rfl, ?_⟩; rfl)))
  try simp only [Act.put, zA, zB, zC]
  (refine tk 37 ?_ rfl ?_ hS ?_; rotate_left; focus (first | (refine Or.inl ⟨by rfl, ?_⟩; intro w' hSw; obtain ⟨s0, sb⟩ := hSw; go_simp <;> try with_reducible rfl) | (refine Or.inr ⟨by rfl, ?_⟩; rfl)))
  try simp only [Act.put, zA, zB, zC]
  (refine tk 38 ?_ rfl ?_ hS ?_; rotate_left; focus (first | (refine Or.inl ⟨by rfl, ?_⟩; intro w' hSw; obtain ⟨s0, sb⟩ := hSw; go_simp <;> try with_reducible rfl) | (refine Or.inr ⟨by rfl, ?_⟩; rfl)))
  try simp only [Act.put, zA, zB, zC]
  (refine tk 40 ?_ rfl ?_ hS ?_; rotate_left; focus (first | (refine Or.inl ⟨by rfl, ?_⟩; intro w' hSw; obtain ⟨s0, sb⟩ := hSw; have c0_0 := s0 0 _ rfl; have c0_1 := s0 1 _ rfl; have c0_2 := s0 2 _ rfl; have c0_3 := s0 3 _ rfl; have c0_4 := s0 4 _ rfl; have c0_5 := s0 5 _ rfl; have c0_6 := s0 6 _ rfl; have c0_7 := s0 7 _ rfl; have c0_8 := s0 8 _ rfl; have c0_9 := s0 9 _ rfl; have c0_10 := s0 10 _ rfl; go_simp <;> try with_reducible rfl) | (refine Or.inr ⟨by rfl, ?_⟩; rfl)))
  try simp only [Act.put, zA, zB, zC]
  refine rdy 39 rfl (fun K hK => ?_)
  (first | (refine take_if (by rfl) ?_; obtain ⟨s0, sb⟩ := hS; go_simp; (with_reducible refine (HD.out _ (TB.out.kp sb.kp)).mono ?_); rintro e' w' ⟨rfl, qk⟩; have t0 := At.kp s0 qk (Nat.lt_of_lt_of_le (show w1.heap.size < w1.heap.size + 1 by omega) sb.le); have tb := Bh.step sb qk; clear qk; refine hK.out _ _ ⟨t0, tb⟩ (fun hS => ?_)) | (refine skip_if (by rfl) ?_; refine hK.out _ _ hS (fun hS => ?_)))
  clear hK K
  try simp only [Act.put, zA, zB, zC]
  (refine tk 41 ?_ rfl ?_ hS ?_; rotate_left; focus (first | (refine Or.inl ⟨by rfl, ?_⟩; intro w' hSw; obtain ⟨s0, sb⟩ := hSw; go_simp <;> try with_reducible rfl) | (refine Or.inr ⟨by rfl, ?_⟩; rfl)))
  try simp only [Act.put, zA, zB, zC]
  (refine tk 42 ?_ rfl ?_ hS ?_; rotate_left; focus (first | (refine Or.inl ⟨by rfl, ?_⟩; intro w' hSw; obtain ⟨s0, sb⟩ := hSw; go_simp <;> try with_reducible rfl) | (refine Or.inr ⟨by rfl, ?_⟩; rfl)))
  try simp only [Act.put, zA, zB, zC]
  (refine tk 43 ?_ rfl ?_ hS ?_; rotate_left; focus (first | (refine Or.inl ⟨by rfl, ?_⟩; intro w' hSw; obtain ⟨s0, sb⟩ := hSw; go_simp <;> try with_reducible rfl) | (refine Or.inr ⟨by rfl, ?_⟩; rfl)))
  try simp only [Act.put, zA, zB, zC]
  (refine tk 44 ?_ rfl (Or.inl ⟨by rfl, ?_⟩) hS ?_; rotate_left; focus (intro w' hSw; obtain ⟨s0, sb⟩ := hSw; go_simp <;> try with_reducible rfl))
  try simp only [Act.put, zA, zB, zC]
  refine wpAnyH_done (by kernel_rfl) ?_ _
  obtain ⟨s0, sb⟩ := hS
  have c0_0 := s0 0 _ rfl; have c0_1 := s0 1 _ rfl; have c0_2 := s0 2 _ rfl; have c0_3 := s0 3 _ rfl; have c0_4 := s0 4 _ rfl; have c0_5 := s0 5 _ rfl; have c0_6 := s0 6 _ rfl; have c0_7 := s0 7 _ rfl; have c0_8 := s0 8 _ rfl; have c0_9 := s0 9 _ rfl; have c0_10 := s0 10 _ rfl
  go_wp2_with (go_at_call 9; (with_reducible refine (works10_w _ (TB.out.kp sb.kp)).mono ?_); rintro e' wz ⟨rfl, qk⟩; have KZ := Lib.hid (sb.kp.trans qk); clear qk)
  go_ret
  exact ⟨rfl, KZ.out⟩
theorem total_w (x y : Int) (x0 : 0 ≤ x) (x1 : x < 4294967296) (y0 : 0 ≤ y) (y1 : y < 4294967296) (w : World) (tb : Tb w) :
    Calls Tryz.prog 10 #[.int .u32 x, .int .u32 y] w fun e w' => e = .returned (.bool true) ∧ Kp w w' := by
  obtain ⟨d, hd⟩ : ∃ d, dcd x = d := ⟨_, rfl⟩
  have hr := regd_all x
  by_cases hl : x % 4 = 3
  · have hv := dcd_lng x hl
    rw [hd] at hr hv
    obtain ⟨i, ln, raw⟩ := d
    dsimp only at hv hr
    obtain ⟨rfl, h2⟩ := hv
    have h3 := h2.symm
    subst h3
    exact total_l x y x0 x1 y0 y1 hl i hr (fun w tb => dcd_at x x0 x1 _ hd w tb) w tb
  · have hv := dcd_hlf x hl x0
    rw [hd] at hr hv
    obtain ⟨i, ln, raw⟩ := d
    dsimp only at hv hr
    obtain ⟨rfl, h2⟩ := hv
    have h3 := h2.symm
    subst h3
    obtain ⟨z, hz⟩ : ∃ z, IntKind.u32.wrap (x % 65536 + IntKind.u32.wrap (y * 65536)) = z := ⟨_, rfl⟩
    have hz' := hz
    rw [IntKind.wrap_u32, IntKind.wrap_u32] at hz'
    have e : dcd z = dcd x := dcd_low x z hl (by omega)
    exact total_h x y x0 x1 y0 y1 hl i hr (fun w tb => dcd_at x x0 x1 _ hd w tb) z hz (fun w tb => dcd_at z (by omega) (by omega) _ (e.trans hd) w tb) w tb
end Go.Proofs.YtlfeandnpflaaaaGreatDoor
namespace Go.Proofs.YtlfeandnpflaaaaGreatDoor
open Go.ChangeShapes Go.WideShapes Go.ChangeAt Go.RowKit
set_option linter.unusedVariables false
set_option linter.unusedSimpArgs false
set_option maxHeartbeats 16000000 in
theorem who_hn (x : Int) (x0 : 0 ≤ x) (x1 : x < 4294967296) (h : Nat) (h1 : h < 65536) (hh : (h : Int) = x % 65536) (hl : ¬ x % 4 = 3) (he : ex h = none)
    (c : ∀ w, Tb w → Calls Tryz.prog 5 #[.int .u32 x] w fun e w' => e = .returned (.agg #[.int .i64 0, .int .i64 0, .int .i64 0, .int .i64 0, .int .i64 0, .int .i64 0, .int .i64 0, .bool false, .bool false, .int .i64 2, .int .u32 (h : Int)]) ∧ Kp w w')
    (p : ∀ w, Calls Tryz.prog 19 #[.agg #[.int .i64 0, .int .i64 0, .int .i64 0, .int .i64 0, .int .i64 0, .int .i64 0, .int .i64 0, .bool false, .bool false, .int .i64 2, .int .u32 (h : Int)]] w fun e w' => e = .returned (.bool false) ∧ Kp w w') (w : World) (tb : Tb w) :
    Calls Tryz.prog 11 #[.int .u32 x] w fun e w' => e = .returned (.bool true) ∧ Kp w w' := by
  have q1 := ins_eql 0 0 0 0 0 0 0 false false 2 (h : Int)
  have hl1 : (x % 4 != 3) = true := by simp; omega
  have hl2 : (x.tmod 4 != 3) = true := by rw [Int.tmod_eq_emod_of_nonneg x0]; exact hl1
  have hw : IntKind.u16.wrap x = (h : Int) := by rw [IntKind.wrap_u16]; omega
  have hw2 : x % 65536 = (h : Int) := hh.symm
  have HE := Lib.hid he
  have HC := Lib.hid c
  have HP := Lib.hid p
  have TB := Lib.hid tb
  clear hl hh he c p tb
  go_enter Tryz.func11, Tryz.ntmps11
  go_wp2_with (first | (go_at_call 5; (with_reducible refine (HC.out _ TB.out).mono ?_); rintro e' w1 ⟨rfl, qk⟩; have HKw1 := Lib.hid qk; have TB1 := Lib.hid ((TB.out.kp qk).kp ((Kp.refl _).allocs #[.int .i64 0, .int .i64 0, .int .i64 0, .int .i64 0, .int .i64 0, .int .i64 0, .int .i64 0, .bool false, .bool false, .int .i64 2, .int .u32 (h : Int)] 24)); have szw1 := qk.size; (try simp at szw1); have KWw1 := Lib.hid (Kp.trans (Kp.refl w) qk); clear qk) | (go_at_call 17; (with_reducible refine (expand_n h h1 HE.out _ TB1.out).mono ?_); rintro e' w2 ⟨rfl, qk⟩; have HKw2 := Lib.hid qk; obtain ⟨qw20, qw21, qw22, qw23, qw24, qw25, qw26, qw27, qw28, qw29, qw210⟩ := qk.c11 (b := w1.heap.size) (.int .i64 0) (.int .i64 0) (.int .i64 0) (.int .i64 0) (.int .i64 0) (.int .i64 0) (.int .i64 0) (.bool false) (.bool false) (.int .i64 2) (.int .u32 (h : Int)); have szw2 := qk.size; (try simp at szw2); have KWw2 := Lib.hid (Kp.trans (KWw1.out.allocs _ _) qk); have qa0 : w1.heap.size < w2.heap.size := (by omega); have qa1 : ¬ w1.heap.size = w2.heap.size := (by omega); have qa2 : ¬ w2.heap.size = w1.heap.size := (by omega); clear qk) | (go_at_call 18; (with_reducible refine (decode_at 0 (by decide) (by decide) none sp_0 _).mono ?_); rintro e' w3 ⟨rfl, qk⟩; have HKw3 := Lib.hid qk; obtain ⟨qw30, qw31, qw32, qw33, qw34, qw35, qw36, qw37, qw38, qw39, qw310⟩ := qk.c11 (b := w1.heap.size) (.int .i64 0) (.int .i64 0) (.int .i64 0) (.int .i64 0) (.int .i64 0) (.int .i64 0) (.int .i64 0) (.bool false) (.bool false) (.int .i64 2) (.int .u32 (h : Int)); dsimp only [decV, Ins.v, zIns]; have szw3 := qk.size; (try simp at szw3); have KWw3 := Lib.hid (Kp.trans (KWw2.out) qk); have qb0 : w1.heap.size < w3.heap.size := (by omega); have qb1 : ¬ w1.heap.size = w3.heap.size := (by omega); have qb2 : ¬ w3.heap.size = w1.heap.size := (by omega); clear qk) | (go_at_call 19; (with_reducible refine (HP.out _).mono ?_); rintro e' w4 ⟨rfl, qk⟩; have HKw4 := Lib.hid qk; obtain ⟨qw40, qw41, qw42, qw43, qw44, qw45, qw46, qw47, qw48, qw49, qw410⟩ := qk.c11 (b := w1.heap.size) (.int .i64 0) (.int .i64 0) (.int .i64 0) (.int .i64 0) (.int .i64 0) (.int .i64 0) (.int .i64 0) (.bool false) (.bool false) (.int .i64 2) (.int .u32 (h : Int)); obtain ⟨qw411, qw412, qw413, qw414, qw415, qw416, qw417, qw418, qw419, qw420, qw421⟩ := qk.c11 (b := w3.heap.size) (.int .i64 0) (.int .i64 0) (.int .i64 0) (.int .i64 0) (.int .i64 0) (.int .i64 0) (.int .i64 0) (.bool false) (.bool false) (.int .i64 2) (.int .u32 (h : Int)); have szw4 := qk.size; (try simp at szw4); have KWw4 := Lib.hid (Kp.trans (KWw3.out.allocs _ _) qk); have qc0 : w1.heap.size < w4.heap.size := (by omega); have qc1 : ¬ w1.heap.size = w4.heap.size := (by omega); have qc2 : ¬ w4.heap.size = w1.heap.size := (by omega); have qd0 : w3.heap.size < w4.heap.size := (by omega); have qd1 : ¬ w3.heap.size = w4.heap.size := (by omega); have qd2 : ¬ w4.heap.size = w3.heap.size := (by omega); clear qk) | (go_at_call 9; (with_reducible refine Calls.mono (works10_w _ (by first | exact TB.out.kp KWw4.out)) ?_); rintro e' wz ⟨rfl, qk⟩; have KZ := Lib.hid (Kp.trans (by first | exact KWw4.out) qk); clear qk))
  go_ret
  exact ⟨rfl, KZ.out⟩
set_option maxHeartbeats 16000000 in
theorem who_hs (x : Int) (x0 : 0 ≤ x) (x1 : x < 4294967296) (h : Nat) (h1 : h < 65536) (hh : (h : Int) = x % 65536) (hl : ¬ x % 4 = 3) (v : Nat) (op fn rd r1 r2 imm wid : Int) (wo us : Bool) (he : ex h = some v) (v1 : v < 4294967296) (hs : spec v = some ⟨op, fn, rd, r1, r2, imm, wid, wo, us⟩)
    (c : ∀ w, Tb w → Calls Tryz.prog 5 #[.int .u32 x] w fun e w' => e = .returned (.agg #[.int .i64 op, .int .i64 fn, .int .i64 rd, .int .i64 r1, .int .i64 r2, .int .i64 imm, .int .i64 wid, .bool wo, .bool us, .int .i64 2, .int .u32 (h : Int)]) ∧ Kp w w')
    (p : ∀ w, Calls Tryz.prog 19 #[.agg #[.int .i64 op, .int .i64 fn, .int .i64 rd, .int .i64 r1, .int .i64 r2, .int .i64 imm, .int .i64 wid, .bool wo, .bool us, .int .i64 2, .int .u32 (h : Int)]] w fun e w' => e = .returned (.bool false) ∧ Kp w w') (w : World) (tb : Tb w) :
    Calls Tryz.prog 11 #[.int .u32 x] w fun e w' => e = .returned (.bool true) ∧ Kp w w' := by
  have q1 := ins_eql op fn rd r1 r2 imm wid wo us 2 (h : Int)
  have hl1 : (x % 4 != 3) = true := by simp; omega
  have hl2 : (x.tmod 4 != 3) = true := by rw [Int.tmod_eq_emod_of_nonneg x0]; exact hl1
  have hw : IntKind.u16.wrap x = (h : Int) := by rw [IntKind.wrap_u16]; omega
  have hw2 : x % 65536 = (h : Int) := hh.symm
  have HE := Lib.hid he
  have HC := Lib.hid c
  have HP := Lib.hid p
  have TB := Lib.hid tb
  clear hl hh he c p tb
  have HS := Lib.hid hs
  clear hs
  go_enter Tryz.func11, Tryz.ntmps11
  go_wp2_with (first | (go_at_call 5; (with_reducible refine (HC.out _ TB.out).mono ?_); rintro e' w1 ⟨rfl, qk⟩; have HKw1 := Lib.hid qk; have TB1 := Lib.hid ((TB.out.kp qk).kp ((Kp.refl _).allocs #[.int .i64 op, .int .i64 fn, .int .i64 rd, .int .i64 r1, .int .i64 r2, .int .i64 imm, .int .i64 wid, .bool wo, .bool us, .int .i64 2, .int .u32 (h : Int)] 24)); have szw1 := qk.size; (try simp at szw1); have KWw1 := Lib.hid (Kp.trans (Kp.refl w) qk); clear qk) | (go_at_call 17; (with_reducible refine (expand_s h h1 v HE.out _ TB1.out).mono ?_); rintro e' w2 ⟨rfl, qk⟩; have HKw2 := Lib.hid qk; obtain ⟨qw20, qw21, qw22, qw23, qw24, qw25, qw26, qw27, qw28, qw29, qw210⟩ := qk.c11 (b := w1.heap.size) (.int .i64 op) (.int .i64 fn) (.int .i64 rd) (.int .i64 r1) (.int .i64 r2) (.int .i64 imm) (.int .i64 wid) (.bool wo) (.bool us) (.int .i64 2) (.int .u32 (h : Int)); have szw2 := qk.size; (try simp at szw2); have KWw2 := Lib.hid (Kp.trans (KWw1.out.allocs _ _) qk); have qa0 : w1.heap.size < w2.heap.size := (by omega); have qa1 : ¬ w1.heap.size = w2.heap.size := (by omega); have qa2 : ¬ w2.heap.size = w1.heap.size := (by omega); clear qk) | (go_at_call 18; (with_reducible refine (decode_at v (by omega) (by omega) (some ⟨op, fn, rd, r1, r2, imm, wid, wo, us⟩) HS.out _).mono ?_); rintro e' w3 ⟨rfl, qk⟩; have HKw3 := Lib.hid qk; obtain ⟨qw30, qw31, qw32, qw33, qw34, qw35, qw36, qw37, qw38, qw39, qw310⟩ := qk.c11 (b := w1.heap.size) (.int .i64 op) (.int .i64 fn) (.int .i64 rd) (.int .i64 r1) (.int .i64 r2) (.int .i64 imm) (.int .i64 wid) (.bool wo) (.bool us) (.int .i64 2) (.int .u32 (h : Int)); dsimp only [decV, Ins.v, zIns]; have szw3 := qk.size; (try simp at szw3); have KWw3 := Lib.hid (Kp.trans (KWw2.out) qk); have qb0 : w1.heap.size < w3.heap.size := (by omega); have qb1 : ¬ w1.heap.size = w3.heap.size := (by omega); have qb2 : ¬ w3.heap.size = w1.heap.size := (by omega); clear qk) | (go_at_call 19; (with_reducible refine (HP.out _).mono ?_); rintro e' w4 ⟨rfl, qk⟩; have HKw4 := Lib.hid qk; obtain ⟨qw40, qw41, qw42, qw43, qw44, qw45, qw46, qw47, qw48, qw49, qw410⟩ := qk.c11 (b := w1.heap.size) (.int .i64 op) (.int .i64 fn) (.int .i64 rd) (.int .i64 r1) (.int .i64 r2) (.int .i64 imm) (.int .i64 wid) (.bool wo) (.bool us) (.int .i64 2) (.int .u32 (h : Int)); obtain ⟨qw411, qw412, qw413, qw414, qw415, qw416, qw417, qw418, qw419, qw420, qw421⟩ := qk.c11 (b := w3.heap.size) (.int .i64 op) (.int .i64 fn) (.int .i64 rd) (.int .i64 r1) (.int .i64 r2) (.int .i64 imm) (.int .i64 wid) (.bool wo) (.bool us) (.int .i64 2) (.int .u32 (h : Int)); have szw4 := qk.size; (try simp at szw4); have KWw4 := Lib.hid (Kp.trans (KWw3.out.allocs _ _) qk); have qc0 : w1.heap.size < w4.heap.size := (by omega); have qc1 : ¬ w1.heap.size = w4.heap.size := (by omega); have qc2 : ¬ w4.heap.size = w1.heap.size := (by omega); have qd0 : w3.heap.size < w4.heap.size := (by omega); have qd1 : ¬ w3.heap.size = w4.heap.size := (by omega); have qd2 : ¬ w4.heap.size = w3.heap.size := (by omega); clear qk) | (go_at_call 9; (with_reducible refine Calls.mono (works10_w _ (by first | exact TB.out.kp KWw4.out)) ?_); rintro e' wz ⟨rfl, qk⟩; have KZ := Lib.hid (Kp.trans (by first | exact KWw4.out) qk); clear qk))
  go_ret
  exact ⟨rfl, KZ.out⟩
set_option maxHeartbeats 16000000 in
theorem who_s (x : Int) (x0 : 0 ≤ x) (x1 : x < 4294967296) (hl : x % 4 = 3) (op fn rd r1 r2 imm wid : Int) (wo us : Bool) (hs : spec x = some ⟨op, fn, rd, r1, r2, imm, wid, wo, us⟩) (hd : dspec x = none) (ho : (op == 0) = false)
    (c : ∀ w, Tb w → Calls Tryz.prog 5 #[.int .u32 x] w fun e w' => e = .returned (.agg #[.int .i64 op, .int .i64 fn, .int .i64 rd, .int .i64 r1, .int .i64 r2, .int .i64 imm, .int .i64 wid, .bool wo, .bool us, .int .i64 4, .int .u32 x]) ∧ Kp w w')
    (p : ∀ w, Calls Tryz.prog 19 #[.agg #[.int .i64 op, .int .i64 fn, .int .i64 rd, .int .i64 r1, .int .i64 r2, .int .i64 imm, .int .i64 wid, .bool wo, .bool us, .int .i64 4, .int .u32 x]] w fun e w' => e = .returned (.bool false) ∧ Kp w w') (w : World) (tb : Tb w) :
    Calls Tryz.prog 11 #[.int .u32 x] w fun e w' => e = .returned (.bool true) ∧ Kp w w' := by
  have q1 := ins_neq op fn rd r1 r2 imm wid wo us 4 x
  have hl1 : (x % 4 != 3) = false := by simp; omega
  have hl2 : (x.tmod 4 != 3) = false := by rw [Int.tmod_eq_emod_of_nonneg x0]; exact hl1
  have HS := Lib.hid hs
  have HD := Lib.hid hd
  have HC := Lib.hid c
  have HP := Lib.hid p
  have TB := Lib.hid tb
  clear hl hs hd c p tb
  go_enter Tryz.func11, Tryz.ntmps11
  go_wp2_with (first | (go_at_call 5; (with_reducible refine (HC.out _ TB.out).mono ?_); rintro e' w1 ⟨rfl, qk⟩; have HKw1 := Lib.hid qk; have TB1 := Lib.hid ((TB.out.kp qk).kp ((Kp.refl _).allocs #[.int .i64 op, .int .i64 fn, .int .i64 rd, .int .i64 r1, .int .i64 r2, .int .i64 imm, .int .i64 wid, .bool wo, .bool us, .int .i64 4, .int .u32 x] 24)); have szw1 := qk.size; (try simp at szw1); have KWw1 := Lib.hid (Kp.trans (Kp.refl w) qk); clear qk) | (go_at_call 18; (with_reducible refine (decode_at x x0 x1 (some ⟨op, fn, rd, r1, r2, imm, wid, wo, us⟩) HS.out _).mono ?_); rintro e' w2 ⟨rfl, qk⟩; have HKw2 := Lib.hid qk; obtain ⟨qw20, qw21, qw22, qw23, qw24, qw25, qw26, qw27, qw28, qw29, qw210⟩ := qk.c11 (b := w1.heap.size) (.int .i64 op) (.int .i64 fn) (.int .i64 rd) (.int .i64 r1) (.int .i64 r2) (.int .i64 imm) (.int .i64 wid) (.bool wo) (.bool us) (.int .i64 4) (.int .u32 x); dsimp only [decV, Ins.v, zIns]; have szw2 := qk.size; (try simp at szw2); have KWw2 := Lib.hid (Kp.trans (KWw1.out.allocs _ _) qk); have qa0 : w1.heap.size < w2.heap.size := (by omega); have qa1 : ¬ w1.heap.size = w2.heap.size := (by omega); have qa2 : ¬ w2.heap.size = w1.heap.size := (by omega); clear qk) | (go_at_call 20; (with_reducible refine (ddec_at x x0 x1 none HD.out _).mono ?_); rintro e' w3 ⟨rfl, qk⟩; have HKw3 := Lib.hid qk; obtain ⟨qw30, qw31, qw32, qw33, qw34, qw35, qw36, qw37, qw38, qw39, qw310⟩ := qk.c11 (b := w1.heap.size) (.int .i64 op) (.int .i64 fn) (.int .i64 rd) (.int .i64 r1) (.int .i64 r2) (.int .i64 imm) (.int .i64 wid) (.bool wo) (.bool us) (.int .i64 4) (.int .u32 x); obtain ⟨qw311, qw312, qw313, qw314, qw315, qw316, qw317, qw318, qw319, qw320, qw321⟩ := qk.c11 (b := w2.heap.size) (.int .i64 op) (.int .i64 fn) (.int .i64 rd) (.int .i64 r1) (.int .i64 r2) (.int .i64 imm) (.int .i64 wid) (.bool wo) (.bool us) (.int .i64 4) (.int .u32 x); dsimp only [ddV, Ins.v, zIns]; have szw3 := qk.size; (try simp at szw3); have KWw3 := Lib.hid (Kp.trans (KWw2.out.allocs _ _) qk); have qb0 : w1.heap.size < w3.heap.size := (by omega); have qb1 : ¬ w1.heap.size = w3.heap.size := (by omega); have qb2 : ¬ w3.heap.size = w1.heap.size := (by omega); have qc0 : w2.heap.size < w3.heap.size := (by omega); have qc1 : ¬ w2.heap.size = w3.heap.size := (by omega); have qc2 : ¬ w3.heap.size = w2.heap.size := (by omega); clear qk) | (go_at_call 19; (with_reducible refine (HP.out _).mono ?_); rintro e' w4 ⟨rfl, qk⟩; have HKw4 := Lib.hid qk; obtain ⟨qw40, qw41, qw42, qw43, qw44, qw45, qw46, qw47, qw48, qw49, qw410⟩ := qk.c11 (b := w1.heap.size) (.int .i64 op) (.int .i64 fn) (.int .i64 rd) (.int .i64 r1) (.int .i64 r2) (.int .i64 imm) (.int .i64 wid) (.bool wo) (.bool us) (.int .i64 4) (.int .u32 x); obtain ⟨qw411, qw412, qw413, qw414, qw415, qw416, qw417, qw418, qw419, qw420, qw421⟩ := qk.c11 (b := w2.heap.size) (.int .i64 op) (.int .i64 fn) (.int .i64 rd) (.int .i64 r1) (.int .i64 r2) (.int .i64 imm) (.int .i64 wid) (.bool wo) (.bool us) (.int .i64 4) (.int .u32 x); obtain ⟨qw422, qw423, qw424, qw425, qw426, qw427, qw428, qw429, qw430, qw431, qw432⟩ := qk.c11 (b := w3.heap.size) (.int .i64 0) (.int .i64 0) (.int .i64 0) (.int .i64 0) (.int .i64 0) (.int .i64 0) (.int .i64 0) (.bool false) (.bool false) (.int .i64 0) (.int .u32 0); have szw4 := qk.size; (try simp at szw4); have KWw4 := Lib.hid (Kp.trans (KWw3.out.allocs _ _) qk); have qd0 : w1.heap.size < w4.heap.size := (by omega); have qd1 : ¬ w1.heap.size = w4.heap.size := (by omega); have qd2 : ¬ w4.heap.size = w1.heap.size := (by omega); have qe0 : w2.heap.size < w4.heap.size := (by omega); have qe1 : ¬ w2.heap.size = w4.heap.size := (by omega); have qe2 : ¬ w4.heap.size = w2.heap.size := (by omega); have qf0 : w3.heap.size < w4.heap.size := (by omega); have qf1 : ¬ w3.heap.size = w4.heap.size := (by omega); have qf2 : ¬ w4.heap.size = w3.heap.size := (by omega); clear qk) | (go_at_call 9; (with_reducible refine Calls.mono (works10_w _ (by first | exact TB.out.kp KWw4.out)) ?_); rintro e' wz ⟨rfl, qk⟩; have KZ := Lib.hid (Kp.trans (by first | exact KWw4.out) qk); clear qk))
  go_ret
  exact ⟨rfl, KZ.out⟩
set_option maxHeartbeats 16000000 in
theorem who_d (x : Int) (x0 : 0 ≤ x) (x1 : x < 4294967296) (hl : x % 4 = 3) (op fn rd r1 r2 imm wid : Int) (wo us : Bool) (hs : spec x = none) (hd : dspec x = some ⟨op, fn, rd, r1, r2, imm, wid, wo, us⟩) (ho : (op == 0) = false)
    (c : ∀ w, Tb w → Calls Tryz.prog 5 #[.int .u32 x] w fun e w' => e = .returned (.agg #[.int .i64 op, .int .i64 fn, .int .i64 rd, .int .i64 r1, .int .i64 r2, .int .i64 imm, .int .i64 wid, .bool wo, .bool us, .int .i64 4, .int .u32 x]) ∧ Kp w w')
    (p : ∀ w, Calls Tryz.prog 19 #[.agg #[.int .i64 op, .int .i64 fn, .int .i64 rd, .int .i64 r1, .int .i64 r2, .int .i64 imm, .int .i64 wid, .bool wo, .bool us, .int .i64 4, .int .u32 x]] w fun e w' => e = .returned (.bool true) ∧ Kp w w') (w : World) (tb : Tb w) :
    Calls Tryz.prog 11 #[.int .u32 x] w fun e w' => e = .returned (.bool true) ∧ Kp w w' := by
  have q1 := ins_neq op fn rd r1 r2 imm wid wo us 4 x
  have hl1 : (x % 4 != 3) = false := by simp; omega
  have hl2 : (x.tmod 4 != 3) = false := by rw [Int.tmod_eq_emod_of_nonneg x0]; exact hl1
  have HS := Lib.hid hs
  have HD := Lib.hid hd
  have HC := Lib.hid c
  have HP := Lib.hid p
  have TB := Lib.hid tb
  clear hl hs hd c p tb
  go_enter Tryz.func11, Tryz.ntmps11
  go_wp2_with (first | (go_at_call 5; (with_reducible refine (HC.out _ TB.out).mono ?_); rintro e' w1 ⟨rfl, qk⟩; have HKw1 := Lib.hid qk; have TB1 := Lib.hid ((TB.out.kp qk).kp ((Kp.refl _).allocs #[.int .i64 op, .int .i64 fn, .int .i64 rd, .int .i64 r1, .int .i64 r2, .int .i64 imm, .int .i64 wid, .bool wo, .bool us, .int .i64 4, .int .u32 x] 24)); have szw1 := qk.size; (try simp at szw1); have KWw1 := Lib.hid (Kp.trans (Kp.refl w) qk); clear qk) | (go_at_call 18; (with_reducible refine (decode_at x x0 x1 none HS.out _).mono ?_); rintro e' w2 ⟨rfl, qk⟩; have HKw2 := Lib.hid qk; obtain ⟨qw20, qw21, qw22, qw23, qw24, qw25, qw26, qw27, qw28, qw29, qw210⟩ := qk.c11 (b := w1.heap.size) (.int .i64 op) (.int .i64 fn) (.int .i64 rd) (.int .i64 r1) (.int .i64 r2) (.int .i64 imm) (.int .i64 wid) (.bool wo) (.bool us) (.int .i64 4) (.int .u32 x); dsimp only [decV, Ins.v, zIns]; have szw2 := qk.size; (try simp at szw2); have KWw2 := Lib.hid (Kp.trans (KWw1.out.allocs _ _) qk); have qa0 : w1.heap.size < w2.heap.size := (by omega); have qa1 : ¬ w1.heap.size = w2.heap.size := (by omega); have qa2 : ¬ w2.heap.size = w1.heap.size := (by omega); clear qk) | (go_at_call 20; (with_reducible refine (ddec_at x x0 x1 (some ⟨op, fn, rd, r1, r2, imm, wid, wo, us⟩) HD.out _).mono ?_); rintro e' w3 ⟨rfl, qk⟩; have HKw3 := Lib.hid qk; obtain ⟨qw30, qw31, qw32, qw33, qw34, qw35, qw36, qw37, qw38, qw39, qw310⟩ := qk.c11 (b := w1.heap.size) (.int .i64 op) (.int .i64 fn) (.int .i64 rd) (.int .i64 r1) (.int .i64 r2) (.int .i64 imm) (.int .i64 wid) (.bool wo) (.bool us) (.int .i64 4) (.int .u32 x); obtain ⟨qw311, qw312, qw313, qw314, qw315, qw316, qw317, qw318, qw319, qw320, qw321⟩ := qk.c11 (b := w2.heap.size) (.int .i64 0) (.int .i64 0) (.int .i64 0) (.int .i64 0) (.int .i64 0) (.int .i64 0) (.int .i64 0) (.bool false) (.bool false) (.int .i64 0) (.int .u32 0); dsimp only [ddV, Ins.v, zIns]; have szw3 := qk.size; (try simp at szw3); have KWw3 := Lib.hid (Kp.trans (KWw2.out.allocs _ _) qk); have qb0 : w1.heap.size < w3.heap.size := (by omega); have qb1 : ¬ w1.heap.size = w3.heap.size := (by omega); have qb2 : ¬ w3.heap.size = w1.heap.size := (by omega); have qc0 : w2.heap.size < w3.heap.size := (by omega); have qc1 : ¬ w2.heap.size = w3.heap.size := (by omega); have qc2 : ¬ w3.heap.size = w2.heap.size := (by omega); clear qk) | (go_at_call 19; (with_reducible refine (HP.out _).mono ?_); rintro e' w4 ⟨rfl, qk⟩; have HKw4 := Lib.hid qk; obtain ⟨qw40, qw41, qw42, qw43, qw44, qw45, qw46, qw47, qw48, qw49, qw410⟩ := qk.c11 (b := w1.heap.size) (.int .i64 op) (.int .i64 fn) (.int .i64 rd) (.int .i64 r1) (.int .i64 r2) (.int .i64 imm) (.int .i64 wid) (.bool wo) (.bool us) (.int .i64 4) (.int .u32 x); obtain ⟨qw411, qw412, qw413, qw414, qw415, qw416, qw417, qw418, qw419, qw420, qw421⟩ := qk.c11 (b := w2.heap.size) (.int .i64 0) (.int .i64 0) (.int .i64 0) (.int .i64 0) (.int .i64 0) (.int .i64 0) (.int .i64 0) (.bool false) (.bool false) (.int .i64 0) (.int .u32 0); obtain ⟨qw422, qw423, qw424, qw425, qw426, qw427, qw428, qw429, qw430, qw431, qw432⟩ := qk.c11 (b := w3.heap.size) (.int .i64 op) (.int .i64 fn) (.int .i64 rd) (.int .i64 r1) (.int .i64 r2) (.int .i64 imm) (.int .i64 wid) (.bool wo) (.bool us) (.int .i64 4) (.int .u32 x); have szw4 := qk.size; (try simp at szw4); have KWw4 := Lib.hid (Kp.trans (KWw3.out.allocs _ _) qk); have qd0 : w1.heap.size < w4.heap.size := (by omega); have qd1 : ¬ w1.heap.size = w4.heap.size := (by omega); have qd2 : ¬ w4.heap.size = w1.heap.size := (by omega); have qe0 : w2.heap.size < w4.heap.size := (by omega); have qe1 : ¬ w2.heap.size = w4.heap.size := (by omega); have qe2 : ¬ w4.heap.size = w2.heap.size := (by omega); have qf0 : w3.heap.size < w4.heap.size := (by omega); have qf1 : ¬ w3.heap.size = w4.heap.size := (by omega); have qf2 : ¬ w4.heap.size = w3.heap.size := (by omega); clear qk) | (go_at_call 9; (with_reducible refine Calls.mono (works10_w _ (by first | exact TB.out.kp KWw4.out)) ?_); rintro e' wz ⟨rfl, qk⟩; have KZ := Lib.hid (Kp.trans (by first | exact KWw4.out) qk); clear qk))
  go_ret
  exact ⟨rfl, KZ.out⟩
set_option maxHeartbeats 16000000 in
theorem who_n (x : Int) (x0 : 0 ≤ x) (x1 : x < 4294967296) (hl : x % 4 = 3) (hs : spec x = none) (hd : dspec x = none)
    (c : ∀ w, Tb w → Calls Tryz.prog 5 #[.int .u32 x] w fun e w' => e = .returned (.agg #[.int .i64 0, .int .i64 0, .int .i64 0, .int .i64 0, .int .i64 0, .int .i64 0, .int .i64 0, .bool false, .bool false, .int .i64 4, .int .u32 x]) ∧ Kp w w')
    (p : ∀ w, Calls Tryz.prog 19 #[.agg #[.int .i64 0, .int .i64 0, .int .i64 0, .int .i64 0, .int .i64 0, .int .i64 0, .int .i64 0, .bool false, .bool false, .int .i64 4, .int .u32 x]] w fun e w' => e = .returned (.bool false) ∧ Kp w w') (w : World) (tb : Tb w) :
    Calls Tryz.prog 11 #[.int .u32 x] w fun e w' => e = .returned (.bool true) ∧ Kp w w' := by
  have q1 := ins_neq 0 0 0 0 0 0 0 false false 4 x
  have hl1 : (x % 4 != 3) = false := by simp; omega
  have hl2 : (x.tmod 4 != 3) = false := by rw [Int.tmod_eq_emod_of_nonneg x0]; exact hl1
  have HS := Lib.hid hs
  have HD := Lib.hid hd
  have HC := Lib.hid c
  have HP := Lib.hid p
  have TB := Lib.hid tb
  clear hl hs hd c p tb
  go_enter Tryz.func11, Tryz.ntmps11
  go_wp2_with (first | (go_at_call 5; (with_reducible refine (HC.out _ TB.out).mono ?_); rintro e' w1 ⟨rfl, qk⟩; have HKw1 := Lib.hid qk; have TB1 := Lib.hid ((TB.out.kp qk).kp ((Kp.refl _).allocs #[.int .i64 0, .int .i64 0, .int .i64 0, .int .i64 0, .int .i64 0, .int .i64 0, .int .i64 0, .bool false, .bool false, .int .i64 4, .int .u32 x] 24)); have szw1 := qk.size; (try simp at szw1); have KWw1 := Lib.hid (Kp.trans (Kp.refl w) qk); clear qk) | (go_at_call 18; (with_reducible refine (decode_at x x0 x1 none HS.out _).mono ?_); rintro e' w2 ⟨rfl, qk⟩; have HKw2 := Lib.hid qk; obtain ⟨qw20, qw21, qw22, qw23, qw24, qw25, qw26, qw27, qw28, qw29, qw210⟩ := qk.c11 (b := w1.heap.size) (.int .i64 0) (.int .i64 0) (.int .i64 0) (.int .i64 0) (.int .i64 0) (.int .i64 0) (.int .i64 0) (.bool false) (.bool false) (.int .i64 4) (.int .u32 x); dsimp only [decV, Ins.v, zIns]; have szw2 := qk.size; (try simp at szw2); have KWw2 := Lib.hid (Kp.trans (KWw1.out.allocs _ _) qk); have qa0 : w1.heap.size < w2.heap.size := (by omega); have qa1 : ¬ w1.heap.size = w2.heap.size := (by omega); have qa2 : ¬ w2.heap.size = w1.heap.size := (by omega); clear qk) | (go_at_call 20; (with_reducible refine (ddec_at x x0 x1 none HD.out _).mono ?_); rintro e' w3 ⟨rfl, qk⟩; have HKw3 := Lib.hid qk; obtain ⟨qw30, qw31, qw32, qw33, qw34, qw35, qw36, qw37, qw38, qw39, qw310⟩ := qk.c11 (b := w1.heap.size) (.int .i64 0) (.int .i64 0) (.int .i64 0) (.int .i64 0) (.int .i64 0) (.int .i64 0) (.int .i64 0) (.bool false) (.bool false) (.int .i64 4) (.int .u32 x); obtain ⟨qw311, qw312, qw313, qw314, qw315, qw316, qw317, qw318, qw319, qw320, qw321⟩ := qk.c11 (b := w2.heap.size) (.int .i64 0) (.int .i64 0) (.int .i64 0) (.int .i64 0) (.int .i64 0) (.int .i64 0) (.int .i64 0) (.bool false) (.bool false) (.int .i64 0) (.int .u32 0); dsimp only [ddV, Ins.v, zIns]; have szw3 := qk.size; (try simp at szw3); have KWw3 := Lib.hid (Kp.trans (KWw2.out.allocs _ _) qk); have qb0 : w1.heap.size < w3.heap.size := (by omega); have qb1 : ¬ w1.heap.size = w3.heap.size := (by omega); have qb2 : ¬ w3.heap.size = w1.heap.size := (by omega); have qc0 : w2.heap.size < w3.heap.size := (by omega); have qc1 : ¬ w2.heap.size = w3.heap.size := (by omega); have qc2 : ¬ w3.heap.size = w2.heap.size := (by omega); clear qk) | (go_at_call 19; (with_reducible refine (HP.out _).mono ?_); rintro e' w4 ⟨rfl, qk⟩; have HKw4 := Lib.hid qk; obtain ⟨qw40, qw41, qw42, qw43, qw44, qw45, qw46, qw47, qw48, qw49, qw410⟩ := qk.c11 (b := w1.heap.size) (.int .i64 0) (.int .i64 0) (.int .i64 0) (.int .i64 0) (.int .i64 0) (.int .i64 0) (.int .i64 0) (.bool false) (.bool false) (.int .i64 4) (.int .u32 x); obtain ⟨qw411, qw412, qw413, qw414, qw415, qw416, qw417, qw418, qw419, qw420, qw421⟩ := qk.c11 (b := w2.heap.size) (.int .i64 0) (.int .i64 0) (.int .i64 0) (.int .i64 0) (.int .i64 0) (.int .i64 0) (.int .i64 0) (.bool false) (.bool false) (.int .i64 0) (.int .u32 0); obtain ⟨qw422, qw423, qw424, qw425, qw426, qw427, qw428, qw429, qw430, qw431, qw432⟩ := qk.c11 (b := w3.heap.size) (.int .i64 0) (.int .i64 0) (.int .i64 0) (.int .i64 0) (.int .i64 0) (.int .i64 0) (.int .i64 0) (.bool false) (.bool false) (.int .i64 0) (.int .u32 0); have szw4 := qk.size; (try simp at szw4); have KWw4 := Lib.hid (Kp.trans (KWw3.out.allocs _ _) qk); have qd0 : w1.heap.size < w4.heap.size := (by omega); have qd1 : ¬ w1.heap.size = w4.heap.size := (by omega); have qd2 : ¬ w4.heap.size = w1.heap.size := (by omega); have qe0 : w2.heap.size < w4.heap.size := (by omega); have qe1 : ¬ w2.heap.size = w4.heap.size := (by omega); have qe2 : ¬ w4.heap.size = w2.heap.size := (by omega); have qf0 : w3.heap.size < w4.heap.size := (by omega); have qf1 : ¬ w3.heap.size = w4.heap.size := (by omega); have qf2 : ¬ w4.heap.size = w3.heap.size := (by omega); clear qk) | (go_at_call 9; (with_reducible refine Calls.mono (works10_w _ (by first | exact TB.out.kp (KWw3.out.allocs _ _))) ?_); rintro e' wz ⟨rfl, qk⟩; have KZ := Lib.hid (Kp.trans (by first | exact KWw3.out.allocs _ _) qk); clear qk))
  go_ret
  exact ⟨rfl, KZ.out⟩
theorem who_w (x : Int) (x0 : 0 ≤ x) (x1 : x < 4294967296) (w : World) (tb : Tb w) :
    Calls Tryz.prog 11 #[.int .u32 x] w fun e w' => e = .returned (.bool true) ∧ Kp w w' := by
  by_cases hl : x % 4 = 3
  · have e : dcd x = lngD x := by rw [dcd, if_pos hl]
    unfold lngD at e
    cases hs : spec x with
    | some i =>
      have hd : dspec x = none := by
        cases hd : dspec x with
        | none => rfl
        | some j => rw [dapart x j hd] at hs; cases hs
      have hc := cap_s x i hs
      have ho := op_s x i hs
      rw [hs] at e
      obtain ⟨op, fn, rd, r1, r2, imm, wid, wo, us⟩ := i
      exact who_s x x0 x1 hl op fn rd r1 r2 imm wid wo us hs hd (by simp at ho ⊢; omega) (fun w tb => dcd_at x x0 x1 _ e w tb) (fun w => capable_w _ 4 x false hc w) w tb
    | none =>
      rw [hs] at e
      cases hd : dspec x with
      | some i =>
        have hc := cap_d x i hd
        have ho := op_d x i hd
        rw [hd] at e
        obtain ⟨op, fn, rd, r1, r2, imm, wid, wo, us⟩ := i
        exact who_d x x0 x1 hl op fn rd r1 r2 imm wid wo us hs hd (by simp at ho ⊢; omega) (fun w tb => dcd_at x x0 x1 _ e w tb) (fun w => capable_w _ 4 x true hc w) w tb
      | none =>
        rw [hd] at e
        exact who_n x x0 x1 hl hs hd (fun w tb => dcd_at x x0 x1 _ e w tb) (fun w => capable_w zIns 4 x false (by decide) w) w tb
  · have hh : (((x % 65536).toNat : Nat) : Int) = x % 65536 := Int.toNat_of_nonneg (by omega)
    have e : dcd x = hlfD (x % 65536).toNat := by rw [dcd, if_neg hl]
    generalize (x % 65536).toNat = h at *
    have hx : h < 65536 := by omega
    unfold hlfD at e
    rcases facts h hx with ⟨he, d⟩ | ⟨v, i, he, d, v0, v1, m1, m2, hi, hk, hr, ht⟩
    · rw [he] at e
      exact who_hn x x0 x1 h hx hh hl he (fun w tb => dcd_at x x0 x1 _ e w tb) (fun w => capable_w zIns 2 h false (by decide) w) w tb
    · have hc := cap_s v i hi
      rw [he] at e
      dsimp only at e
      rw [hi] at e
      obtain ⟨op, fn, rd, r1, r2, imm, wid, wo, us⟩ := i
      exact who_hs x x0 x1 h hx hh hl v op fn rd r1 r2 imm wid wo us he v1 hi (fun w tb => dcd_at x x0 x1 _ e w tb) (fun w => capable_w _ 2 h false hc w) w tb
end Go.Proofs.YtlfeandnpflaaaaGreatDoor
