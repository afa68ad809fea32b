/-
  The program's bus: InRam, Load, Store, by what they answer and leave. No condition.
-/
import Derived.Test.YtikibfpfieoabaaJFind
namespace Go.Proofs.Ytikibfpfieoabaa
open Go.ChangeShapes Go.WideShapes Go.ChangeAt Go.RowKit
set_option linter.unusedVariables false
set_option linter.unusedSimpArgs false
set_option maxRecDepth 4000
theorem dv_1 {len : Nat} {pa size : Int} (h : dvJ len pa size = 1) : szB size = true ∧ inJ pa size 2147483648 (len : Int) = true := by
  unfold dvJ at h
  repeat' split at h
  all_goals first | (exfalso; omega) | simp_all
theorem dv_2 {len : Nat} {pa size : Int} (h : dvJ len pa size = 2) : szB size = true ∧ inJ pa size 2147483648 (len : Int) = false ∧ inJ pa size 33554432 65536 = true := by
  unfold dvJ at h
  repeat' split at h
  all_goals first | (exfalso; omega) | simp_all
theorem dv_3 {len : Nat} {pa size : Int} (h : dvJ len pa size = 3) : szB size = true ∧ inJ pa size 2147483648 (len : Int) = false ∧ inJ pa size 33554432 65536 = false ∧ inJ pa size 201326592 4194304 = true := by
  unfold dvJ at h
  repeat' split at h
  all_goals first | (exfalso; omega) | simp_all
theorem dv_4 {len : Nat} {pa size : Int} (h : dvJ len pa size = 4) : szB size = true ∧ inJ pa size 2147483648 (len : Int) = false ∧ inJ pa size 33554432 65536 = false ∧ inJ pa size 201326592 4194304 = false ∧ inJ pa size 268435456 256 = true := by
  unfold dvJ at h
  repeat' split at h
  all_goals first | (exfalso; omega) | simp_all
theorem dv_5 {len : Nat} {pa size : Int} (h : dvJ len pa size = 5) : szB size = true ∧ inJ pa size 2147483648 (len : Int) = false ∧ inJ pa size 33554432 65536 = false ∧ inJ pa size 201326592 4194304 = false ∧ inJ pa size 268435456 256 = false ∧ inJ pa size 1048576 4096 = true := by
  unfold dvJ at h
  repeat' split at h
  all_goals first | (exfalso; omega) | simp_all
theorem dv_0 {len : Nat} {pa size : Int} (h : dvJ len pa size = 0) : szB size = false ∨ (szB size = true ∧ inJ pa size 2147483648 (len : Int) = false ∧ inJ pa size 33554432 65536 = false ∧ inJ pa size 201326592 4194304 = false ∧ inJ pa size 268435456 256 = false ∧ inJ pa size 1048576 4096 = false) := by
  unfold dvJ at h
  repeat' split at h
  all_goals first | (exfalso; omega) | simp_all
theorem dv_le (len : Nat) (pa size : Int) : dvJ len pa size = 0 ∨ dvJ len pa size = 1 ∨ dvJ len pa size = 2 ∨ dvJ len pa size = 3 ∨ dvJ len pa size = 4 ∨ dvJ len pa size = 5 := by
  unfold dvJ
  repeat' split
  all_goals omega
set_option maxHeartbeats 4000000 in
theorem jfind_s (w : World) (g : Nat) (pa size : Int) (hs : szB size = false) : Calls Try.prog 29 #[.pointer (some ⟨g, 0, none⟩), .int .u64 pa, .int .i64 size] w fun e w' => e = .returned (.tuple #[.nilIface, .int .i64 0, .bool false]) ∧ Kp w w' := by
  have HS := Lib.hid hs
  clear hs
  go_enter Try.func29, Try.ntmps29
  go_wp2_with (go_at_call 44; (with_reducible refine (jsize_w size false HS.out _).mono ?_); rintro e' w1 ⟨rfl, rfl⟩)
  refine bodyPost_ret (v := .tuple #[.nilIface, .int .i64 0, .bool false]) ?_ rfl ⟨rfl, Kp.refl _⟩
  simp [results, Try.results29, go_sem]
theorem jfind_n {w : World} {lo hi g a1 a2 a3 a4 a5 b1 b2 b3 b4 b5 : Nat} {S : BS} (m : BI w lo hi g a1 a2 a3 a4 a5 b1 b2 b3 b4 b5 S) (pa size : Int) (p0 : 0 ≤ pa) (p1 : pa < 18446744073709551616) (h : dvJ S.B.length pa size = 0) : Calls Try.prog 29 #[.pointer (some ⟨g, 0, none⟩), .int .u64 pa, .int .i64 size] w fun e w' => e = .returned (.tuple #[.nilIface, .int .i64 0, .bool false]) ∧ Kp w w' := by
  rcases dv_0 h with hs | ⟨hs, h1, h2, h3, h4, h5⟩
  · exact jfind_s w g pa size hs
  · exact jfind_0 m pa size p0 p1 hs h1 h2 h3 h4 h5
set_option maxHeartbeats 4000000 in
theorem jload_0 {w : World} {lo hi g a1 a2 a3 a4 a5 b1 b2 b3 b4 b5 : Nat} {S : BS} (m : BI w lo hi g a1 a2 a3 a4 a5 b1 b2 b3 b4 b5 S) (ok : S.Ok) (pa size : Int) (p0 : 0 ≤ pa) (p1 : pa < 18446744073709551616) (s0 : -9223372036854775808 ≤ size) (s1 : size < 9223372036854775808) (h : dvJ S.B.length pa size = 0) : Calls Try.prog 10 #[.pointer (some ⟨g, 0, none⟩), .int .u64 pa, .int .i64 size] w fun e w' => e = .returned (.tuple #[.int .u64 (S.ldV pa size), .bool (S.ldO pa size)]) ∧ BI w' lo hi g a1 a2 a3 a4 a5 b1 b2 b3 b4 b5 (S.ldS pa size) ∧ Fr w w' (Rg lo hi) := by
  rw [show S.ldV pa size = 0 by simp only [BS.ldV, h], show S.ldO pa size = false by simp only [BS.ldO, h], show S.ldS pa size = S by simp only [BS.ldS, h]]
  have HM := Lib.hid m
  have HF := Lib.hid (jfind_n m pa size p0 p1 h)
  clear m h
  go_enter Try.func10, Try.ntmps10
  go_wp2_with (go_at_call 29; (with_reducible refine HF.out.mono ?_); rintro e' w1 ⟨rfl, qk⟩; have K1 := Lib.hid qk; clear qk)
  go_ret2
  exact ⟨rfl, HM.out.kp K1.out, Fr.of_kp K1.out _⟩
set_option maxHeartbeats 4000000 in
theorem jload_1 {w : World} {lo hi g a1 a2 a3 a4 a5 b1 b2 b3 b4 b5 : Nat} {S : BS} (m : BI w lo hi g a1 a2 a3 a4 a5 b1 b2 b3 b4 b5 S) (ok : S.Ok) (pa size : Int) (p0 : 0 ≤ pa) (p1 : pa < 18446744073709551616) (s0 : -9223372036854775808 ≤ size) (s1 : size < 9223372036854775808) (h : dvJ S.B.length pa size = 1) : Calls Try.prog 10 #[.pointer (some ⟨g, 0, none⟩), .int .u64 pa, .int .i64 size] w fun e w' => e = .returned (.tuple #[.int .u64 (S.ldV pa size), .bool (S.ldO pa size)]) ∧ BI w' lo hi g a1 a2 a3 a4 a5 b1 b2 b3 b4 b5 (S.ldS pa size) ∧ Fr w w' (Rg lo hi) := by
  rw [show S.ldV pa size = ldN S.B (pa - 2147483648) size by simp only [BS.ldV, h], show S.ldO pa size = ldO S.B.length (pa - 2147483648) size by simp only [BS.ldO, h], show S.ldS pa size = S by simp only [BS.ldS, h]]
  have hl := m.ram.lim
  obtain ⟨hs, h1⟩ := dv_1 h
  have hz := szB_nat' size hs
  have hx : 0 ≤ pa - 2147483648 ∧ pa - 2147483648 < 4294967296 := by simp [inJ] at h1; omega
  have HF := Lib.hid (jfind_1 m pa size p0 p1 hs h1)
  have HM := Lib.hid m
  have HO := Lib.hid ok
  have hm : ∀ w : World, (method 277 42 (.pointer (some ⟨b1, 0, none⟩)) "Load").run Try.prog w = .ok (76, .pointer (some ⟨b1, 0, none⟩)) w := fun _ => by kernel_rfl
  obtain ⟨off, ho⟩ : ∃ off, pa - 2147483648 = off := ⟨_, rfl⟩
  rw [ho] at hx HF ⊢
  clear m ok h hl hs hz h1 ho
  go_enter Try.func10, Try.ntmps10
  go_wp2_with (first | (go_at_call 29; (with_reducible refine HF.out.mono ?_); rintro e' w1 ⟨rfl, qk⟩; have K1 := Lib.hid qk; clear qk) | (go_at_call 76; have mm := HM.out.kp K1.out; (with_reducible refine (cload_w mm.ram off size (by omega) (by omega) s0 s1).mono ?_); rintro e' w2 ⟨rfl, q⟩; have Q := Lib.hid (⟨mm.below q, (Fr.of_kp K1.out _).below q (fun i hi _ => Nat.lt_of_lt_of_le hi K1.out.size)⟩ : BI w2 lo hi g a1 a2 a3 a4 a5 b1 b2 b3 b4 b5 S ∧ Fr w w2 (Rg lo hi)); clear q mm))
  go_ret2
  exact ⟨rfl, Q.out.1, Q.out.2⟩
set_option maxHeartbeats 4000000 in
theorem jload_2 {w : World} {lo hi g a1 a2 a3 a4 a5 b1 b2 b3 b4 b5 : Nat} {S : BS} (m : BI w lo hi g a1 a2 a3 a4 a5 b1 b2 b3 b4 b5 S) (ok : S.Ok) (pa size : Int) (p0 : 0 ≤ pa) (p1 : pa < 18446744073709551616) (s0 : -9223372036854775808 ≤ size) (s1 : size < 9223372036854775808) (h : dvJ S.B.length pa size = 2) : Calls Try.prog 10 #[.pointer (some ⟨g, 0, none⟩), .int .u64 pa, .int .i64 size] w fun e w' => e = .returned (.tuple #[.int .u64 (S.ldV pa size), .bool (S.ldO pa size)]) ∧ BI w' lo hi g a1 a2 a3 a4 a5 b1 b2 b3 b4 b5 (S.ldS pa size) ∧ Fr w w' (Rg lo hi) := by
  rw [show S.ldV pa size = S.t.ldV (pa - 33554432) size by simp only [BS.ldV, h], show S.ldO pa size = rgT (pa - 33554432) size by simp only [BS.ldO, h], show S.ldS pa size = S by simp only [BS.ldS, h]]
  have hl := m.ram.lim
  obtain ⟨hs, h1, h2⟩ := dv_2 h
  have hz := szB_nat' size hs
  have hx : 0 ≤ pa - 33554432 ∧ pa - 33554432 < 4294967296 := by simp [inJ] at h2; omega
  have HF := Lib.hid (jfind_2 m pa size p0 p1 hs h1 h2)
  have HM := Lib.hid m
  have HO := Lib.hid ok
  have hm : ∀ w : World, (method 277 43 (.pointer (some ⟨b2, 0, none⟩)) "Load").run Try.prog w = .ok (79, .pointer (some ⟨b2, 0, none⟩)) w := fun _ => by kernel_rfl
  obtain ⟨off, ho⟩ : ∃ off, pa - 33554432 = off := ⟨_, rfl⟩
  rw [ho] at hx HF ⊢
  clear m ok h hl hs hz h1 h2 ho
  go_enter Try.func10, Try.ntmps10
  go_wp2_with (first | (go_at_call 29; (with_reducible refine HF.out.mono ?_); rintro e' w1 ⟨rfl, qk⟩; have K1 := Lib.hid qk; clear qk) | (go_at_call 79; have mm := HM.out.kp K1.out; (with_reducible refine (ctload_w mm.cl HO.out.t (ttb_any _) off size (by omega) (by omega) s0 s1).mono ?_); rintro e' w2 ⟨rfl, q, f⟩; have Q := Lib.hid (mm.up_cl q f); clear q f mm))
  go_ret2
  exact ⟨rfl, Q.out.1, (Fr.of_kp K1.out _).trans Q.out.2 (fun _ _ x => x)⟩
set_option maxHeartbeats 4000000 in
theorem jload_3 {w : World} {lo hi g a1 a2 a3 a4 a5 b1 b2 b3 b4 b5 : Nat} {S : BS} (m : BI w lo hi g a1 a2 a3 a4 a5 b1 b2 b3 b4 b5 S) (ok : S.Ok) (pa size : Int) (p0 : 0 ≤ pa) (p1 : pa < 18446744073709551616) (s0 : -9223372036854775808 ≤ size) (s1 : size < 9223372036854775808) (h : dvJ S.B.length pa size = 3) : Calls Try.prog 10 #[.pointer (some ⟨g, 0, none⟩), .int .u64 pa, .int .i64 size] w fun e w' => e = .returned (.tuple #[.int .u64 (S.ldV pa size), .bool (S.ldO pa size)]) ∧ BI w' lo hi g a1 a2 a3 a4 a5 b1 b2 b3 b4 b5 (S.ldS pa size) ∧ Fr w w' (Rg lo hi) := by
  rw [show S.ldV pa size = S.p.ldV (pa - 201326592) size by simp only [BS.ldV, h], show S.ldO pa size = rgO (pa - 201326592) size by simp only [BS.ldO, h], show S.ldS pa size = { S with p := S.p.ldS (pa - 201326592) size } by simp only [BS.ldS, h]]
  have hl := m.ram.lim
  obtain ⟨hs, h1, h2, h3⟩ := dv_3 h
  have hz := szB_nat' size hs
  have hx : 0 ≤ pa - 201326592 ∧ pa - 201326592 < 4294967296 := by simp [inJ] at h3; omega
  have HF := Lib.hid (jfind_3 m pa size p0 p1 hs h1 h2 h3)
  have HM := Lib.hid m
  have HO := Lib.hid ok
  have hm : ∀ w : World, (method 277 44 (.pointer (some ⟨b3, 0, none⟩)) "Load").run Try.prog w = .ok (87, .pointer (some ⟨b3, 0, none⟩)) w := fun _ => by kernel_rfl
  obtain ⟨off, ho⟩ : ∃ off, pa - 201326592 = off := ⟨_, rfl⟩
  rw [ho] at hx HF ⊢
  clear m ok h hl hs hz h1 h2 h3 ho
  go_enter Try.func10, Try.ntmps10
  go_wp2_with (first | (go_at_call 29; (with_reducible refine HF.out.mono ?_); rintro e' w1 ⟨rfl, qk⟩; have K1 := Lib.hid qk; clear qk) | (go_at_call 87; have mm := HM.out.kp K1.out; (with_reducible refine (cpload_w mm.pl HO.out.p (ptb_any _) off size (by omega) (by omega) s0 s1).mono ?_); rintro e' w2 ⟨rfl, q, f⟩; have Q := Lib.hid (mm.up_pl q f); clear q f mm))
  go_ret2
  exact ⟨rfl, Q.out.1, (Fr.of_kp K1.out _).trans Q.out.2 (fun _ _ x => x)⟩
set_option maxHeartbeats 4000000 in
theorem jload_4 {w : World} {lo hi g a1 a2 a3 a4 a5 b1 b2 b3 b4 b5 : Nat} {S : BS} (m : BI w lo hi g a1 a2 a3 a4 a5 b1 b2 b3 b4 b5 S) (ok : S.Ok) (pa size : Int) (p0 : 0 ≤ pa) (p1 : pa < 18446744073709551616) (s0 : -9223372036854775808 ≤ size) (s1 : size < 9223372036854775808) (h : dvJ S.B.length pa size = 4) : Calls Try.prog 10 #[.pointer (some ⟨g, 0, none⟩), .int .u64 pa, .int .i64 size] w fun e w' => e = .returned (.tuple #[.int .u64 (S.ldV pa size), .bool (S.ldO pa size)]) ∧ BI w' lo hi g a1 a2 a3 a4 a5 b1 b2 b3 b4 b5 (S.ldS pa size) ∧ Fr w w' (Rg lo hi) := by
  rw [show S.ldV pa size = S.u.ldV (pa - 268435456) size by simp only [BS.ldV, h], show S.ldO pa size = rgU (pa - 268435456) size by simp only [BS.ldO, h], show S.ldS pa size = { S with u := S.u.ldS (pa - 268435456) size } by simp only [BS.ldS, h]]
  have hl := m.ram.lim
  obtain ⟨hs, h1, h2, h3, h4⟩ := dv_4 h
  have hz := szB_nat' size hs
  have hx : 0 ≤ pa - 268435456 ∧ pa - 268435456 < 4294967296 := by simp [inJ] at h4; omega
  have HF := Lib.hid (jfind_4 m pa size p0 p1 hs h1 h2 h3 h4)
  have HM := Lib.hid m
  have HO := Lib.hid ok
  have hm : ∀ w : World, (method 277 45 (.pointer (some ⟨b4, 0, none⟩)) "Load").run Try.prog w = .ok (99, .pointer (some ⟨b4, 0, none⟩)) w := fun _ => by kernel_rfl
  obtain ⟨off, ho⟩ : ∃ off, pa - 268435456 = off := ⟨_, rfl⟩
  rw [ho] at hx HF ⊢
  clear m ok h hl hs hz h1 h2 h3 h4 ho
  go_enter Try.func10, Try.ntmps10
  go_wp2_with (first | (go_at_call 29; (with_reducible refine HF.out.mono ?_); rintro e' w1 ⟨rfl, qk⟩; have K1 := Lib.hid qk; clear qk) | (go_at_call 99; have mm := HM.out.kp K1.out; (with_reducible refine (cuload_w mm.ua HO.out.u (utb_any _) off size (by omega) (by omega) s0 s1).mono ?_); rintro e' w2 ⟨rfl, q, f⟩; have Q := Lib.hid (mm.up_ua q f); clear q f mm))
  go_ret2
  exact ⟨rfl, Q.out.1, (Fr.of_kp K1.out _).trans Q.out.2 (fun _ _ x => x)⟩
set_option maxHeartbeats 4000000 in
theorem jload_5 {w : World} {lo hi g a1 a2 a3 a4 a5 b1 b2 b3 b4 b5 : Nat} {S : BS} (m : BI w lo hi g a1 a2 a3 a4 a5 b1 b2 b3 b4 b5 S) (ok : S.Ok) (pa size : Int) (p0 : 0 ≤ pa) (p1 : pa < 18446744073709551616) (s0 : -9223372036854775808 ≤ size) (s1 : size < 9223372036854775808) (h : dvJ S.B.length pa size = 5) : Calls Try.prog 10 #[.pointer (some ⟨g, 0, none⟩), .int .u64 pa, .int .i64 size] w fun e w' => e = .returned (.tuple #[.int .u64 (S.ldV pa size), .bool (S.ldO pa size)]) ∧ BI w' lo hi g a1 a2 a3 a4 a5 b1 b2 b3 b4 b5 (S.ldS pa size) ∧ Fr w w' (Rg lo hi) := by
  rw [show S.ldV pa size = 0 by simp only [BS.ldV, h], show S.ldO pa size = pwO (pa - 1048576) size by simp only [BS.ldO, h], show S.ldS pa size = S by simp only [BS.ldS, h]]
  have hl := m.ram.lim
  obtain ⟨hs, h1, h2, h3, h4, h5⟩ := dv_5 h
  have hz := szB_nat' size hs
  have hx : 0 ≤ pa - 1048576 ∧ pa - 1048576 < 4294967296 := by simp [inJ] at h5; omega
  have HF := Lib.hid (jfind_5 m pa size p0 p1 hs h1 h2 h3 h4 h5)
  have HM := Lib.hid m
  have HO := Lib.hid ok
  have hm : ∀ w : World, (method 277 46 (.pointer (some ⟨b5, 0, none⟩)) "Load").run Try.prog w = .ok (108, .pointer (some ⟨b5, 0, none⟩)) w := fun _ => by kernel_rfl
  obtain ⟨off, ho⟩ : ∃ off, pa - 1048576 = off := ⟨_, rfl⟩
  rw [ho] at hx HF ⊢
  clear m ok h hl hs hz h1 h2 h3 h4 h5 ho
  go_enter Try.func10, Try.ntmps10
  go_wp2_with (first | (go_at_call 29; (with_reducible refine HF.out.mono ?_); rintro e' w1 ⟨rfl, qk⟩; have K1 := Lib.hid qk; clear qk) | (go_at_call 108; have mm := HM.out.kp K1.out; (with_reducible refine (cpwload_w mm.pw (utb_any _) off size (by omega) (by omega) s0 s1).mono ?_); rintro e' w2 ⟨rfl, q, f⟩; have Q := Lib.hid (mm.up_pw q f); clear q f mm))
  go_ret2
  exact ⟨rfl, Q.out.1, (Fr.of_kp K1.out _).trans Q.out.2 (fun _ _ x => x)⟩
set_option maxHeartbeats 4000000 in
theorem jstore_0 {w : World} {lo hi g a1 a2 a3 a4 a5 b1 b2 b3 b4 b5 : Nat} {S : BS} (m : BI w lo hi g a1 a2 a3 a4 a5 b1 b2 b3 b4 b5 S) (ok : S.Ok) (pa size : Int) (p0 : 0 ≤ pa) (p1 : pa < 18446744073709551616) (s0 : -9223372036854775808 ≤ size) (s1 : size < 9223372036854775808) (v : Int) (v0 : 0 ≤ v) (v1 : v < 18446744073709551616) (h : dvJ S.B.length pa size = 0) : Calls Try.prog 11 #[.pointer (some ⟨g, 0, none⟩), .int .u64 pa, .int .i64 size, .int .u64 v] w fun e w' => e = .returned (.bool (S.ldO pa size)) ∧ BI w' lo hi g a1 a2 a3 a4 a5 b1 b2 b3 b4 b5 (S.stS pa size v) ∧ Fr w w' (Rg lo hi) := by
  rw [show S.ldO pa size = false by simp only [BS.ldO, h], show S.stS pa size v = S by simp only [BS.stS, h]]
  have HM := Lib.hid m
  have HF := Lib.hid (jfind_n m pa size p0 p1 h)
  clear m h
  go_enter Try.func11, Try.ntmps11
  go_wp2_with (go_at_call 29; (with_reducible refine HF.out.mono ?_); rintro e' w1 ⟨rfl, qk⟩; have K1 := Lib.hid qk; clear qk)
  go_ret
  exact ⟨rfl, HM.out.kp K1.out, Fr.of_kp K1.out _⟩
set_option maxHeartbeats 4000000 in
theorem jstore_1 {w : World} {lo hi g a1 a2 a3 a4 a5 b1 b2 b3 b4 b5 : Nat} {S : BS} (m : BI w lo hi g a1 a2 a3 a4 a5 b1 b2 b3 b4 b5 S) (ok : S.Ok) (pa size : Int) (p0 : 0 ≤ pa) (p1 : pa < 18446744073709551616) (s0 : -9223372036854775808 ≤ size) (s1 : size < 9223372036854775808) (v : Int) (v0 : 0 ≤ v) (v1 : v < 18446744073709551616) (h : dvJ S.B.length pa size = 1) : Calls Try.prog 11 #[.pointer (some ⟨g, 0, none⟩), .int .u64 pa, .int .i64 size, .int .u64 v] w fun e w' => e = .returned (.bool (S.ldO pa size)) ∧ BI w' lo hi g a1 a2 a3 a4 a5 b1 b2 b3 b4 b5 (S.stS pa size v) ∧ Fr w w' (Rg lo hi) := by
  rw [show S.ldO pa size = ldO S.B.length (pa - 2147483648) size by simp only [BS.ldO, h], show S.stS pa size v = { S with B := sB S.B (pa - 2147483648) size v, T := sT S.B.length S.T (pa - 2147483648) size } by simp only [BS.stS, h]]
  have hl := m.ram.lim
  obtain ⟨hs, h1⟩ := dv_1 h
  have hz := szB_nat' size hs
  have hx : 0 ≤ pa - 2147483648 ∧ pa - 2147483648 < 4294967296 := by simp [inJ] at h1; omega
  have HF := Lib.hid (jfind_1 m pa size p0 p1 hs h1)
  have HM := Lib.hid m
  have HO := Lib.hid ok
  have hm : ∀ w : World, (method 277 42 (.pointer (some ⟨b1, 0, none⟩)) "Store").run Try.prog w = .ok (77, .pointer (some ⟨b1, 0, none⟩)) w := fun _ => by kernel_rfl
  obtain ⟨off, ho⟩ : ∃ off, pa - 2147483648 = off := ⟨_, rfl⟩
  rw [ho] at hx HF ⊢
  clear m ok h hl hs hz h1 ho
  go_enter Try.func11, Try.ntmps11
  go_wp2_with (first | (go_at_call 29; (with_reducible refine HF.out.mono ?_); rintro e' w1 ⟨rfl, qk⟩; have K1 := Lib.hid qk; clear qk) | (go_at_call 77; have mm := HM.out.kp K1.out; (with_reducible refine (cstore_w mm.ram off size v (by omega) (by omega) s0 s1 v0 v1).mono ?_); rintro e' w2 ⟨rfl, q, f⟩; have Q := Lib.hid (mm.up_ram q f); clear q f mm))
  go_ret
  exact ⟨rfl, Q.out.1, (Fr.of_kp K1.out _).trans Q.out.2 (fun _ _ x => x)⟩
set_option maxHeartbeats 4000000 in
theorem jstore_2 {w : World} {lo hi g a1 a2 a3 a4 a5 b1 b2 b3 b4 b5 : Nat} {S : BS} (m : BI w lo hi g a1 a2 a3 a4 a5 b1 b2 b3 b4 b5 S) (ok : S.Ok) (pa size : Int) (p0 : 0 ≤ pa) (p1 : pa < 18446744073709551616) (s0 : -9223372036854775808 ≤ size) (s1 : size < 9223372036854775808) (v : Int) (v0 : 0 ≤ v) (v1 : v < 18446744073709551616) (h : dvJ S.B.length pa size = 2) : Calls Try.prog 11 #[.pointer (some ⟨g, 0, none⟩), .int .u64 pa, .int .i64 size, .int .u64 v] w fun e w' => e = .returned (.bool (S.ldO pa size)) ∧ BI w' lo hi g a1 a2 a3 a4 a5 b1 b2 b3 b4 b5 (S.stS pa size v) ∧ Fr w w' (Rg lo hi) := by
  rw [show S.ldO pa size = rgT (pa - 33554432) size by simp only [BS.ldO, h], show S.stS pa size v = { S with t := S.t.stS (pa - 33554432) size v } by simp only [BS.stS, h]]
  have hl := m.ram.lim
  obtain ⟨hs, h1, h2⟩ := dv_2 h
  have hz := szB_nat' size hs
  have hx : 0 ≤ pa - 33554432 ∧ pa - 33554432 < 4294967296 := by simp [inJ] at h2; omega
  have HF := Lib.hid (jfind_2 m pa size p0 p1 hs h1 h2)
  have HM := Lib.hid m
  have HO := Lib.hid ok
  have hm : ∀ w : World, (method 277 43 (.pointer (some ⟨b2, 0, none⟩)) "Store").run Try.prog w = .ok (80, .pointer (some ⟨b2, 0, none⟩)) w := fun _ => by kernel_rfl
  obtain ⟨off, ho⟩ : ∃ off, pa - 33554432 = off := ⟨_, rfl⟩
  rw [ho] at hx HF ⊢
  clear m ok h hl hs hz h1 h2 ho
  go_enter Try.func11, Try.ntmps11
  go_wp2_with (first | (go_at_call 29; (with_reducible refine HF.out.mono ?_); rintro e' w1 ⟨rfl, qk⟩; have K1 := Lib.hid qk; clear qk) | (go_at_call 80; have mm := HM.out.kp K1.out; (with_reducible refine (ctstore_w mm.cl HO.out.t (ttb_any _) off size v (by omega) (by omega) s0 s1 v0 v1).mono ?_); rintro e' w2 ⟨rfl, q, f⟩; have Q := Lib.hid (mm.up_cl q f); clear q f mm))
  go_ret
  exact ⟨rfl, Q.out.1, (Fr.of_kp K1.out _).trans Q.out.2 (fun _ _ x => x)⟩
set_option maxHeartbeats 4000000 in
theorem jstore_3 {w : World} {lo hi g a1 a2 a3 a4 a5 b1 b2 b3 b4 b5 : Nat} {S : BS} (m : BI w lo hi g a1 a2 a3 a4 a5 b1 b2 b3 b4 b5 S) (ok : S.Ok) (pa size : Int) (p0 : 0 ≤ pa) (p1 : pa < 18446744073709551616) (s0 : -9223372036854775808 ≤ size) (s1 : size < 9223372036854775808) (v : Int) (v0 : 0 ≤ v) (v1 : v < 18446744073709551616) (h : dvJ S.B.length pa size = 3) : Calls Try.prog 11 #[.pointer (some ⟨g, 0, none⟩), .int .u64 pa, .int .i64 size, .int .u64 v] w fun e w' => e = .returned (.bool (S.ldO pa size)) ∧ BI w' lo hi g a1 a2 a3 a4 a5 b1 b2 b3 b4 b5 (S.stS pa size v) ∧ Fr w w' (Rg lo hi) := by
  rw [show S.ldO pa size = rgO (pa - 201326592) size by simp only [BS.ldO, h], show S.stS pa size v = { S with p := S.p.stS (pa - 201326592) size v } by simp only [BS.stS, h]]
  have hl := m.ram.lim
  obtain ⟨hs, h1, h2, h3⟩ := dv_3 h
  have hz := szB_nat' size hs
  have hx : 0 ≤ pa - 201326592 ∧ pa - 201326592 < 4294967296 := by simp [inJ] at h3; omega
  have HF := Lib.hid (jfind_3 m pa size p0 p1 hs h1 h2 h3)
  have HM := Lib.hid m
  have HO := Lib.hid ok
  have hm : ∀ w : World, (method 277 44 (.pointer (some ⟨b3, 0, none⟩)) "Store").run Try.prog w = .ok (88, .pointer (some ⟨b3, 0, none⟩)) w := fun _ => by kernel_rfl
  obtain ⟨off, ho⟩ : ∃ off, pa - 201326592 = off := ⟨_, rfl⟩
  rw [ho] at hx HF ⊢
  clear m ok h hl hs hz h1 h2 h3 ho
  go_enter Try.func11, Try.ntmps11
  go_wp2_with (first | (go_at_call 29; (with_reducible refine HF.out.mono ?_); rintro e' w1 ⟨rfl, qk⟩; have K1 := Lib.hid qk; clear qk) | (go_at_call 88; have mm := HM.out.kp K1.out; (with_reducible refine (cpstore_w mm.pl HO.out.p (ptb_any _) off size v (by omega) (by omega) s0 s1 v0 v1).mono ?_); rintro e' w2 ⟨rfl, q, f⟩; have Q := Lib.hid (mm.up_pl q f); clear q f mm))
  go_ret
  exact ⟨rfl, Q.out.1, (Fr.of_kp K1.out _).trans Q.out.2 (fun _ _ x => x)⟩
set_option maxHeartbeats 4000000 in
theorem jstore_4 {w : World} {lo hi g a1 a2 a3 a4 a5 b1 b2 b3 b4 b5 : Nat} {S : BS} (m : BI w lo hi g a1 a2 a3 a4 a5 b1 b2 b3 b4 b5 S) (ok : S.Ok) (pa size : Int) (p0 : 0 ≤ pa) (p1 : pa < 18446744073709551616) (s0 : -9223372036854775808 ≤ size) (s1 : size < 9223372036854775808) (v : Int) (v0 : 0 ≤ v) (v1 : v < 18446744073709551616) (h : dvJ S.B.length pa size = 4) : Calls Try.prog 11 #[.pointer (some ⟨g, 0, none⟩), .int .u64 pa, .int .i64 size, .int .u64 v] w fun e w' => e = .returned (.bool (S.ldO pa size)) ∧ BI w' lo hi g a1 a2 a3 a4 a5 b1 b2 b3 b4 b5 (S.stS pa size v) ∧ Fr w w' (Rg lo hi) := by
  rw [show S.ldO pa size = rgU (pa - 268435456) size by simp only [BS.ldO, h], show S.stS pa size v = { S with u := S.u.stS (pa - 268435456) size v } by simp only [BS.stS, h]]
  have hl := m.ram.lim
  obtain ⟨hs, h1, h2, h3, h4⟩ := dv_4 h
  have hz := szB_nat' size hs
  have hx : 0 ≤ pa - 268435456 ∧ pa - 268435456 < 4294967296 := by simp [inJ] at h4; omega
  have HF := Lib.hid (jfind_4 m pa size p0 p1 hs h1 h2 h3 h4)
  have HM := Lib.hid m
  have HO := Lib.hid ok
  have hm : ∀ w : World, (method 277 45 (.pointer (some ⟨b4, 0, none⟩)) "Store").run Try.prog w = .ok (101, .pointer (some ⟨b4, 0, none⟩)) w := fun _ => by kernel_rfl
  obtain ⟨off, ho⟩ : ∃ off, pa - 268435456 = off := ⟨_, rfl⟩
  rw [ho] at hx HF ⊢
  clear m ok h hl hs hz h1 h2 h3 h4 ho
  go_enter Try.func11, Try.ntmps11
  go_wp2_with (first | (go_at_call 29; (with_reducible refine HF.out.mono ?_); rintro e' w1 ⟨rfl, qk⟩; have K1 := Lib.hid qk; clear qk) | (go_at_call 101; have mm := HM.out.kp K1.out; (with_reducible refine (custore_w mm.ua HO.out.u (utb_any _) off size v (by omega) (by omega) s0 s1 v0 v1).mono ?_); rintro e' w2 ⟨rfl, q, f⟩; have Q := Lib.hid (mm.up_ua q f); clear q f mm))
  go_ret
  exact ⟨rfl, Q.out.1, (Fr.of_kp K1.out _).trans Q.out.2 (fun _ _ x => x)⟩
set_option maxHeartbeats 4000000 in
theorem jstore_5 {w : World} {lo hi g a1 a2 a3 a4 a5 b1 b2 b3 b4 b5 : Nat} {S : BS} (m : BI w lo hi g a1 a2 a3 a4 a5 b1 b2 b3 b4 b5 S) (ok : S.Ok) (pa size : Int) (p0 : 0 ≤ pa) (p1 : pa < 18446744073709551616) (s0 : -9223372036854775808 ≤ size) (s1 : size < 9223372036854775808) (v : Int) (v0 : 0 ≤ v) (v1 : v < 18446744073709551616) (h : dvJ S.B.length pa size = 5) : Calls Try.prog 11 #[.pointer (some ⟨g, 0, none⟩), .int .u64 pa, .int .i64 size, .int .u64 v] w fun e w' => e = .returned (.bool (S.ldO pa size)) ∧ BI w' lo hi g a1 a2 a3 a4 a5 b1 b2 b3 b4 b5 (S.stS pa size v) ∧ Fr w w' (Rg lo hi) := by
  rw [show S.ldO pa size = pwO (pa - 1048576) size by simp only [BS.ldO, h], show S.stS pa size v = { S with w := pwS S.w (pa - 1048576) size v } by simp only [BS.stS, h]]
  have hl := m.ram.lim
  obtain ⟨hs, h1, h2, h3, h4, h5⟩ := dv_5 h
  have hz := szB_nat' size hs
  have hx : 0 ≤ pa - 1048576 ∧ pa - 1048576 < 4294967296 := by simp [inJ] at h5; omega
  have HF := Lib.hid (jfind_5 m pa size p0 p1 hs h1 h2 h3 h4 h5)
  have HM := Lib.hid m
  have HO := Lib.hid ok
  have hm : ∀ w : World, (method 277 46 (.pointer (some ⟨b5, 0, none⟩)) "Store").run Try.prog w = .ok (109, .pointer (some ⟨b5, 0, none⟩)) w := fun _ => by kernel_rfl
  obtain ⟨off, ho⟩ : ∃ off, pa - 1048576 = off := ⟨_, rfl⟩
  rw [ho] at hx HF ⊢
  clear m ok h hl hs hz h1 h2 h3 h4 h5 ho
  go_enter Try.func11, Try.ntmps11
  go_wp2_with (first | (go_at_call 29; (with_reducible refine HF.out.mono ?_); rintro e' w1 ⟨rfl, qk⟩; have K1 := Lib.hid qk; clear qk) | (go_at_call 109; have mm := HM.out.kp K1.out; (with_reducible refine (cpwstore_w mm.pw (utb_any _) off size v (by omega) (by omega) s0 s1 v0 v1).mono ?_); rintro e' w2 ⟨rfl, q, f⟩; have Q := Lib.hid (mm.up_pw q f); clear q f mm))
  go_ret
  exact ⟨rfl, Q.out.1, (Fr.of_kp K1.out _).trans Q.out.2 (fun _ _ x => x)⟩
theorem jload_i {w : World} {lo hi g a1 a2 a3 a4 a5 b1 b2 b3 b4 b5 : Nat} {S : BS} (m : BI w lo hi g a1 a2 a3 a4 a5 b1 b2 b3 b4 b5 S) (ok : S.Ok) (pa size : Int) (p0 : 0 ≤ pa) (p1 : pa < 18446744073709551616) (s0 : -9223372036854775808 ≤ size) (s1 : size < 9223372036854775808) : Calls Try.prog 10 #[.pointer (some ⟨g, 0, none⟩), .int .u64 pa, .int .i64 size] w fun e w' => e = .returned (.tuple #[.int .u64 (S.ldV pa size), .bool (S.ldO pa size)]) ∧ BI w' lo hi g a1 a2 a3 a4 a5 b1 b2 b3 b4 b5 (S.ldS pa size) ∧ Fr w w' (Rg lo hi) := by
  rcases dv_le S.B.length pa size with h | h | h | h | h | h
  · exact jload_0 m ok pa size p0 p1 s0 s1 h
  · exact jload_1 m ok pa size p0 p1 s0 s1 h
  · exact jload_2 m ok pa size p0 p1 s0 s1 h
  · exact jload_3 m ok pa size p0 p1 s0 s1 h
  · exact jload_4 m ok pa size p0 p1 s0 s1 h
  · exact jload_5 m ok pa size p0 p1 s0 s1 h
theorem jstore_i {w : World} {lo hi g a1 a2 a3 a4 a5 b1 b2 b3 b4 b5 : Nat} {S : BS} (m : BI w lo hi g a1 a2 a3 a4 a5 b1 b2 b3 b4 b5 S) (ok : S.Ok) (pa size : Int) (p0 : 0 ≤ pa) (p1 : pa < 18446744073709551616) (s0 : -9223372036854775808 ≤ size) (s1 : size < 9223372036854775808) (v : Int) (v0 : 0 ≤ v) (v1 : v < 18446744073709551616) : Calls Try.prog 11 #[.pointer (some ⟨g, 0, none⟩), .int .u64 pa, .int .i64 size, .int .u64 v] w fun e w' => e = .returned (.bool (S.ldO pa size)) ∧ BI w' lo hi g a1 a2 a3 a4 a5 b1 b2 b3 b4 b5 (S.stS pa size v) ∧ Fr w w' (Rg lo hi) := by
  rcases dv_le S.B.length pa size with h | h | h | h | h | h
  · exact jstore_0 m ok pa size p0 p1 s0 s1 v v0 v1 h
  · exact jstore_1 m ok pa size p0 p1 s0 s1 v v0 v1 h
  · exact jstore_2 m ok pa size p0 p1 s0 s1 v v0 v1 h
  · exact jstore_3 m ok pa size p0 p1 s0 s1 v v0 v1 h
  · exact jstore_4 m ok pa size p0 p1 s0 s1 v v0 v1 h
  · exact jstore_5 m ok pa size p0 p1 s0 s1 v v0 v1 h
set_option maxHeartbeats 4000000 in
theorem jinram_i {w : World} {lo hi g a1 a2 a3 a4 a5 b1 b2 b3 b4 b5 : Nat} {S : BS} (m : BI w lo hi g a1 a2 a3 a4 a5 b1 b2 b3 b4 b5 S) (pa n : Int) (c : Bool) (hc : inJ pa n 2147483648 S.B.length = c) (p0 : 0 ≤ pa) (p1 : pa < 18446744073709551616) (n0 : -9223372036854775808 ≤ n) (n1 : n < 9223372036854775808) : Calls Try.prog 14 #[.pointer (some ⟨g, 0, none⟩), .int .u64 pa, .int .i64 n] w fun e w' => e = .returned (.bool c) ∧ Kp w w' := by
  have hl := m.ram.lim
  obtain ⟨s, hs⟩ : ∃ s, (S.B.length : Int) = s := ⟨_, rfl⟩
  have hs0 : 0 ≤ s := by omega
  have hs1 : s < 65537 := by omega
  rw [hs] at hc
  have HC := Lib.hid hc
  have HS := Lib.hid hs
  have HM := Lib.hid m
  clear m hc hs hl
  go_enter Try.func14, Try.ntmps14
  go_wp2_with (first | (go_at_call 26; (with_reducible refine (jmem_w HM.out s HS.out).mono ?_); rintro e' w1 ⟨rfl, qk⟩; have K1 := Lib.hid qk; clear qk) | (go_at_call 34; (with_reducible refine (jhas_w 2147483648 s pa n c HC.out (by decide) hs0 (by omega) p0 p1 n0 n1 _).mono ?_); rintro e' w2 ⟨rfl, qk⟩; have K2 := Lib.hid (K1.out.trans qk); clear qk))
  go_ret
  exact ⟨rfl, K2.out⟩
end Go.Proofs.Ytikibfpfieoabaa
