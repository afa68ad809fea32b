/-
  The program's interrupt controller: its calls answer, and leave, what the document says. No condition.
-/
import Derived.Test.YtikibfpfieoabaaPF
namespace Go.Proofs.Ytikibfpfieoabaa
open Go.ChangeShapes Go.WideShapes Go.ChangeAt Go.RowKit
set_option linter.unusedVariables false
set_option linter.unusedSimpArgs false
set_option maxRecDepth 4000
theorem cread_pr {w : World} {g : Nat} {S : PS} {Q : Nat} (m : CP w g S Q) (k : Nat) (hk : k < 32) :
    Calls Try.prog 90 #[.pointer (some ⟨g, 0, none⟩), .int .i64 1, .int .i64 (k : Int)] w fun e w' => e = .returned (.int .u32 (S.pr k)) ∧ w = w' := by
  have c := m.pr k hk
  have f0 : (0 : Int) ≤ (k : Int) := by omega
  have f1 : (k : Int) < 32 := by omega
  clear m
  go_enter Try.func90, Try.ntmps90
  go_wp2
  go_ret
  exact ⟨rfl, rfl⟩
theorem cread_pe {w : World} {g : Nat} {S : PS} {Q : Nat} (m : CP w g S Q) :
    Calls Try.prog 90 #[.pointer (some ⟨g, 0, none⟩), .int .i64 2, .int .i64 0] w fun e w' => e = .returned (.int .u32 (bw S.pe : Nat)) ∧ w = w' := by
  have c := m.c0
  clear m
  go_enter Try.func90, Try.ntmps90
  go_wp2_with (go_at_call 55; (with_reducible refine (aload_w c).mono ?_); rintro e' w2 ⟨rfl, rfl⟩)
  go_ret
  exact ⟨rfl, rfl⟩
theorem cread_en0 {w : World} {g : Nat} {S : PS} {Q : Nat} (m : CP w g S Q) :
    Calls Try.prog 90 #[.pointer (some ⟨g, 0, none⟩), .int .i64 3, .int .i64 0] w fun e w' => e = .returned (.int .u32 (bw (S.en 0) : Nat)) ∧ w = w' := by
  have c : w.cell? ⟨g, 34, none⟩ = _ := m.en 0 (by decide)
  clear m
  go_enter Try.func90, Try.ntmps90
  go_wp2
  go_ret
  exact ⟨rfl, rfl⟩
theorem cread_th0 {w : World} {g : Nat} {S : PS} {Q : Nat} (m : CP w g S Q) :
    Calls Try.prog 90 #[.pointer (some ⟨g, 0, none⟩), .int .i64 4, .int .i64 0] w fun e w' => e = .returned (.int .u32 (S.th 0)) ∧ w = w' := by
  have c : w.cell? ⟨g, 35, none⟩ = _ := m.th 0 (by decide)
  clear m
  go_enter Try.func90, Try.ntmps90
  go_wp2
  go_ret
  exact ⟨rfl, rfl⟩
theorem cread_cl0 {w : World} {g : Nat} {S : PS} {Q : Nat} (m : CP w g S Q) (ok : S.Ok) :
    Calls Try.prog 90 #[.pointer (some ⟨g, 0, none⟩), .int .i64 5, .int .i64 0] w fun e w' => e = .returned (.int .u32 (S.bst 0 : Nat)) ∧ (∃ Q', CP w' g (S.claim 0) Q') ∧ Fr w w' (fun i => i = g) := by
  have hcall := Lib.hid (cclaim_w m ok 0 (by decide) 34 rfl)
  clear m
  go_enter Try.func90, Try.ntmps90
  go_wp2_with (go_at_call 92; (with_reducible refine hcall.out.mono ?_); rintro e' w2 ⟨rfl, hm, hf⟩; have HM2 := Lib.hid hm; have HF2 := Lib.hid hf; clear hm hf)
  go_ret
  exact ⟨rfl, HM2.out, HF2.out⟩
theorem cread_en1 {w : World} {g : Nat} {S : PS} {Q : Nat} (m : CP w g S Q) :
    Calls Try.prog 90 #[.pointer (some ⟨g, 0, none⟩), .int .i64 3, .int .i64 1] w fun e w' => e = .returned (.int .u32 (bw (S.en 1) : Nat)) ∧ w = w' := by
  have c : w.cell? ⟨g, 36, none⟩ = _ := m.en 1 (by decide)
  clear m
  go_enter Try.func90, Try.ntmps90
  go_wp2
  go_ret
  exact ⟨rfl, rfl⟩
theorem cread_th1 {w : World} {g : Nat} {S : PS} {Q : Nat} (m : CP w g S Q) :
    Calls Try.prog 90 #[.pointer (some ⟨g, 0, none⟩), .int .i64 4, .int .i64 1] w fun e w' => e = .returned (.int .u32 (S.th 1)) ∧ w = w' := by
  have c : w.cell? ⟨g, 37, none⟩ = _ := m.th 1 (by decide)
  clear m
  go_enter Try.func90, Try.ntmps90
  go_wp2
  go_ret
  exact ⟨rfl, rfl⟩
theorem cread_cl1 {w : World} {g : Nat} {S : PS} {Q : Nat} (m : CP w g S Q) (ok : S.Ok) :
    Calls Try.prog 90 #[.pointer (some ⟨g, 0, none⟩), .int .i64 5, .int .i64 1] w fun e w' => e = .returned (.int .u32 (S.bst 1 : Nat)) ∧ (∃ Q', CP w' g (S.claim 1) Q') ∧ Fr w w' (fun i => i = g) := by
  have hcall := Lib.hid (cclaim_w m ok 1 (by decide) 36 rfl)
  clear m
  go_enter Try.func90, Try.ntmps90
  go_wp2_with (go_at_call 92; (with_reducible refine hcall.out.mono ?_); rintro e' w2 ⟨rfl, hm, hf⟩; have HM2 := Lib.hid hm; have HF2 := Lib.hid hf; clear hm hf)
  go_ret
  exact ⟨rfl, HM2.out, HF2.out⟩
set_option maxHeartbeats 4000000 in
theorem cprio_w {w : World} {g : Nat} {S : PS} {Q : Nat} (m : CP w g S Q) (k : Nat) (hk : k < 32) (v : Int) (v0 : 0 ≤ v) :
    Calls Try.prog 93 #[.pointer (some ⟨g, 0, none⟩), .int .i64 (k : Int), .int .u32 (v % 4294967296)] w fun e w' => e = .returned (.tuple #[]) ∧ (∃ Q', CP w' g (S.prio k v) Q') ∧ Fr w w' (fun i => i = g) := by
  have c := m.pr k hk
  have z := m.fz (2 + k)
  have hv := thr_word v v0
  have f0 : (0 : Int) ≤ (k : Int) := by omega
  have f1 : (k : Int) < 32 := by omega
  have HM := Lib.hid m
  clear m
  generalize v % 4294967296 = x at *
  unfold PS.prio
  by_cases h : k = 0
  · rw [if_pos h]
    have t : ((k : Int) != 0) = false := by simpa using h
    clear h
    go_enter Try.func93, Try.ntmps93
    go_wp2
    refine bodyPost_end (v := .tuple #[]) (by simp [results, Try.results93, go_sem]) rfl ⟨rfl, ⟨Q, HM.out⟩, Fr.refl _ _⟩
  · rw [if_neg h]
    have t : ((k : Int) != 0) = true := by simpa using h
    clear h
    go_enter Try.func93, Try.ntmps93
    go_wp2
    refine bodyPost_end (v := .tuple #[]) (by simp [results, Try.results93, go_sem]) rfl ⟨rfl, ⟨Q, HM.out.setPr k hk _⟩, (Fr.refl w (fun i => i = g)).setCell (p := ⟨g, 2 + k, none⟩) (.inr rfl) _⟩
theorem cwrite_pr {w : World} {g : Nat} {S : PS} {Q : Nat} (m : CP w g S Q) (k : Nat) (hk : k < 32) (v : Int) (v0 : 0 ≤ v) :
    Calls Try.prog 91 #[.pointer (some ⟨g, 0, none⟩), .int .i64 1, .int .i64 (k : Int), .int .u32 (v % 4294967296)] w fun e w' => e = .returned (.tuple #[]) ∧ (∃ Q', CP w' g (S.prio k v) Q') ∧ Fr w w' (fun i => i = g) := by
  have hcall := Lib.hid (cprio_w m k hk v v0)
  clear m
  generalize v % 4294967296 = x at *
  go_enter Try.func91, Try.ntmps91
  go_wp2_with (go_at_call 93; (with_reducible refine hcall.out.mono ?_); rintro e' w2 ⟨rfl, hm, hf⟩; have HM2 := Lib.hid hm; have HF2 := Lib.hid hf; clear hm hf)
  refine bodyPost_end (v := .tuple #[]) (by simp [results, Try.results91, go_sem]) rfl ⟨rfl, HM2.out, HF2.out⟩
theorem cwrite_pe {w : World} {g : Nat} {S : PS} {Q : Nat} (m : CP w g S Q) (x : Int) :
    Calls Try.prog 91 #[.pointer (some ⟨g, 0, none⟩), .int .i64 2, .int .i64 0, .int .u32 x] w fun e w' => e = .returned (.tuple #[]) ∧ (∃ Q', CP w' g S Q') ∧ Fr w w' (fun i => i = g) := by
  have HM := Lib.hid m
  clear m
  go_enter Try.func91, Try.ntmps91
  go_wp2
  refine bodyPost_end (v := .tuple #[]) (by simp [results, Try.results91, go_sem]) rfl ⟨rfl, ⟨Q, HM.out⟩, Fr.refl _ _⟩
/-- What completing leaves is what the document says. -/
theorem comp_n (S : PS) (c : Nat) (v : Int) : S.compN c (v % 4294967296).toNat = S.comp c v := by
  unfold PS.compN PS.comp
  by_cases h : v % 4294967296 < 32 ∧ S.en c (v % 4294967296).toNat = true
  · rw [if_pos h, if_pos ⟨by omega, h.2⟩]
  · rw [if_neg h, if_neg (fun x => h ⟨by omega, x.2⟩)]
set_option maxHeartbeats 4000000 in
theorem cwrite_en0 {w : World} {g : Nat} {S : PS} {Q : Nat} (m : CP w g S Q) (v : Int) (v0 : 0 ≤ v) (v1 : v < 18446744073709551616) :
    Calls Try.prog 91 #[.pointer (some ⟨g, 0, none⟩), .int .i64 3, .int .i64 0, .int .u32 (v % 4294967296)] w fun e w' => e = .returned (.tuple #[]) ∧ (∃ Q', CP w' g (S.enab 0 v) Q') ∧ Fr w w' (fun i => i = g) := by
  have c : w.cell? ⟨g, 34, none⟩ = _ := m.en 0 (by decide)
  have z := m.fz 34
  have hv := enab_word v v0 v1
  have HS := Lib.hid (fun x hx => m.setEn 0 (by decide) (fun i => decide (0 < i) && bitI v i) x hx)
  obtain ⟨y, hy⟩ : ∃ y : Int, y = ((bw (fun i => decide (0 < i) && bitI v i) : Nat) : Int) := ⟨_, rfl⟩
  rw [← hy] at hv
  have HY := Lib.hid hy
  clear m hy v1
  generalize v % 4294967296 = x at *
  go_enter Try.func91, Try.ntmps91
  go_wp2
  refine bodyPost_end (v := .tuple #[]) (by simp [results, Try.results91, go_sem]) rfl ⟨rfl, ⟨Q, HS.out _ HY.out⟩, (Fr.refl w (fun i => i = g)).setCell (p := ⟨g, 34, none⟩) (.inr rfl) _⟩
set_option maxHeartbeats 4000000 in
theorem cwrite_th0 {w : World} {g : Nat} {S : PS} {Q : Nat} (m : CP w g S Q) (v : Int) (v0 : 0 ≤ v) :
    Calls Try.prog 91 #[.pointer (some ⟨g, 0, none⟩), .int .i64 4, .int .i64 0, .int .u32 (v % 4294967296)] w fun e w' => e = .returned (.tuple #[]) ∧ (∃ Q', CP w' g (S.thrs 0 v) Q') ∧ Fr w w' (fun i => i = g) := by
  have c : w.cell? ⟨g, 35, none⟩ = _ := m.th 0 (by decide)
  have z := m.fz 35
  have hv := thr_word v v0
  have HS := Lib.hid (m.setTh 0 (by decide) (v % 8))
  clear m
  generalize v % 4294967296 = x at *
  go_enter Try.func91, Try.ntmps91
  go_wp2
  refine bodyPost_end (v := .tuple #[]) (by simp [results, Try.results91, go_sem]) rfl ⟨rfl, ⟨Q, HS.out⟩, (Fr.refl w (fun i => i = g)).setCell (p := ⟨g, 35, none⟩) (.inr rfl) _⟩
theorem cwrite_cl0 {w : World} {g : Nat} {S : PS} {Q : Nat} (m : CP w g S Q) (ok : S.Ok) (v : Int) :
    Calls Try.prog 91 #[.pointer (some ⟨g, 0, none⟩), .int .i64 5, .int .i64 0, .int .u32 (v % 4294967296)] w fun e w' => e = .returned (.tuple #[]) ∧ (∃ Q', CP w' g (S.comp 0 v) Q') ∧ Fr w w' (fun i => i = g) := by
  have hc := ccomp_w m ok 0 (by decide) 34 rfl (v % 4294967296).toNat (by omega)
  rw [comp_n, show (((v % 4294967296).toNat : Nat) : Int) = v % 4294967296 by omega] at hc
  have hcall := Lib.hid hc
  clear m hc
  generalize v % 4294967296 = x at *
  go_enter Try.func91, Try.ntmps91
  go_wp2_with (go_at_call 94; (with_reducible refine hcall.out.mono ?_); rintro e' w2 ⟨rfl, hm, hf⟩; have HM2 := Lib.hid hm; have HF2 := Lib.hid hf; clear hm hf)
  refine bodyPost_end (v := .tuple #[]) (by simp [results, Try.results91, go_sem]) rfl ⟨rfl, HM2.out, HF2.out⟩
set_option maxHeartbeats 4000000 in
theorem cwrite_en1 {w : World} {g : Nat} {S : PS} {Q : Nat} (m : CP w g S Q) (v : Int) (v0 : 0 ≤ v) (v1 : v < 18446744073709551616) :
    Calls Try.prog 91 #[.pointer (some ⟨g, 0, none⟩), .int .i64 3, .int .i64 1, .int .u32 (v % 4294967296)] w fun e w' => e = .returned (.tuple #[]) ∧ (∃ Q', CP w' g (S.enab 1 v) Q') ∧ Fr w w' (fun i => i = g) := by
  have c : w.cell? ⟨g, 36, none⟩ = _ := m.en 1 (by decide)
  have z := m.fz 36
  have hv := enab_word v v0 v1
  have HS := Lib.hid (fun x hx => m.setEn 1 (by decide) (fun i => decide (0 < i) && bitI v i) x hx)
  obtain ⟨y, hy⟩ : ∃ y : Int, y = ((bw (fun i => decide (0 < i) && bitI v i) : Nat) : Int) := ⟨_, rfl⟩
  rw [← hy] at hv
  have HY := Lib.hid hy
  clear m hy v1
  generalize v % 4294967296 = x at *
  go_enter Try.func91, Try.ntmps91
  go_wp2
  refine bodyPost_end (v := .tuple #[]) (by simp [results, Try.results91, go_sem]) rfl ⟨rfl, ⟨Q, HS.out _ HY.out⟩, (Fr.refl w (fun i => i = g)).setCell (p := ⟨g, 36, none⟩) (.inr rfl) _⟩
set_option maxHeartbeats 4000000 in
theorem cwrite_th1 {w : World} {g : Nat} {S : PS} {Q : Nat} (m : CP w g S Q) (v : Int) (v0 : 0 ≤ v) :
    Calls Try.prog 91 #[.pointer (some ⟨g, 0, none⟩), .int .i64 4, .int .i64 1, .int .u32 (v % 4294967296)] w fun e w' => e = .returned (.tuple #[]) ∧ (∃ Q', CP w' g (S.thrs 1 v) Q') ∧ Fr w w' (fun i => i = g) := by
  have c : w.cell? ⟨g, 37, none⟩ = _ := m.th 1 (by decide)
  have z := m.fz 37
  have hv := thr_word v v0
  have HS := Lib.hid (m.setTh 1 (by decide) (v % 8))
  clear m
  generalize v % 4294967296 = x at *
  go_enter Try.func91, Try.ntmps91
  go_wp2
  refine bodyPost_end (v := .tuple #[]) (by simp [results, Try.results91, go_sem]) rfl ⟨rfl, ⟨Q, HS.out⟩, (Fr.refl w (fun i => i = g)).setCell (p := ⟨g, 37, none⟩) (.inr rfl) _⟩
theorem cwrite_cl1 {w : World} {g : Nat} {S : PS} {Q : Nat} (m : CP w g S Q) (ok : S.Ok) (v : Int) :
    Calls Try.prog 91 #[.pointer (some ⟨g, 0, none⟩), .int .i64 5, .int .i64 1, .int .u32 (v % 4294967296)] w fun e w' => e = .returned (.tuple #[]) ∧ (∃ Q', CP w' g (S.comp 1 v) Q') ∧ Fr w w' (fun i => i = g) := by
  have hc := ccomp_w m ok 1 (by decide) 36 rfl (v % 4294967296).toNat (by omega)
  rw [comp_n, show (((v % 4294967296).toNat : Nat) : Int) = v % 4294967296 by omega] at hc
  have hcall := Lib.hid hc
  clear m hc
  generalize v % 4294967296 = x at *
  go_enter Try.func91, Try.ntmps91
  go_wp2_with (go_at_call 94; (with_reducible refine hcall.out.mono ?_); rintro e' w2 ⟨rfl, hm, hf⟩; have HM2 := Lib.hid hm; have HF2 := Lib.hid hf; clear hm hf)
  refine bodyPost_end (v := .tuple #[]) (by simp [results, Try.results91, go_sem]) rfl ⟨rfl, HM2.out, HF2.out⟩
set_option maxHeartbeats 4000000 in
theorem cload_pr {w : World} {g : Nat} {S : PS} {Q : Nat} (m : CP w g S Q) (ok : S.Ok) (k : Nat) (hk : k < 32) :
    Calls Try.prog 87 #[.pointer (some ⟨g, 0, none⟩), .int .i64 ((4 * k : Nat) : Int), .int .i64 4] w fun e w' => e = .returned (.tuple #[.int .u64 (S.pr k), .bool true]) ∧ (∃ Q', CP w' g S Q') ∧ Fr w w' (fun i => i = g) := by
  have hf := Lib.hid (cfind_pr w k hk)
  have hr := Lib.hid (cread_pr m k hk)
  have HM := Lib.hid m
  have b0 : 0 ≤ S.pr k := by have := ok.rl k; have := ok.rh k; omega
  have b1 : S.pr k < 18446744073709551616 := by have := ok.rl k; have := ok.rh k; omega
  generalize S.pr k = y at *
  generalize ((4 * k : Nat) : Int) = off at *
  clear m
  go_enter Try.func87, Try.ntmps87
  go_wp2_with (first | (go_at_call 89; (with_reducible refine hf.out.mono ?_); rintro e' w1 ⟨rfl, rfl⟩) | (go_at_call 90; (with_reducible refine hr.out.mono ?_); rintro e' w2 ⟨rfl, rfl⟩))
  go_ret2
  exact ⟨rfl, ⟨Q, HM.out⟩, Fr.refl _ _⟩
set_option maxHeartbeats 4000000 in
theorem cload_pe {w : World} {g : Nat} {S : PS} {Q : Nat} (m : CP w g S Q) (ok : S.Ok) :
    Calls Try.prog 87 #[.pointer (some ⟨g, 0, none⟩), .int .i64 4096, .int .i64 4] w fun e w' => e = .returned (.tuple #[.int .u64 ((bw S.pe : Nat)), .bool true]) ∧ (∃ Q', CP w' g S Q') ∧ Fr w w' (fun i => i = g) := by
  have hf := Lib.hid (cfind_pend w)
  have hr := Lib.hid (cread_pe m)
  have HM := Lib.hid m
  have b0 : 0 ≤ ((bw S.pe : Nat) : Int) := by have := bw_lt S.pe; omega
  have b1 : ((bw S.pe : Nat) : Int) < 18446744073709551616 := by have := bw_lt S.pe; omega
  generalize ((bw S.pe : Nat) : Int) = y at *
  clear m
  go_enter Try.func87, Try.ntmps87
  go_wp2_with (first | (go_at_call 89; (with_reducible refine hf.out.mono ?_); rintro e' w1 ⟨rfl, rfl⟩) | (go_at_call 90; (with_reducible refine hr.out.mono ?_); rintro e' w2 ⟨rfl, rfl⟩))
  go_ret2
  exact ⟨rfl, ⟨Q, HM.out⟩, Fr.refl _ _⟩
set_option maxHeartbeats 4000000 in
theorem cload_en0 {w : World} {g : Nat} {S : PS} {Q : Nat} (m : CP w g S Q) (ok : S.Ok) :
    Calls Try.prog 87 #[.pointer (some ⟨g, 0, none⟩), .int .i64 8192, .int .i64 4] w fun e w' => e = .returned (.tuple #[.int .u64 ((bw (S.en 0) : Nat)), .bool true]) ∧ (∃ Q', CP w' g S Q') ∧ Fr w w' (fun i => i = g) := by
  have hf := Lib.hid (cfind_8192 w)
  have hr := Lib.hid (cread_en0 m)
  have HM := Lib.hid m
  have b0 : 0 ≤ ((bw (S.en 0) : Nat) : Int) := by have := bw_lt (S.en 0); omega
  have b1 : ((bw (S.en 0) : Nat) : Int) < 18446744073709551616 := by have := bw_lt (S.en 0); omega
  generalize ((bw (S.en 0) : Nat) : Int) = y at *
  clear m
  go_enter Try.func87, Try.ntmps87
  go_wp2_with (first | (go_at_call 89; (with_reducible refine hf.out.mono ?_); rintro e' w1 ⟨rfl, rfl⟩) | (go_at_call 90; (with_reducible refine hr.out.mono ?_); rintro e' w2 ⟨rfl, rfl⟩))
  go_ret2
  exact ⟨rfl, ⟨Q, HM.out⟩, Fr.refl _ _⟩
set_option maxHeartbeats 4000000 in
theorem cload_th0 {w : World} {g : Nat} {S : PS} {Q : Nat} (m : CP w g S Q) (ok : S.Ok) :
    Calls Try.prog 87 #[.pointer (some ⟨g, 0, none⟩), .int .i64 2097152, .int .i64 4] w fun e w' => e = .returned (.tuple #[.int .u64 (S.th 0), .bool true]) ∧ (∃ Q', CP w' g S Q') ∧ Fr w w' (fun i => i = g) := by
  have hf := Lib.hid (cfind_2097152 w)
  have hr := Lib.hid (cread_th0 m)
  have HM := Lib.hid m
  have b0 : 0 ≤ S.th 0 := by have := ok.tl 0; have := ok.th8 0; omega
  have b1 : S.th 0 < 18446744073709551616 := by have := ok.tl 0; have := ok.th8 0; omega
  generalize S.th 0 = y at *
  clear m
  go_enter Try.func87, Try.ntmps87
  go_wp2_with (first | (go_at_call 89; (with_reducible refine hf.out.mono ?_); rintro e' w1 ⟨rfl, rfl⟩) | (go_at_call 90; (with_reducible refine hr.out.mono ?_); rintro e' w2 ⟨rfl, rfl⟩))
  go_ret2
  exact ⟨rfl, ⟨Q, HM.out⟩, Fr.refl _ _⟩
set_option maxHeartbeats 4000000 in
theorem cload_cl0 {w : World} {g : Nat} {S : PS} {Q : Nat} (m : CP w g S Q) (ok : S.Ok) :
    Calls Try.prog 87 #[.pointer (some ⟨g, 0, none⟩), .int .i64 2097156, .int .i64 4] w fun e w' => e = .returned (.tuple #[.int .u64 ((S.bst 0 : Nat)), .bool true]) ∧ (∃ Q', CP w' g (S.claim 0) Q') ∧ Fr w w' (fun i => i = g) := by
  have hf := Lib.hid (cfind_2097156 w)
  have hr := Lib.hid (cread_cl0 m ok)
  have HM := Lib.hid m
  have b2 := ok.bst_lt 0
  obtain ⟨S', hS⟩ : ∃ S', S' = S.claim 0 := ⟨_, rfl⟩
  rw [← hS] at hr ⊢
  clear hS
  generalize S.bst 0 = y at *
  clear m
  go_enter Try.func87, Try.ntmps87
  go_wp2_with (first | (go_at_call 89; (with_reducible refine hf.out.mono ?_); rintro e' w1 ⟨rfl, rfl⟩) | (go_at_call 90; (with_reducible refine hr.out.mono ?_); rintro e' w2 ⟨rfl, hm, hf⟩; have HM2 := Lib.hid hm; have HF2 := Lib.hid hf; clear hm hf))
  go_ret2
  exact ⟨rfl, HM2.out, HF2.out⟩
set_option maxHeartbeats 4000000 in
theorem cload_en1 {w : World} {g : Nat} {S : PS} {Q : Nat} (m : CP w g S Q) (ok : S.Ok) :
    Calls Try.prog 87 #[.pointer (some ⟨g, 0, none⟩), .int .i64 8320, .int .i64 4] w fun e w' => e = .returned (.tuple #[.int .u64 ((bw (S.en 1) : Nat)), .bool true]) ∧ (∃ Q', CP w' g S Q') ∧ Fr w w' (fun i => i = g) := by
  have hf := Lib.hid (cfind_8320 w)
  have hr := Lib.hid (cread_en1 m)
  have HM := Lib.hid m
  have b0 : 0 ≤ ((bw (S.en 1) : Nat) : Int) := by have := bw_lt (S.en 1); omega
  have b1 : ((bw (S.en 1) : Nat) : Int) < 18446744073709551616 := by have := bw_lt (S.en 1); omega
  generalize ((bw (S.en 1) : Nat) : Int) = y at *
  clear m
  go_enter Try.func87, Try.ntmps87
  go_wp2_with (first | (go_at_call 89; (with_reducible refine hf.out.mono ?_); rintro e' w1 ⟨rfl, rfl⟩) | (go_at_call 90; (with_reducible refine hr.out.mono ?_); rintro e' w2 ⟨rfl, rfl⟩))
  go_ret2
  exact ⟨rfl, ⟨Q, HM.out⟩, Fr.refl _ _⟩
set_option maxHeartbeats 4000000 in
theorem cload_th1 {w : World} {g : Nat} {S : PS} {Q : Nat} (m : CP w g S Q) (ok : S.Ok) :
    Calls Try.prog 87 #[.pointer (some ⟨g, 0, none⟩), .int .i64 2101248, .int .i64 4] w fun e w' => e = .returned (.tuple #[.int .u64 (S.th 1), .bool true]) ∧ (∃ Q', CP w' g S Q') ∧ Fr w w' (fun i => i = g) := by
  have hf := Lib.hid (cfind_2101248 w)
  have hr := Lib.hid (cread_th1 m)
  have HM := Lib.hid m
  have b0 : 0 ≤ S.th 1 := by have := ok.tl 1; have := ok.th8 1; omega
  have b1 : S.th 1 < 18446744073709551616 := by have := ok.tl 1; have := ok.th8 1; omega
  generalize S.th 1 = y at *
  clear m
  go_enter Try.func87, Try.ntmps87
  go_wp2_with (first | (go_at_call 89; (with_reducible refine hf.out.mono ?_); rintro e' w1 ⟨rfl, rfl⟩) | (go_at_call 90; (with_reducible refine hr.out.mono ?_); rintro e' w2 ⟨rfl, rfl⟩))
  go_ret2
  exact ⟨rfl, ⟨Q, HM.out⟩, Fr.refl _ _⟩
set_option maxHeartbeats 4000000 in
theorem cload_cl1 {w : World} {g : Nat} {S : PS} {Q : Nat} (m : CP w g S Q) (ok : S.Ok) :
    Calls Try.prog 87 #[.pointer (some ⟨g, 0, none⟩), .int .i64 2101252, .int .i64 4] w fun e w' => e = .returned (.tuple #[.int .u64 ((S.bst 1 : Nat)), .bool true]) ∧ (∃ Q', CP w' g (S.claim 1) Q') ∧ Fr w w' (fun i => i = g) := by
  have hf := Lib.hid (cfind_2101252 w)
  have hr := Lib.hid (cread_cl1 m ok)
  have HM := Lib.hid m
  have b2 := ok.bst_lt 1
  obtain ⟨S', hS⟩ : ∃ S', S' = S.claim 1 := ⟨_, rfl⟩
  rw [← hS] at hr ⊢
  clear hS
  generalize S.bst 1 = y at *
  clear m
  go_enter Try.func87, Try.ntmps87
  go_wp2_with (first | (go_at_call 89; (with_reducible refine hf.out.mono ?_); rintro e' w1 ⟨rfl, rfl⟩) | (go_at_call 90; (with_reducible refine hr.out.mono ?_); rintro e' w2 ⟨rfl, hm, hf⟩; have HM2 := Lib.hid hm; have HF2 := Lib.hid hf; clear hm hf))
  go_ret2
  exact ⟨rfl, HM2.out, HF2.out⟩
set_option maxHeartbeats 4000000 in
theorem cpload_no (w : World) (g : Nat) (off size : Int) (h : rgO off size = false) :
    Calls Try.prog 87 #[.pointer (some ⟨g, 0, none⟩), .int .i64 off, .int .i64 size] w fun e w' => e = .returned (.tuple #[.int .u64 0, .bool false]) ∧ w = w' := by
  have hf := Lib.hid (cfind_no w off size h)
  clear h
  go_enter Try.func87, Try.ntmps87
  go_wp2_with (go_at_call 89; (with_reducible refine hf.out.mono ?_); rintro e' w1 ⟨rfl, rfl⟩)
  go_ret2
  exact ⟨rfl, rfl⟩
set_option maxHeartbeats 4000000 in
theorem cstore_pr {w : World} {g : Nat} {S : PS} {Q : Nat} (m : CP w g S Q) (ok : S.Ok) (k : Nat) (hk : k < 32) (v : Int) (v0 : 0 ≤ v) (v1 : v < 18446744073709551616) :
    Calls Try.prog 88 #[.pointer (some ⟨g, 0, none⟩), .int .i64 ((4 * k : Nat) : Int), .int .i64 4, .int .u64 v] w fun e w' => e = .returned (.bool true) ∧ (∃ Q', CP w' g (S.prio k v) Q') ∧ Fr w w' (fun i => i = g) := by
  have hf := Lib.hid (cfind_pr w k hk)
  have hr := Lib.hid (cwrite_pr m k hk v v0)
  obtain ⟨S', hS⟩ : ∃ S', S' = (S.prio k v) := ⟨_, rfl⟩
  rw [← hS] at hr ⊢
  clear m hS
  generalize ((4 * k : Nat) : Int) = off at *
  have hw : IntKind.u32.wrap v = v % 4294967296 := IntKind.wrap_u32' v
  have HV := Lib.hid v1
  clear v1
  go_enter Try.func88, Try.ntmps88
  go_wp2_with (first | (go_at_call 89; (with_reducible refine hf.out.mono ?_); rintro e' w1 ⟨rfl, rfl⟩) | (go_at_call 91; (with_reducible refine hr.out.mono ?_); rintro e' w2 ⟨rfl, hm, hf⟩; have HM2 := Lib.hid hm; have HF2 := Lib.hid hf; clear hm hf))
  go_ret
  exact ⟨rfl, HM2.out, HF2.out⟩
set_option maxHeartbeats 4000000 in
theorem cstore_pe {w : World} {g : Nat} {S : PS} {Q : Nat} (m : CP w g S Q) (ok : S.Ok) (v : Int) (v0 : 0 ≤ v) (v1 : v < 18446744073709551616) :
    Calls Try.prog 88 #[.pointer (some ⟨g, 0, none⟩), .int .i64 4096, .int .i64 4, .int .u64 v] w fun e w' => e = .returned (.bool true) ∧ (∃ Q', CP w' g S Q') ∧ Fr w w' (fun i => i = g) := by
  have hf := Lib.hid (cfind_pend w)
  have hr := Lib.hid (cwrite_pe m (v % 4294967296))
  obtain ⟨S', hS⟩ : ∃ S', S' = S := ⟨_, rfl⟩
  rw [← hS] at hr ⊢
  clear m hS
  have hw : IntKind.u32.wrap v = v % 4294967296 := IntKind.wrap_u32' v
  have HV := Lib.hid v1
  clear v1
  go_enter Try.func88, Try.ntmps88
  go_wp2_with (first | (go_at_call 89; (with_reducible refine hf.out.mono ?_); rintro e' w1 ⟨rfl, rfl⟩) | (go_at_call 91; (with_reducible refine hr.out.mono ?_); rintro e' w2 ⟨rfl, hm, hf⟩; have HM2 := Lib.hid hm; have HF2 := Lib.hid hf; clear hm hf))
  go_ret
  exact ⟨rfl, HM2.out, HF2.out⟩
set_option maxHeartbeats 4000000 in
theorem cstore_en0 {w : World} {g : Nat} {S : PS} {Q : Nat} (m : CP w g S Q) (ok : S.Ok) (v : Int) (v0 : 0 ≤ v) (v1 : v < 18446744073709551616) :
    Calls Try.prog 88 #[.pointer (some ⟨g, 0, none⟩), .int .i64 8192, .int .i64 4, .int .u64 v] w fun e w' => e = .returned (.bool true) ∧ (∃ Q', CP w' g (S.enab 0 v) Q') ∧ Fr w w' (fun i => i = g) := by
  have hf := Lib.hid (cfind_8192 w)
  have hr := Lib.hid (cwrite_en0 m v v0 v1)
  obtain ⟨S', hS⟩ : ∃ S', S' = (S.enab 0 v) := ⟨_, rfl⟩
  rw [← hS] at hr ⊢
  clear m hS
  have hw : IntKind.u32.wrap v = v % 4294967296 := IntKind.wrap_u32' v
  have HV := Lib.hid v1
  clear v1
  go_enter Try.func88, Try.ntmps88
  go_wp2_with (first | (go_at_call 89; (with_reducible refine hf.out.mono ?_); rintro e' w1 ⟨rfl, rfl⟩) | (go_at_call 91; (with_reducible refine hr.out.mono ?_); rintro e' w2 ⟨rfl, hm, hf⟩; have HM2 := Lib.hid hm; have HF2 := Lib.hid hf; clear hm hf))
  go_ret
  exact ⟨rfl, HM2.out, HF2.out⟩
set_option maxHeartbeats 4000000 in
theorem cstore_th0 {w : World} {g : Nat} {S : PS} {Q : Nat} (m : CP w g S Q) (ok : S.Ok) (v : Int) (v0 : 0 ≤ v) (v1 : v < 18446744073709551616) :
    Calls Try.prog 88 #[.pointer (some ⟨g, 0, none⟩), .int .i64 2097152, .int .i64 4, .int .u64 v] w fun e w' => e = .returned (.bool true) ∧ (∃ Q', CP w' g (S.thrs 0 v) Q') ∧ Fr w w' (fun i => i = g) := by
  have hf := Lib.hid (cfind_2097152 w)
  have hr := Lib.hid (cwrite_th0 m v v0)
  obtain ⟨S', hS⟩ : ∃ S', S' = (S.thrs 0 v) := ⟨_, rfl⟩
  rw [← hS] at hr ⊢
  clear m hS
  have hw : IntKind.u32.wrap v = v % 4294967296 := IntKind.wrap_u32' v
  have HV := Lib.hid v1
  clear v1
  go_enter Try.func88, Try.ntmps88
  go_wp2_with (first | (go_at_call 89; (with_reducible refine hf.out.mono ?_); rintro e' w1 ⟨rfl, rfl⟩) | (go_at_call 91; (with_reducible refine hr.out.mono ?_); rintro e' w2 ⟨rfl, hm, hf⟩; have HM2 := Lib.hid hm; have HF2 := Lib.hid hf; clear hm hf))
  go_ret
  exact ⟨rfl, HM2.out, HF2.out⟩
set_option maxHeartbeats 4000000 in
theorem cstore_cl0 {w : World} {g : Nat} {S : PS} {Q : Nat} (m : CP w g S Q) (ok : S.Ok) (v : Int) (v0 : 0 ≤ v) (v1 : v < 18446744073709551616) :
    Calls Try.prog 88 #[.pointer (some ⟨g, 0, none⟩), .int .i64 2097156, .int .i64 4, .int .u64 v] w fun e w' => e = .returned (.bool true) ∧ (∃ Q', CP w' g (S.comp 0 v) Q') ∧ Fr w w' (fun i => i = g) := by
  have hf := Lib.hid (cfind_2097156 w)
  have hr := Lib.hid (cwrite_cl0 m ok v)
  obtain ⟨S', hS⟩ : ∃ S', S' = (S.comp 0 v) := ⟨_, rfl⟩
  rw [← hS] at hr ⊢
  clear m hS
  have hw : IntKind.u32.wrap v = v % 4294967296 := IntKind.wrap_u32' v
  have HV := Lib.hid v1
  clear v1
  go_enter Try.func88, Try.ntmps88
  go_wp2_with (first | (go_at_call 89; (with_reducible refine hf.out.mono ?_); rintro e' w1 ⟨rfl, rfl⟩) | (go_at_call 91; (with_reducible refine hr.out.mono ?_); rintro e' w2 ⟨rfl, hm, hf⟩; have HM2 := Lib.hid hm; have HF2 := Lib.hid hf; clear hm hf))
  go_ret
  exact ⟨rfl, HM2.out, HF2.out⟩
set_option maxHeartbeats 4000000 in
theorem cstore_en1 {w : World} {g : Nat} {S : PS} {Q : Nat} (m : CP w g S Q) (ok : S.Ok) (v : Int) (v0 : 0 ≤ v) (v1 : v < 18446744073709551616) :
    Calls Try.prog 88 #[.pointer (some ⟨g, 0, none⟩), .int .i64 8320, .int .i64 4, .int .u64 v] w fun e w' => e = .returned (.bool true) ∧ (∃ Q', CP w' g (S.enab 1 v) Q') ∧ Fr w w' (fun i => i = g) := by
  have hf := Lib.hid (cfind_8320 w)
  have hr := Lib.hid (cwrite_en1 m v v0 v1)
  obtain ⟨S', hS⟩ : ∃ S', S' = (S.enab 1 v) := ⟨_, rfl⟩
  rw [← hS] at hr ⊢
  clear m hS
  have hw : IntKind.u32.wrap v = v % 4294967296 := IntKind.wrap_u32' v
  have HV := Lib.hid v1
  clear v1
  go_enter Try.func88, Try.ntmps88
  go_wp2_with (first | (go_at_call 89; (with_reducible refine hf.out.mono ?_); rintro e' w1 ⟨rfl, rfl⟩) | (go_at_call 91; (with_reducible refine hr.out.mono ?_); rintro e' w2 ⟨rfl, hm, hf⟩; have HM2 := Lib.hid hm; have HF2 := Lib.hid hf; clear hm hf))
  go_ret
  exact ⟨rfl, HM2.out, HF2.out⟩
set_option maxHeartbeats 4000000 in
theorem cstore_th1 {w : World} {g : Nat} {S : PS} {Q : Nat} (m : CP w g S Q) (ok : S.Ok) (v : Int) (v0 : 0 ≤ v) (v1 : v < 18446744073709551616) :
    Calls Try.prog 88 #[.pointer (some ⟨g, 0, none⟩), .int .i64 2101248, .int .i64 4, .int .u64 v] w fun e w' => e = .returned (.bool true) ∧ (∃ Q', CP w' g (S.thrs 1 v) Q') ∧ Fr w w' (fun i => i = g) := by
  have hf := Lib.hid (cfind_2101248 w)
  have hr := Lib.hid (cwrite_th1 m v v0)
  obtain ⟨S', hS⟩ : ∃ S', S' = (S.thrs 1 v) := ⟨_, rfl⟩
  rw [← hS] at hr ⊢
  clear m hS
  have hw : IntKind.u32.wrap v = v % 4294967296 := IntKind.wrap_u32' v
  have HV := Lib.hid v1
  clear v1
  go_enter Try.func88, Try.ntmps88
  go_wp2_with (first | (go_at_call 89; (with_reducible refine hf.out.mono ?_); rintro e' w1 ⟨rfl, rfl⟩) | (go_at_call 91; (with_reducible refine hr.out.mono ?_); rintro e' w2 ⟨rfl, hm, hf⟩; have HM2 := Lib.hid hm; have HF2 := Lib.hid hf; clear hm hf))
  go_ret
  exact ⟨rfl, HM2.out, HF2.out⟩
set_option maxHeartbeats 4000000 in
theorem cstore_cl1 {w : World} {g : Nat} {S : PS} {Q : Nat} (m : CP w g S Q) (ok : S.Ok) (v : Int) (v0 : 0 ≤ v) (v1 : v < 18446744073709551616) :
    Calls Try.prog 88 #[.pointer (some ⟨g, 0, none⟩), .int .i64 2101252, .int .i64 4, .int .u64 v] w fun e w' => e = .returned (.bool true) ∧ (∃ Q', CP w' g (S.comp 1 v) Q') ∧ Fr w w' (fun i => i = g) := by
  have hf := Lib.hid (cfind_2101252 w)
  have hr := Lib.hid (cwrite_cl1 m ok v)
  obtain ⟨S', hS⟩ : ∃ S', S' = (S.comp 1 v) := ⟨_, rfl⟩
  rw [← hS] at hr ⊢
  clear m hS
  have hw : IntKind.u32.wrap v = v % 4294967296 := IntKind.wrap_u32' v
  have HV := Lib.hid v1
  clear v1
  go_enter Try.func88, Try.ntmps88
  go_wp2_with (first | (go_at_call 89; (with_reducible refine hf.out.mono ?_); rintro e' w1 ⟨rfl, rfl⟩) | (go_at_call 91; (with_reducible refine hr.out.mono ?_); rintro e' w2 ⟨rfl, hm, hf⟩; have HM2 := Lib.hid hm; have HF2 := Lib.hid hf; clear hm hf))
  go_ret
  exact ⟨rfl, HM2.out, HF2.out⟩
set_option maxHeartbeats 4000000 in
theorem cpstore_no (w : World) (g : Nat) (off size v : Int) (h : rgO off size = false) :
    Calls Try.prog 88 #[.pointer (some ⟨g, 0, none⟩), .int .i64 off, .int .i64 size, .int .u64 v] w fun e w' => e = .returned (.bool false) ∧ w = w' := by
  have hf := Lib.hid (cfind_no w off size h)
  clear h
  go_enter Try.func88, Try.ntmps88
  go_wp2_with (go_at_call 89; (with_reducible refine hf.out.mono ?_); rintro e' w1 ⟨rfl, rfl⟩)
  go_ret
  exact ⟨rfl, rfl⟩
end Go.Proofs.Ytikibfpfieoabaa
