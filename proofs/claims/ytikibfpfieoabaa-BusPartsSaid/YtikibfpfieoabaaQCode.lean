/-
  The program's memory: contracts of its calls, of anything. No condition.
-/
import Derived.Test.YtikibfpfieoabaaQIn
import Derived.Test.YtikibfpfieoabaaQCom
namespace Go.Proofs.Ytikibfpfieoabaa
open Go.ChangeShapes Go.WideShapes Go.ChangeAt Go.RowKit
set_option linter.unusedVariables false
set_option linter.unusedSimpArgs false
set_option maxRecDepth 4000
/-- A memory object: its blocks stand from lo on, below hi. -/
structure Ob (w : World) (lo hi g : Nat) (B : List Int) (T : List Bool) : Prop where
  cm : ∃ gb W, CM w g gb B W T ∧ lo ≤ gb ∧ gb < hi
  byb : ByB B
  len : B.length = 16 * T.length
  lim : B.length ≤ 65536
  top : hi ≤ w.heap.size
  bot : lo ≤ g
  gh : g < hi
theorem Ob.fr {w w' : World} {lo hi g : Nat} {B : List Int} {T : List Bool} {S : Nat → Prop} (m : Ob w lo hi g B T) (k : Fr w w' S) (h : ∀ i, lo ≤ i → i < hi → ¬ S i) : Ob w' lo hi g B T := by
  obtain ⟨⟨gb, W, c, h1, h2⟩, h3, h4, h5, h6, h7, h8⟩ := m
  exact ⟨⟨gb, W, c.fr k (h _ h7 h8) (h _ h1 h2), h1, h2⟩, h3, h4, h5, Nat.le_trans h6 k.size, h7, h8⟩
theorem CM.ob {w : World} {lo hi g gb : Nat} {B : List Int} {W : List Nat} {T : List Bool} (m : CM w g gb B W T) (h1 : lo ≤ gb) (h2 : gb < hi) (h3 : lo ≤ g) (h4 : g < hi) (h5 : hi ≤ w.heap.size) : Ob w lo hi g B T :=
  ⟨⟨gb, W, m, h1, h2⟩, m.byb, m.len, m.lim, h5, h3, h4⟩
theorem cload_yes {w : World} {g gb : Nat} {B : List Int} {W : List Nat} {T : List Bool} (m : CM w g gb B W T) (off size : Nat) (hs : szB size = true) (hn : off + size ≤ B.length) :
    Calls Try.prog 76 #[.pointer (some ⟨g, 0, none⟩), .int .i64 (off : Int), .int .i64 (size : Int)] w fun e w' => e = .returned (.tuple #[.int .u64 (numB B off size), .bool true]) ∧ w = w' := by
  have hlim := m.lim
  have hsz := szB_nat size hs
  have HS := Lib.hid hs
  have HT := Lib.hid (show thB B.length off size = true by simp [thB]; omega)
  have HM := Lib.hid m
  clear m hs
  go_enter Try.func76, Try.ntmps76
  go_wp2_with (first | (go_at_call 78; (with_reducible refine (csize_w size true HS.out _).mono ?_); rintro e' w1 ⟨rfl, rfl⟩) | (go_at_call 53; (with_reducible refine (chas_w HM.out off size (by omega) (by omega) true HT.out).mono ?_); rintro e' w1 ⟨rfl, rfl⟩) | (go_at_call 43; (with_reducible refine (cnumber_w HM.out off size (by omega) (by omega) (by omega)).mono ?_); rintro e' w1 ⟨rfl, rfl⟩))
  go_ret2
  exact ⟨rfl, rfl⟩
theorem cload_not {w : World} {g gb : Nat} {B : List Int} {W : List Nat} {T : List Bool} (m : CM w g gb B W T) (off size : Int) (h : ldO B.length off size = false) :
    Calls Try.prog 76 #[.pointer (some ⟨g, 0, none⟩), .int .i64 off, .int .i64 size] w fun e w' => e = .returned (.tuple #[.int .u64 0, .bool false]) ∧ w = w' := by
  have HM := Lib.hid m
  clear m
  cases hs : szB size with
  | false =>
    have HS := Lib.hid hs
    clear hs h
    go_enter Try.func76, Try.ntmps76
    go_wp2_with (go_at_call 78; (with_reducible refine (csize_w size false HS.out _).mono ?_); rintro e' w1 ⟨rfl, rfl⟩)
    go_ret2
    exact ⟨rfl, rfl⟩
  | true =>
    have ht : thB B.length off size = false := by rw [ldO, hs] at h; simpa using h
    have hz := hs
    simp only [szB, Bool.or_eq_true, beq_iff_eq] at hz
    have HS := Lib.hid hs
    have HT := Lib.hid ht
    clear hs h ht
    go_enter Try.func76, Try.ntmps76
    go_wp2_with (first | (go_at_call 78; (with_reducible refine (csize_w size true HS.out _).mono ?_); rintro e' w1 ⟨rfl, rfl⟩) | (go_at_call 53; (with_reducible refine (chas_w HM.out off size (by omega) (by omega) false HT.out).mono ?_); rintro e' w1 ⟨rfl, rfl⟩))
    go_ret2
    exact ⟨rfl, rfl⟩
theorem cload_w {w : World} {lo hi g : Nat} {B : List Int} {T : List Bool} (m : Ob w lo hi g B T) (off size : Int) (o0 : -9223372036854775808 ≤ off) (o1 : off < 9223372036854775808) (s0 : -9223372036854775808 ≤ size) (s1 : size < 9223372036854775808) :
    Calls Try.prog 76 #[.pointer (some ⟨g, 0, none⟩), .int .i64 off, .int .i64 size] w fun e w' => e = .returned (.tuple #[.int .u64 (ldN B off size), .bool (ldO B.length off size)]) ∧ Below w.heap.size w w' := by
  obtain ⟨gb, W, c, _, _⟩ := m.cm
  cases h : ldO B.length off size with
  | false => rw [ldN_no h]; exact (cload_not c off size h).mono fun e w' x => by obtain ⟨rfl, rfl⟩ := x; exact ⟨rfl, Below.refl _ _⟩
  | true =>
    obtain ⟨o, s, rfl, rfl, hs, hn⟩ := ldO_nat h
    rw [ldN_nat B o s hs hn]
    exact (cload_yes c o s hs hn).mono fun e w' x => by obtain ⟨rfl, rfl⟩ := x; exact ⟨rfl, Below.refl _ _⟩
set_option maxHeartbeats 4000000 in
theorem cstore_yes {w : World} {g gb : Nat} {B : List Int} {W : List Nat} {T : List Bool} (m : CM w g gb B W T) (off size : Nat) (hs : szB size = true) (hn : off + size ≤ B.length) (v : Int) (v0 : 0 ≤ v) (v1 : v < 18446744073709551616) :
    Calls Try.prog 77 #[.pointer (some ⟨g, 0, none⟩), .int .i64 (off : Int), .int .i64 (size : Int), .int .u64 v] w fun e w' => e = .returned (.bool true) ∧ (∃ W', CM w' g gb (layB B off v size) W' (unT T off size)) ∧ Fr w w' (fun i => i = g ∨ i = gb) := by
  have hlim := m.lim
  have hlen := m.len
  have hsz := szB_nat size hs
  have HS := Lib.hid hs
  have HT := Lib.hid (show thB B.length off size = true by simp [thB]; omega)
  have HU := Lib.hid (unT_two T off size (by omega) (by omega) (by omega))
  have HM := Lib.hid m
  have hq0 : off / 16 < T.length := by omega
  have hq1 : (off + size - 1) / 16 < T.length := by omega
  have t0 : (off : Int).tdiv 16 = ((off / 16 : Nat) : Int) := by rw [Int.tdiv_eq_ediv_of_nonneg (by omega)]; omega
  have t1 : ((off : Int) + (size : Int) - 1).tdiv 16 = (((off + size - 1) / 16 : Nat) : Int) := by rw [Int.tdiv_eq_ediv_of_nonneg (by omega)]; omega
  have t2 : IntKind.i64.wrap ((off / 16 : Nat) : Int) = ((off / 16 : Nat) : Int) := IntWalk.i64_in _ (by omega)
  have t3 : IntKind.i64.wrap (((off + size - 1) / 16 : Nat) : Int) = (((off + size - 1) / 16 : Nat) : Int) := IntWalk.i64_in _ (by omega)
  clear m hs
  generalize hqa : off / 16 = qa at *
  generalize hqb : (off + size - 1) / 16 = qb at *
  have HQA := Lib.hid hqa
  have HQB := Lib.hid hqb
  clear hqa hqb
  go_enter Try.func77, Try.ntmps77
  go_wp2_with (first | (go_at_call 78; (with_reducible refine (csize_w size true HS.out _).mono ?_); rintro e' w1 ⟨rfl, rfl⟩) | (go_at_call 53; (with_reducible refine (chas_w HM.out off size (by omega) (by omega) true HT.out).mono ?_); rintro e' w1 ⟨rfl, rfl⟩) | (go_at_call 39; (with_reducible refine (clay_w HM.out off size v (by omega) (by omega) v0 v1).mono ?_); rintro e' w1 ⟨rfl, m1, f1⟩; have HM1 := Lib.hid m1; have HF1 := Lib.hid (f1.mono (fun i _ x => Or.inr x) : Fr w w1 (fun i => i = g ∨ i = gb)); clear m1 f1) | (go_at_call 40; (with_reducible refine (cset_w HM1.out qa hq0 false).mono ?_); rintro e' w2 ⟨rfl, ⟨W2, m2⟩, f2⟩; have HM2 := Lib.hid m2; have HF2 := Lib.hid (HF1.out.trans f2 (fun i _ x => Or.inl x)); clear m2 f2) | (go_at_call 40; (with_reducible refine (cset_w HM2.out qb (by rw [List.length_set]; exact hq1) false).mono ?_); rintro e' w3 ⟨rfl, ⟨W3, m3⟩, f3⟩; have HM3 := Lib.hid m3; have HF3 := Lib.hid (HF2.out.trans f3 (fun i _ x => Or.inl x)); clear m3 f3))
  go_ret
  exact ⟨rfl, ⟨_, by rw [HU.out]; exact HM3.out⟩, HF3.out⟩
theorem cstore_not {w : World} {g gb : Nat} {B : List Int} {W : List Nat} {T : List Bool} (m : CM w g gb B W T) (off size v : Int) (h : ldO B.length off size = false) :
    Calls Try.prog 77 #[.pointer (some ⟨g, 0, none⟩), .int .i64 off, .int .i64 size, .int .u64 v] w fun e w' => e = .returned (.bool false) ∧ w = w' := by
  have HM := Lib.hid m
  clear m
  cases hs : szB size with
  | false =>
    have HS := Lib.hid hs
    clear hs h
    go_enter Try.func77, Try.ntmps77
    go_wp2_with (go_at_call 78; (with_reducible refine (csize_w size false HS.out _).mono ?_); rintro e' w1 ⟨rfl, rfl⟩)
    go_ret
    exact ⟨rfl, rfl⟩
  | true =>
    have ht : thB B.length off size = false := by rw [ldO, hs] at h; simpa using h
    have hz := hs
    simp only [szB, Bool.or_eq_true, beq_iff_eq] at hz
    have HS := Lib.hid hs
    have HT := Lib.hid ht
    clear hs h ht
    go_enter Try.func77, Try.ntmps77
    go_wp2_with (first | (go_at_call 78; (with_reducible refine (csize_w size true HS.out _).mono ?_); rintro e' w1 ⟨rfl, rfl⟩) | (go_at_call 53; (with_reducible refine (chas_w HM.out off size (by omega) (by omega) false HT.out).mono ?_); rintro e' w1 ⟨rfl, rfl⟩))
    go_ret
    exact ⟨rfl, rfl⟩
theorem fr_rg {w w' : World} {lo hi g gb : Nat} (f : Fr w w' (fun i => i = g ∨ i = gb)) (h1 : lo ≤ gb) (h2 : gb < hi) (h3 : lo ≤ g) (h4 : g < hi) : Fr w w' (Rg lo hi) :=
  f.mono fun i _ x => by rcases x with rfl | rfl <;> exact ⟨by omega, by omega⟩
theorem cstore_w {w : World} {lo hi g : Nat} {B : List Int} {T : List Bool} (m : Ob w lo hi g B T) (off size v : Int) (o0 : -9223372036854775808 ≤ off) (o1 : off < 9223372036854775808) (s0 : -9223372036854775808 ≤ size) (s1 : size < 9223372036854775808) (v0 : 0 ≤ v) (v1 : v < 18446744073709551616) :
    Calls Try.prog 77 #[.pointer (some ⟨g, 0, none⟩), .int .i64 off, .int .i64 size, .int .u64 v] w fun e w' => e = .returned (.bool (ldO B.length off size)) ∧ Ob w' lo hi g (sB B off size v) (sT B.length T off size) ∧ Fr w w' (Rg lo hi) := by
  obtain ⟨gb, W, c, h1, h2⟩ := m.cm
  cases h : ldO B.length off size with
  | false =>
    rw [sB_no v h, sT_no T h]
    exact (cstore_not c off size v h).mono fun e w' x => by obtain ⟨rfl, rfl⟩ := x; exact ⟨rfl, m, Fr.refl _ _⟩
  | true =>
    obtain ⟨o, s, rfl, rfl, hs, hn⟩ := ldO_nat h
    rw [sB_nat B o s v hs hn, sT_nat _ T o s hs hn]
    exact (cstore_yes c o s hs hn v v0 v1).mono fun e w' x => by
      obtain ⟨rfl, ⟨W', c'⟩, f⟩ := x
      exact ⟨rfl, c'.ob h1 h2 m.bot m.gh (Nat.le_trans m.top f.size), fr_rg f h1 h2 m.bot m.gh⟩
theorem clen_w {w : World} {lo hi g : Nat} {B : List Int} {T : List Bool} (m : Ob w lo hi g B T) : Calls Try.prog 41 #[.pointer (some ⟨g, 0, none⟩)] w fun e w' => e = .returned (.int .i64 (B.length : Int)) ∧ Below w.heap.size w w' := by
  obtain ⟨gb, W, c, _, _⟩ := m.cm
  have c0 := c.c0
  clear m c
  go_enter Try.func41, Try.ntmps41
  go_wp2
  go_ret
  exact ⟨rfl, Below.refl _ _⟩
theorem cnumber_at {w : World} {g gb : Nat} {B : List Int} {W : List Nat} {T : List Bool} (m : CM w g gb B W T) (o : Nat) (h : o + 8 ≤ B.length) (off : Int) (e : off = (o : Int)) :
    Calls Try.prog 43 #[.pointer (some ⟨g, 0, none⟩), .int .i64 off, .int .i64 8] w fun e w' => e = .returned (.int .u64 (numB B o 8)) ∧ w = w' := by
  subst e; exact cnumber_w m o 8 (by decide) (by decide) h
theorem cis_at {w : World} {g gb : Nat} {B : List Int} {W : List Nat} {T : List Bool} (m : CM w g gb B W T) (q : Nat) (hq : q < T.length) (t : Bool) (ht : T.getD q false = t) :
    Calls Try.prog 42 #[.pointer (some ⟨g, 1, none⟩), .int .i64 (q : Int)] w fun e w' => e = .returned (.bool t) ∧ w = w' := by subst ht; exact cis_w m q hq
set_option maxHeartbeats 4000000 in
theorem cloadcap_yes {w : World} {g gb : Nat} {B : List Int} {W : List Nat} {T : List Bool} (m : CM w g gb B W T) (q : Nat) (h : 16 * q + 16 ≤ B.length) :
    Calls Try.prog 28 #[.pointer (some ⟨g, 0, none⟩), .int .i64 ((16 * q : Nat) : Int)] w fun e w' => e = .returned (.tuple #[.bool (T.getD q false), .int .u64 (numB B (16 * q) 8), .int .u64 (numB B (16 * q + 8) 8), .bool true]) ∧ w = w' := by
  have hlim := m.lim
  have hlen := m.len
  have hTq : q < T.length := by omega
  have HT := Lib.hid (cpO_mk B.length q h)
  have HM := Lib.hid m
  have t0 : ((16 * q : Nat) : Int).tdiv 16 = (q : Int) := by rw [Int.tdiv_eq_ediv_of_nonneg (by omega)]; omega
  have t2 : IntKind.i64.wrap (q : Int) = (q : Int) := IntWalk.i64_in _ (by omega)
  clear m
  obtain ⟨t, ht⟩ : ∃ t, Hid (T.getD q false = t) := ⟨_, Lib.hid rfl⟩
  rw [show T.getD q false = t from ht.out]
  generalize ho : 16 * q = o at *
  have HO := Lib.hid ho
  clear ho
  go_enter Try.func28, Try.ntmps28
  go_wp2_with (first | (go_at_call 38; (with_reducible refine (cbegins_w HM.out o true HT.out).mono ?_); rintro e' w1 ⟨rfl, rfl⟩) | (go_at_call 42; (with_reducible refine (cis_at HM.out q hTq t ht.out).mono ?_); rintro e' w1 ⟨rfl, rfl⟩) | (go_at_call 43; (with_reducible refine (cnumber_at HM.out o (by omega) _ (by rfl)).mono ?_); rintro e' w1 ⟨rfl, rfl⟩) | (go_at_call 43; (with_reducible refine (cnumber_at HM.out (o + 8) (by omega) _ (by omega)).mono ?_); rintro e' w1 ⟨rfl, rfl⟩))
  refine bodyPost_ret (v := .tuple #[.bool t, .int .u64 (numB B o 8), .int .u64 (numB B (o + 8) 8), .bool true]) ?_ rfl ⟨rfl, rfl⟩
  simp [results, Try.results28, go_sem]
theorem cloadcap_not {w : World} {g gb : Nat} {B : List Int} {W : List Nat} {T : List Bool} (m : CM w g gb B W T) (off : Int) (h : cpO B.length off = false) :
    Calls Try.prog 28 #[.pointer (some ⟨g, 0, none⟩), .int .i64 off] w fun e w' => e = .returned (.tuple #[.bool false, .int .u64 0, .int .u64 0, .bool false]) ∧ w = w' := by
  have HM := Lib.hid m
  have HT := Lib.hid h
  clear m h
  go_enter Try.func28, Try.ntmps28
  go_wp2_with (go_at_call 38; (with_reducible refine (cbegins_w HM.out off false HT.out).mono ?_); rintro e' w1 ⟨rfl, rfl⟩)
  refine bodyPost_ret (v := .tuple #[.bool false, .int .u64 0, .int .u64 0, .bool false]) ?_ rfl ⟨rfl, rfl⟩
  simp [results, Try.results28, go_sem]
theorem cloadcap_w {w : World} {lo hi g : Nat} {B : List Int} {T : List Bool} (m : Ob w lo hi g B T) (off : Int) (o0 : -9223372036854775808 ≤ off) (o1 : off < 9223372036854775808) :
    Calls Try.prog 28 #[.pointer (some ⟨g, 0, none⟩), .int .i64 off] w fun e w' => e = .returned (.tuple #[.bool (cpT T B.length off), .int .u64 (cpA B off), .int .u64 (cpM B off), .bool (cpO B.length off)]) ∧ Below w.heap.size w w' := by
  obtain ⟨gb, W, c, _, _⟩ := m.cm
  unfold cpT cpA cpM
  cases h : cpO B.length off with
  | false => exact (cloadcap_not c off h).mono fun e w' x => by obtain ⟨rfl, rfl⟩ := x; exact ⟨rfl, Below.refl _ _⟩
  | true =>
    obtain ⟨q, rfl, hq⟩ := cpO_nat h
    simp only [if_true, Int.toNat_natCast, show 16 * q / 16 = q by omega]
    exact (cloadcap_yes c q hq).mono fun e w' x => by obtain ⟨rfl, rfl⟩ := x; exact ⟨rfl, Below.refl _ _⟩
theorem clay_at {w : World} {g gb : Nat} {B : List Int} {W : List Nat} {T : List Bool} (m : CM w g gb B W T) (o : Nat) (h : o + 8 ≤ B.length) (off : Int) (e : off = (o : Int)) (v : Int) (v0 : 0 ≤ v) (v1 : v < 18446744073709551616) :
    Calls Try.prog 39 #[.pointer (some ⟨g, 0, none⟩), .int .i64 off, .int .i64 8, .int .u64 v] w fun e w' => e = .returned (.tuple #[]) ∧ CM w' g gb (layB B o v 8) W T ∧ Fr w w' (fun i => i = gb) := by
  subst e; exact clay_w m o 8 v (by decide) h v0 v1
set_option maxHeartbeats 4000000 in
theorem cstorecap_yes {w : World} {g gb : Nat} {B : List Int} {W : List Nat} {T : List Bool} (m : CM w g gb B W T) (q : Nat) (h : 16 * q + 16 ≤ B.length) (b : Bool) (a d : Int) (a0 : 0 ≤ a) (a1 : a < 18446744073709551616) (d0 : 0 ≤ d) (d1 : d < 18446744073709551616) :
    Calls Try.prog 25 #[.pointer (some ⟨g, 0, none⟩), .int .i64 ((16 * q : Nat) : Int), .bool b, .int .u64 a, .int .u64 d] w fun e w' => e = .returned (.bool true) ∧ (∃ W', CM w' g gb (layB (layB B (16 * q) a 8) (16 * q + 8) d 8) W' (T.set q b)) ∧ Fr w w' (fun i => i = g ∨ i = gb) := by
  have hlim := m.lim
  have hlen := m.len
  have hTq : q < T.length := by omega
  have HT := Lib.hid (cpO_mk B.length q h)
  have HM := Lib.hid m
  have t0 : ((16 * q : Nat) : Int).tdiv 16 = (q : Int) := by rw [Int.tdiv_eq_ediv_of_nonneg (by omega)]; omega
  have t2 : IntKind.i64.wrap (q : Int) = (q : Int) := IntWalk.i64_in _ (by omega)
  clear m
  generalize ho : 16 * q = o at *
  have HO := Lib.hid ho
  clear ho
  go_enter Try.func25, Try.ntmps25
  go_wp2_with (first | (go_at_call 38; (with_reducible refine (cbegins_w HM.out o true HT.out).mono ?_); rintro e' w1 ⟨rfl, rfl⟩) | (go_at_call 39; (with_reducible refine (clay_at HM.out o (by omega) _ (by rfl) a a0 a1).mono ?_); rintro e' w1 ⟨rfl, m1, f1⟩; have HM1 := Lib.hid m1; have HF1 := Lib.hid (f1.mono (fun i _ x => Or.inr x) : Fr w w1 (fun i => i = g ∨ i = gb)); clear m1 f1) | (go_at_call 39; (with_reducible refine (clay_at HM1.out (o + 8) (by rw [layB_len]; omega) _ (by omega) d d0 d1).mono ?_); rintro e' w2 ⟨rfl, m2, f2⟩; have HM2 := Lib.hid m2; have HF2 := Lib.hid (HF1.out.trans f2 (fun i _ x => Or.inr x)); clear m2 f2) | (go_at_call 40; (with_reducible refine (cset_w HM2.out q hTq b).mono ?_); rintro e' w3 ⟨rfl, ⟨W3, m3⟩, f3⟩; have HM3 := Lib.hid m3; have HF3 := Lib.hid (HF2.out.trans f3 (fun i _ x => Or.inl x)); clear m3 f3))
  go_ret
  exact ⟨rfl, ⟨_, HM3.out⟩, HF3.out⟩
theorem cstorecap_not {w : World} {g gb : Nat} {B : List Int} {W : List Nat} {T : List Bool} (m : CM w g gb B W T) (off : Int) (b : Bool) (a d : Int) (h : cpO B.length off = false) :
    Calls Try.prog 25 #[.pointer (some ⟨g, 0, none⟩), .int .i64 off, .bool b, .int .u64 a, .int .u64 d] w fun e w' => e = .returned (.bool false) ∧ w = w' := by
  have HM := Lib.hid m
  have HT := Lib.hid h
  clear m h
  go_enter Try.func25, Try.ntmps25
  go_wp2_with (go_at_call 38; (with_reducible refine (cbegins_w HM.out off false HT.out).mono ?_); rintro e' w1 ⟨rfl, rfl⟩)
  go_ret
  exact ⟨rfl, rfl⟩
theorem cstorecap_w {w : World} {lo hi g : Nat} {B : List Int} {T : List Bool} (m : Ob w lo hi g B T) (off : Int) (b : Bool) (a d : Int) (o0 : -9223372036854775808 ≤ off) (o1 : off < 9223372036854775808) (a0 : 0 ≤ a) (a1 : a < 18446744073709551616) (d0 : 0 ≤ d) (d1 : d < 18446744073709551616) :
    Calls Try.prog 25 #[.pointer (some ⟨g, 0, none⟩), .int .i64 off, .bool b, .int .u64 a, .int .u64 d] w fun e w' => e = .returned (.bool (cpO B.length off)) ∧ Ob w' lo hi g (cB B off a d) (cT B.length T off b) ∧ Fr w w' (Rg lo hi) := by
  obtain ⟨gb, W, c, h1, h2⟩ := m.cm
  unfold cB cT
  cases h : cpO B.length off with
  | false =>
    simp only [Bool.false_eq_true, if_false]
    exact (cstorecap_not c off b a d h).mono fun e w' x => by obtain ⟨rfl, rfl⟩ := x; exact ⟨rfl, m, Fr.refl _ _⟩
  | true =>
    obtain ⟨q, rfl, hq⟩ := cpO_nat h
    simp only [if_true, Int.toNat_natCast, show 16 * q / 16 = q by omega]
    exact (cstorecap_yes c q hq b a d a0 a1 d0 d1).mono fun e w' x => by
      obtain ⟨rfl, ⟨W', c'⟩, f⟩ := x
      exact ⟨rfl, c'.ob h1 h2 m.bot m.gh (Nat.le_trans m.top f.size), fr_rg f h1 h2 m.bot m.gh⟩
theorem cnew_no (n : Int) (n0 : -9223372036854775808 ≤ n) (n1 : n < 9223372036854775808) (h : nwO n = false) (w : World) : Calls Try.prog 19 #[.int .i64 n] w fun e w' => e = .returned (.tuple #[.pointer none, .int .i64 3]) ∧ Below w.heap.size w w' := by
  by_cases h0 : n < 4096
  · have t0 : decide (n < 4096) = true := by simpa using h0
    clear h
    go_enter Try.func19, Try.ntmps19
    go_wp2
    go_ret2
    exact ⟨rfl, Below.refl _ _⟩
  · have t0 : decide (n < 4096) = false := by simpa using h0
    by_cases h1 : 65536 < n
    · have t1 : decide (65536 < n) = true := by simpa using h1
      clear h
      go_enter Try.func19, Try.ntmps19
      go_wp2
      go_ret2
      exact ⟨rfl, Below.refl _ _⟩
    · have t1 : decide (65536 < n) = false := by simpa using h1
      have t2 : (n % 4096 != 0) = true := by
        have a : decide (4096 ≤ n) = true := by simp; omega
        have b : decide (n ≤ 65536) = true := by simp; omega
        rw [nwO, a, b] at h; simpa using h
      have t3 : (n.tmod 4096 != 0) = true := by rw [Int.tmod_eq_emod_of_nonneg (by omega)]; exact t2
      clear h
      go_enter Try.func19, Try.ntmps19
      go_wp2
      go_ret2
      exact ⟨rfl, Below.refl _ _⟩
/-- The zero value's cells. -/
def ramZ : Array Value := (.slice none 0 0 :: wcs (List.replicate 64 0)).toArray
theorem ram_zero (w : World) : (zeroValue 83 : Sem Value).run Try.prog w = .ok (.agg ramZ) w := by kernel_rfl
theorem ram_ne : (ramZ = #[]) = False := by simp [ramZ]
set_option maxHeartbeats 4000000 in
theorem cnew_yes (n : Nat) (h : nwO n = true) (w : World) : Calls Try.prog 19 #[.int .i64 (n : Int)] w fun e w' => ∃ g, e = .returned (.tuple #[.pointer (some ⟨g, 0, none⟩), .int .i64 0]) ∧ Ob w' w.heap.size w'.heap.size g (List.replicate n 0) (List.replicate (n / 16) false) ∧ Below w.heap.size w w' := by
  simp only [nwO, Bool.and_eq_true, decide_eq_true_eq, beq_iff_eq] at h
  obtain ⟨⟨h0, h1⟩, h2⟩ := h
  have t0 : decide ((n : Int) < 4096) = false := by simp; omega
  have t1 : decide (65536 < (n : Int)) = false := by simp; omega
  have t2 : ((n : Int) % 4096 != 0) = false := by simp; omega
  have t3 : ((n : Int).tmod 4096 != 0) = false := by rw [Int.tmod_eq_emod_of_nonneg (by omega)]; exact t2
  have k1 := run_make_row' (P := Try.prog) 79 5 (.int .u8 0) 1 Try.underlying79 u8_info rfl .i64 .i64 n (by omega) (by omega)
  have HN := Lib.hid (show n ≤ 65536 by omega)
  have HN2 := Lib.hid (show n % 16 = 0 by omega)
  clear h0 h1 h2
  have k2 := ram_zero
  have k3 := ram_ne
  go_enter Try.func19, Try.ntmps19
  go_wp2
  rw [made_list, show ramZ.setIfInBounds 0 (.slice (some ⟨w.heap.size, 0, none⟩) n n) = (.slice (some ⟨w.heap.size, 0, none⟩) n n :: wcs (List.replicate 64 0)).toArray from rfl]
  have b1 := (Blk.new w 5 (List.replicate n (.int .u8 0))).alloc (.cells (.slice (some ⟨w.heap.size, 0, none⟩) n n :: wcs (List.replicate 64 0)).toArray 83)
  have b2 := Blk.new (w.alloc (.cells (List.replicate n (.int .u8 0)).toArray 5)) 83 (.slice (some ⟨w.heap.size, 0, none⟩) n n :: wcs (List.replicate 64 0))
  rw [World.size_alloc] at b2
  have h1 := HN.out
  have h2 := HN2.out
  have m := CM.mk (g := w.heap.size + 1) (gb := w.heap.size) (B := List.replicate n 0) (W := List.replicate 64 0) (T := List.replicate (n / 16) false) (by simpa using b2) (by simpa using b1) (Words.zero 64 64 (n / 16) (by decide)) (ByB.zero n) (by simp; omega) (by simpa using h1)
  refine bodyPost_ret (v := .tuple #[.pointer (some ⟨w.heap.size + 1, 0, none⟩), .int .i64 0]) ?_ rfl ⟨_, rfl, m.ob (Nat.le_refl _) (by simp; omega) (by omega) (by simp) (Nat.le_refl _), ((Below.refl _ w).alloc (Nat.le_refl _) _).alloc (by simp) _⟩
  simp [results, Try.results19, go_sem]
end Go.Proofs.Ytikibfpfieoabaa
