/-
  SerialKnown of layer 14: its walk. No condition but what the calls lean on.
-/
import Derived.Test.YtnimpgamiagedaaUOwn
namespace Go.Proofs.Ytnimpgamiagedaa
open Go.ChangeShapes Go.WideShapes Go.ChangeAt Go.RowKit
set_option linter.unusedVariables false
set_option linter.unusedSimpArgs false
def nO : List Int := [-9223372036854775808, -1, 0, 1, 2, 3, 4, 5, 6, 7, 8, 9223372036854775807]
def nSz : List Int := [1, 1, 1, 1, 2, 1, 1, 0, 1]
def nVs : List Int := [3, 4, 5, 6, 7, 8, 9, 10, 11]
def nV3 : List Int := [1, 4294989141, 7]
theorem rdUi_at {w : World} {g : Nat} (xs : List Int) (h : At g (xs.map (.int .i64)) w) (hg : g < w.heap.size) : RdUi w w.heap.size (some ⟨g, 0, none⟩) (xs.map Ui.mk) := fun _ => by
  refine ⟨g, 0, rfl, hg, fun i c hi j u hj => ?_⟩
  obtain rfl : j = 0 := by have := (List.getElem?_eq_some_iff.1 hj).1; rw [Ui.vs_len] at this; omega
  obtain rfl : Value.int .i64 c.x = u := by simpa [Ui.vs] using hj
  rw [List.getElem?_map] at hi
  obtain ⟨x, hx, rfl⟩ := Option.map_eq_some_iff.1 hi
  refine h _ _ ?_
  rw [Nat.zero_add, Nat.mul_one, Nat.add_zero, List.getElem?_map, hx]; rfl
theorem rdUv_at {w : World} {g : Nat} (xs : List Int) (h : At g (xs.map (.int .u64)) w) (hg : g < w.heap.size) : RdUv w w.heap.size (some ⟨g, 0, none⟩) (xs.map Uv.mk) := fun _ => by
  refine ⟨g, 0, rfl, hg, fun i c hi j u hj => ?_⟩
  obtain rfl : j = 0 := by have := (List.getElem?_eq_some_iff.1 hj).1; rw [Uv.vs_len] at this; omega
  obtain rfl : Value.int .u64 c.x = u := by simpa [Uv.vs] using hj
  rw [List.getElem?_map] at hi
  obtain ⟨x, hx, rfl⟩ := Option.map_eq_some_iff.1 hi
  refine h _ _ ?_
  rw [Nat.zero_add, Nat.mul_one, Nat.add_zero, List.getElem?_map, hx]; rfl
theorem nO_raw : ∀ c ∈ nO.map Ui.mk, c.Raw := by
  intro c hc
  obtain ⟨x, hx, rfl⟩ := List.mem_map.1 hc
  have := List.all_eq_true.1 (show nO.all (fun x => decide (-9223372036854775808 ≤ x) && decide (x < 9223372036854775808)) = true by decide +kernel) x hx
  simpa [Ui.Raw] using this
theorem nSz_raw : ∀ c ∈ nSz.map Ui.mk, c.Raw := by
  intro c hc
  obtain ⟨x, hx, rfl⟩ := List.mem_map.1 hc
  have := List.all_eq_true.1 (show nSz.all (fun x => decide (-9223372036854775808 ≤ x) && decide (x < 9223372036854775808)) = true by decide +kernel) x hx
  simpa [Ui.Raw] using this
theorem nVs_raw : ∀ c ∈ nVs.map Uv.mk, c.Raw := by
  intro c hc
  obtain ⟨x, hx, rfl⟩ := List.mem_map.1 hc
  have := List.all_eq_true.1 (show nVs.all (fun x => decide (0 ≤ x) && decide (x < 18446744073709551616)) = true by decide +kernel) x hx
  simpa [Uv.Raw] using this
theorem nV3_raw : ∀ c ∈ nV3.map Uv.mk, c.Raw := by
  intro c hc
  obtain ⟨x, hx, rfl⟩ := List.mem_map.1 hc
  have := List.all_eq_true.1 (show nV3.all (fun x => decide (0 ≤ x) && decide (x < 18446744073709551616)) = true by decide +kernel) x hx
  simpa [Uv.Raw] using this
theorem nO_at (i : Nat) (hi : i < 12) : ∃ x, (nO.map (Value.int .i64))[i]? = some (.int .i64 x) ∧ -9223372036854775808 ≤ x ∧ x < 9223372036854775808 := by
  have h1 : nO[i]? = some nO[i] := List.getElem?_eq_getElem (by show i < 12; exact hi)
  have := nO_raw (Ui.mk nO[i]) (List.mem_map.2 ⟨_, List.getElem_mem _, rfl⟩)
  exact ⟨nO[i], by rw [List.getElem?_map, h1]; rfl, this.1, this.2⟩
theorem uo_raw (k off size v : Int) (k0 : -9223372036854775808 ≤ k) (k1 : k < 9223372036854775808) (o0 : -9223372036854775808 ≤ off) (o1 : off < 9223372036854775808) (s0 : -9223372036854775808 ≤ size) (s1 : size < 9223372036854775808) (v0 : 0 ≤ v) (v1 : v < 18446744073709551616) : (⟨k, off, size, v⟩ : Uo).Raw := ⟨⟨k0, k1⟩, ⟨o0, o1⟩, ⟨s0, s1⟩, v0, v1⟩
theorem newsu_at {g : Nat} {vs : List Value} {w : World} (h : At g vs w) : ∀ j u, vs[j]? = some u → w.cell? ((⟨g, 0, none⟩ : Addr).add j) = some u := fun j u hj => by
  rw [Addr.add_lit, Nat.zero_add]; exact h j u hj
/-- What a row of calls that a call owns is read as. -/
theorem cut_u {w : World} {B : Nat} {v : Value} {L : List Uo} (h : OwnO w B v L) (hr : ∀ c ∈ L, c.Raw) (h0 : 0 < L.length) : ∃ g cap, v = .slice (some ⟨g, 0, none⟩) L.length cap ∧ L.length ≤ cap ∧ g < w.heap.size ∧ RdUo w w.heap.size (some ⟨g, 0, none⟩) L := by
  obtain ⟨g, cap, e, hc, hm, hb, hg, hrd⟩ := h.rd h0
  refine ⟨g, cap, e, hc, hg, ?_⟩
  have := rd_cutu hg hrd 0 L.length
  rw [Nat.zero_mul, List.drop_zero, List.take_length] at this
  exact this
theorem runs14_n (n : Nat) (l : List Uo) (hn : l.length = n) (h9 : n ≤ 9223372036854775807) (A : Option Addr) (cap : Nat) (W : World) (hrd : RdUo W W.heap.size A l) (hraw : ∀ c ∈ l, c.Raw) (tb : UTb W) :
    Calls Try.prog 3 #[.slice A n cap] W fun e w' => e = .returned (.bool true) ∧ Below W.heap.size W w' := by
  subst hn; exact runs14_w l A cap W hrd hraw h9 tb
theorem and1_i64 (n : Int) : bits .and .i64 n 1 = n % 2 := by
  have h : (BitVec.ofInt 64 1).toNat = 2 ^ 1 - 1 := by decide
  have key : (BitVec.ofInt 64 n &&& BitVec.ofInt 64 1).toNat = (n % ((2 ^ 64 : Nat) : Int)).toNat % 2 ^ 1 := by
    rw [BitVec.toNat_and, BitVec.toNat_ofInt, h, Nat.and_two_pow_sub_one_eq_mod]
  show IntKind.i64.wrap ((BitVec.ofInt 64 n &&& BitVec.ofInt 64 1).toNat : Nat) = n % 2
  rw [key, IntKind.wrap_i64]
  omega
/-- SerialPower, with a row of three numbers that was just laid. -/
theorem power14_k (off size v : Int) (o0 : -9223372036854775808 ≤ off) (o1 : off < 9223372036854775808) (s0 : -9223372036854775808 ≤ size) (s1 : size < 9223372036854775808) (v0 : 0 ≤ v) (v1 : v < 18446744073709551616) (w : World) (H : Nat) (hH : w.heap.size = H) (tb : ∀ O, UTb (w.alloc O)) :
    Calls Try.prog 6 #[.int .i64 off, .int .i64 size, .int .u64 v, .slice (some ⟨H, 0, none⟩) 3 3] (w.alloc (.cells #[.int .u64 1, .int .u64 4294989141, .int .u64 7] 32)) fun e w' => e = .returned (.bool true) ∧ Below w.heap.size w w' := by
  subst hH
  have hal := (Below.refl w.heap.size w).alloc (Nat.le_refl _) (.cells #[.int .u64 1, .int .u64 4294989141, .int .u64 7] 32)
  refine Calls.mono (power14_w off size v o0 o1 s0 s1 v0 v1 (nV3.map Uv.mk) _ 3 _ (rdUv_at nV3 (At.new w _ _) (by simp)) nV3_raw (by decide) (tb _)) ?_
  rintro e' w' ⟨rfl, b1⟩
  exact ⟨rfl, hal.trans (b1.mono (by simp))⟩
/-- SerialOrder, of a row of 40 bytes of the call's own. -/
theorem order14_k (L : List Int) (hl : L.length = 40) (hb : ∀ x ∈ L, 0 ≤ x ∧ x < 256) (B : Nat) (v : Value) (w : World) (h : OwnB w B v L) (b : Nat) (hA : At b (nO.map (.int .i64)) w) (hbw : b < w.heap.size) (tb : UTb w) :
    Calls Try.prog 4 #[v, .slice (some ⟨b, 0, none⟩) 12 12] w fun e w' => e = .returned (.bool true) ∧ Below w.heap.size w w' := by
  obtain ⟨A, cap, e, hrd⟩ := ownB_rd h
  have h2 := order14_w (L.map Ub.mk) A cap (nO.map Ui.mk) (some ⟨b, 0, none⟩) 12 w hrd (fun c hc => by obtain ⟨x, hx, rfl⟩ := List.mem_map.1 hc; exact hb x hx) (by rw [List.length_map, hl]; decide) (rdUi_at nO hA hbw) nO_raw (by decide) tb
  rw [List.length_map] at h2
  rw [e]
  exact h2
/-- SerialTells, with two rows of nine that were just laid. -/
theorem tells14_k (w : World) (b : Nat) (hA : At b (nO.map (.int .i64)) w) (hbw : b < w.heap.size) (tb : ∀ O O', UTb ((w.alloc O).alloc O')) :
    Calls Try.prog 5 #[.slice (some ⟨b, 0, none⟩) 12 12, .slice (some ⟨w.heap.size, 0, none⟩) 9 9, .slice (some ⟨w.heap.size + 1, 0, none⟩) 9 9, .int .u8 9] ((w.alloc (.cells #[.int .i64 1, .int .i64 1, .int .i64 1, .int .i64 1, .int .i64 2, .int .i64 1, .int .i64 1, .int .i64 0, .int .i64 1] 3)).alloc (.cells #[.int .u64 3, .int .u64 4, .int .u64 5, .int .u64 6, .int .u64 7, .int .u64 8, .int .u64 9, .int .u64 10, .int .u64 11] 32)) fun e w' => e = .returned (.bool true) ∧ Below w.heap.size w w' := by
  have hal := (Below.refl w.heap.size w).alloc (Nat.le_refl _) (.cells #[.int .i64 1, .int .i64 1, .int .i64 1, .int .i64 1, .int .i64 2, .int .i64 1, .int .i64 1, .int .i64 0, .int .i64 1] 3)
  have hal2 := hal.alloc (by simp) (.cells #[.int .u64 3, .int .u64 4, .int .u64 5, .int .u64 6, .int .u64 7, .int .u64 8, .int .u64 9, .int .u64 10, .int .u64 11] 32)
  have a1 := (At.new w (nSz.map (.int .i64)) 3).below ((Below.refl _ _).alloc (Nat.le_refl _) (.cells #[.int .u64 3, .int .u64 4, .int .u64 5, .int .u64 6, .int .u64 7, .int .u64 8, .int .u64 9, .int .u64 10, .int .u64 11] 32)) (by simp)
  have a2 := At.new (w.alloc (.cells #[.int .i64 1, .int .i64 1, .int .i64 1, .int .i64 1, .int .i64 2, .int .i64 1, .int .i64 1, .int .i64 0, .int .i64 1] 3)) (nVs.map (.int .u64)) 32
  rw [World.size_alloc] at a2
  have h := tells14_w (nO.map Ui.mk) (some ⟨b, 0, none⟩) 12 (nSz.map Ui.mk) (some ⟨w.heap.size, 0, none⟩) 9 (nVs.map Uv.mk) (some ⟨w.heap.size + 1, 0, none⟩) 9 9 (by decide) (by decide) _ (rdUi_at nO (hA.below hal2 hbw) (by simp; omega)) nO_raw (by decide) (rdUi_at nSz a1 (by simp; omega)) nSz_raw (by decide) (rdUv_at nVs a2 (by simp)) nVs_raw (by decide) (tb _ _)
  refine Calls.mono h ?_
  rintro e' w' ⟨rfl, b1⟩
  exact ⟨rfl, hal2.trans (b1.mono (by simp; omega))⟩
set_option maxRecDepth 100000 in
set_option maxHeartbeats 16000000 in
theorem known14_w (W : World) (tb : UTb W) : Calls Try.prog 7 #[] W fun e w' => e = .returned (.bool true) ∧ Below W.heap.size W w' := by
  have HTB := Lib.hid tb
  clear tb
  go_enter Try.func7, Try.ntmps7
  go_wp2
  have hA0 : At W.heap.size (nO.map (.int .i64)) (W.alloc (.cells #[.int .i64 (-9223372036854775808), .int .i64 (-1), .int .i64 0, .int .i64 1, .int .i64 2, .int .i64 3, .int .i64 4, .int .i64 5, .int .i64 6, .int .i64 7, .int .i64 8, .int .i64 9223372036854775807] 3)) := At.new W (nO.map (.int .i64)) 3
  have hB0 : Below W.heap.size W (W.alloc (.cells #[.int .i64 (-9223372036854775808), .int .i64 (-1), .int .i64 0, .int .i64 1, .int .i64 2, .int .i64 3, .int .i64 4, .int .i64 5, .int .i64 6, .int .i64 7, .int .i64 8, .int .i64 9223372036854775807] 3)) := (Below.refl _ W).alloc (Nat.le_refl _) _
  have hs0 : (W.alloc (.cells #[.int .i64 (-9223372036854775808), .int .i64 (-1), .int .i64 0, .int .i64 1, .int .i64 2, .int .i64 3, .int .i64 4, .int .i64 5, .int .i64 6, .int .i64 7, .int .i64 8, .int .i64 9223372036854775807] 3)).heap.size = W.heap.size + 1 := by simp
  generalize W.alloc (.cells #[.int .i64 (-9223372036854775808), .int .i64 (-1), .int .i64 0, .int .i64 1, .int .i64 2, .int .i64 3, .int .i64 4, .int .i64 5, .int .i64 6, .int .i64 7, .int .i64 8, .int .i64 9223372036854775807] 3) = w1 at hA0 hB0 hs0 ⊢
  obtain ⟨b, hb⟩ : ∃ b, W.heap.size = b := ⟨_, rfl⟩
  have HB0 := Lib.hid hB0
  have HA0 := Lib.hid hA0
  rw [hb] at HA0 hs0 ⊢
  have hWb := Lib.hid hb
  clear hA0 hB0 hb
  go_loopw [2, 3] (fun v i wr => ∃ (k : Nat) (l : List Uo), k ≤ 20 ∧ i = .int .i64 (k : Int) ∧ l.length = 2 * k ∧ (∀ c ∈ l, c.Raw) ∧ OwnO wr (b + 1) v l ∧ Below w1.heap.size w1 wr) (fun _ i _ => 20 - (intOf i).toNat)
  case atStart => exact ⟨0, [], by decide, rfl, rfl, by simp, OwnO.nil _ _, Below.refl _ _⟩
  case round =>
    obtain ⟨k, l, hk, rfl, hl, hraw, ho, hkp⟩ := hrel
    have HO := Lib.hid ho
    have HK := Lib.hid hkp
    have HR := Lib.hid hraw
    have hsz := hkp.size
    clear ho hkp hraw
    by_cases hlt : k < 20
    · have e1 : IntKind.u64.wrap ((k : Int) * 37) = (k : Int) * 37 := by rw [IntKind.wrap_u64]; omega
      have f1 : (k : Int) < 20 := by omega
      have hN := Lib.hid (At.new wr (fu [⟨0, 0, 0, (k : Int) * 37⟩, ⟨2, 5, 1, 0⟩]) 34)
      go_wp2_with (at_builtin; refine app_u rfl (.tmp 11) (.tmp 17) rfl (b + 1) _ _ [⟨0, 0, 0, (k : Int) * 37⟩, ⟨2, 5, 1, 0⟩] rfl (HO.out.alloc _) ⟨wr.heap.size, 0, none⟩ 2 2 rfl (by decide) rfl (newsu_at hN.out) (by omega) (by simp; omega) (wr.heap.size + 1) (by simp) ?_; intro gg cc w2 hown hgr hat hlt2; have HO2 := Lib.hid hown; have HG2 := Lib.hid hgr; clear hown hgr hat)
      go_roundw
      case rel => exact ⟨k + 1, l ++ [⟨0, 0, 0, (k : Int) * 37⟩, ⟨2, 5, 1, 0⟩], by omega, by go_num, by simp; omega, by
        intro c hc
        rcases List.mem_append.1 hc with hc | hc
        · exact HR.out c hc
        · simp only [List.mem_cons, List.not_mem_nil, or_false] at hc
          rcases hc with rfl | rfl <;> exact uo_raw _ _ _ _ (by omega) (by omega) (by omega) (by omega) (by omega) (by omega) (by omega) (by omega), by have h := HO2.out; rw [hl] at h; exact h, (HK.out.alloc hsz _).grown HG2.out (by simp; omega) (fun b hb => by have := (HO.out.lt b hb).1; omega)⟩
      case measure => simp [intOf]; omega
    · obtain rfl : k = 20 := by omega
      rw [show ((20 : Nat) : Int) = 20 from rfl]
      obtain ⟨n0, hn0⟩ : ∃ n, l.length = n := ⟨_, rfl⟩
      go_wp2
      obtain ⟨w5, hw5⟩ : ∃ w5, w5 = wr := ⟨_, rfl⟩
      rw [← hw5] at HO HK hsz ⊢
      clear hw5
      go_loopw [2, 4] (fun v i wr => ∃ (k : Nat) (q : List Uo), k ≤ 12 ∧ i = .int .i64 (k : Int) ∧ q.length = 40 + 20 * k + 5 * (k % 2) ∧ (∀ c ∈ q, c.Raw) ∧ OwnO wr (b + 1) v q ∧ Below w1.heap.size w1 wr) (fun _ i _ => 12 - (intOf i).toNat)
      case atStart => exact ⟨0, l, by decide, rfl, by omega, HR.out, HO.out, HK.out⟩
      case round =>
        clear HR HO HK hl hn0 n0
        obtain ⟨k, q, hk, rfl, hq, hraw, ho, hkp⟩ := hrel
        have HO := Lib.hid ho
        have HK := Lib.hid hkp
        have HR := Lib.hid hraw
        have hsz3 := hkp.size
        clear ho hkp hraw
        by_cases hlt3 : k < 12
        · obtain ⟨x, hx, x0, x1⟩ := nO_at k hlt3
          have HXV := Lib.hid hx
          clear hx
          have f1 : (k : Int) < 12 := by omega
          have f0 : (0 : Int) ≤ (k : Int) := by omega
          obtain ⟨pk, hpk⟩ : ∃ pk, (k : Int) % 2 = pk := ⟨_, rfl⟩
          have pkb : 0 ≤ pk ∧ pk < 2 := by omega
          obtain ⟨pk0, pk1⟩ := pkb
          have ek : bits .and .i64 (k : Int) 1 = pk := by rw [and1_i64]; exact hpk
          have ek2 : IntKind.i64.wrap (4 + pk) = 4 + pk := IntWalk.i64_in _ (by omega)
          obtain ⟨y1, hy1⟩ : ∃ y1, IntKind.i64.wrap (x + 21845) = y1 := ⟨_, rfl⟩
          have hAw := IntKind.wrap_u64 y1
          obtain ⟨A, hA1⟩ : ∃ A, IntKind.u64.wrap y1 = A := ⟨_, rfl⟩
          rw [hA1] at hAw
          have A0 : 0 ≤ A := by omega
          have A1 : A < 18446744073709551616 := by omega
          obtain ⟨y2, hy2⟩ : ∃ y2, IntKind.u64.wrap x = y2 := ⟨_, rfl⟩
          have hCw := IntKind.wrap_u64 (y2 + 21845)
          obtain ⟨C, hC1⟩ : ∃ C, IntKind.u64.wrap (y2 + 21845) = C := ⟨_, rfl⟩
          rw [hC1] at hCw
          have C0 : 0 ≤ C := by omega
          have C1 : C < 18446744073709551616 := by omega
          clear hAw hCw
          rcases (show k % 2 = 0 ∨ k % 2 = 1 by omega) with h2 | h2
          · have hkm : (k : Int).tmod 2 = 0 := by rw [Int.tmod_eq_emod_of_nonneg (by omega)]; omega
            have hkm2 : (k : Int) % 2 = 0 := by omega
            obtain rfl : pk = 0 := by omega
            clear hpk
            go_wp2
            obtain ⟨w5, hw5⟩ : ∃ w5, w5 = wr := ⟨_, rfl⟩
            rw [← hw5] at HO HK hsz3 ⊢
            clear hw5
            go_loopw [2, 5] (fun v i wr => ∃ (j : Nat) (q : List Uo), j ≤ 10 ∧ i = .int .i64 ((j : Int) - 1) ∧ q.length = 40 + 20 * k + 0 + 2 * j ∧ (∀ c ∈ q, c.Raw) ∧ OwnO wr (b + 1) v q ∧ Below w1.heap.size w1 wr) (fun _ i _ => (9 - intOf i).toNat)
            case atStart => exact ⟨0, q, by omega, rfl, by omega, HR.out, HO.out, HK.out⟩
            case round =>
              clear HR HO HK
              obtain ⟨j, q2, hj, rfl, hq2, hraw, ho, hkp⟩ := hrel
              have HO := Lib.hid ho
              have HK := Lib.hid hkp
              have HR := Lib.hid hraw
              have hsz4 := hkp.size
              have HBW := Lib.hid (HB0.out.trans (hkp.mono HB0.out.size))
              have hA := HA0.out.below (hkp.mono (Nat.le_refl _)) (by omega)
              clear ho hkp hraw
              by_cases hlt4 : j < 10
              · have d1 : decide ((j : Int) - 1 ≤ 8) = true := by simp; omega
                obtain ⟨z, hz⟩ : ∃ z : Int, (j : Int) - 1 = z := ⟨_, rfl⟩
                have hzb : -1 ≤ z ∧ z ≤ 8 := by omega
                obtain ⟨p, hp⟩ : ∃ p, z % 2 = p := ⟨_, rfl⟩
                have hpb : 0 ≤ p ∧ p < 2 := by omega
                rw [hz] at d1 ⊢
                have ez : bits .and .i64 z 1 = p := by rw [and1_i64]; exact hp
                have ez2 : IntKind.i64.wrap (2 + p) = 2 + p := IntWalk.i64_in _ (by omega)
                obtain ⟨z0, z1⟩ := hzb
                obtain ⟨p0, p1⟩ := hpb
                have HZ := Lib.hid hz
                have hzz : z = (j : Int) - 1 := hz.symm
                have HZZ := Lib.hid hzz
                clear hp hz hzz
                have HOd := Lib.hid (HO.out.below (w' := wr.drew) ⟨rfl, rfl, rfl, Nat.le_refl _, fun _ _ => rfl⟩)
                have HKd := Lib.hid HK.out.drew
                have hsd : wr.drew.heap.size = wr.heap.size := rfl
                have HQ2 := Lib.hid hq2
                have hq2b : q2.length < 1000 := by omega
                obtain ⟨n2, hn2⟩ : ∃ n, q2.length = n := ⟨_, rfl⟩
                go_upto_region 13 with fail
                refine wp_region_held_drew (S := fun w' => At b (nO.map (.int .i64)) w') (by kernel_rfl) (hA.drew) (fun hS => ?_)
                generalize wr.drew = g0 at hS HOd HKd hsd ⊢
                (refine wpAnyH_take (i := 0) (oi := { dst := some 32, op := Op.move (Operand.tmp 2), type := 22, pos := "outright.go:130", after := #[], guard := none }) (v := ?_) rfl (by kernel_rfl) (by kernel_rfl) (by kernel_rfl) (fun _ _ _ h => h) (Or.inl ⟨by rfl, ?_⟩) hS ?_; rotate_left; focus (intro w' s0; go_simp <;> try with_reducible rfl))
                try simp only [Act.put, List.setIfInBounds_toArray, List.set_cons_zero, List.set_cons_succ]
                (refine wpAnyH_take (i := 1) (oi := { dst := some 33, op := Op.move (Operand.tmp 5), type := 3, pos := "outright.go:130", after := #[], guard := none }) (v := ?_) rfl (by kernel_rfl) (by kernel_rfl) (by kernel_rfl) (fun _ _ _ h => h) (Or.inl ⟨by rfl, ?_⟩) hS ?_; rotate_left; focus (intro w' s0; go_simp <;> try with_reducible rfl))
                try simp only [Act.put, List.setIfInBounds_toArray, List.set_cons_zero, List.set_cons_succ]
                (refine wpAnyH_take (i := 2) (oi := { dst := some 34, op := Op.binOp BinOp.and 3 (Operand.tmp 33) (Operand.const (Value.int IntKind.i64 1)) 3, type := 3, pos := "outright.go:130", after := #[{ on := 1, ground := Ground.data }], guard := none }) (v := ?_) rfl (by kernel_rfl) (by kernel_rfl) (by kernel_rfl) (fun _ _ _ h => h) (Or.inl ⟨by rfl, ?_⟩) hS ?_; rotate_left; focus (intro w' s0; go_simp <;> try with_reducible rfl))
                try simp only [Act.put, List.setIfInBounds_toArray, List.set_cons_zero, List.set_cons_succ]
                (refine wpAnyH_take (i := 3) (oi := { dst := some 35, op := Op.binOp BinOp.add 3 (Operand.const (Value.int IntKind.i64 2)) (Operand.tmp 34) 3, type := 3, pos := "outright.go:130", after := #[{ on := 2, ground := Ground.data }], guard := none }) (v := ?_) rfl (by kernel_rfl) (by kernel_rfl) (by kernel_rfl) (fun _ _ _ h => h) (Or.inl ⟨by rfl, ?_⟩) hS ?_; rotate_left; focus (intro w' s0; go_simp <;> try with_reducible rfl))
                try simp only [Act.put, List.setIfInBounds_toArray, List.set_cons_zero, List.set_cons_succ]
                (refine wpAnyH_take (i := 4) (oi := { dst := some 36, op := Op.move (Operand.tmp 1), type := 47, pos := "outright.go:130", after := #[], guard := none }) (v := ?_) rfl (by kernel_rfl) (by kernel_rfl) (by kernel_rfl) (fun _ _ _ h => h) (Or.inl ⟨by rfl, ?_⟩) hS ?_; rotate_left; focus (intro w' s0; go_simp <;> try with_reducible rfl))
                try simp only [Act.put, List.setIfInBounds_toArray, List.set_cons_zero, List.set_cons_succ]
                (refine wpAnyH_take (i := 5) (oi := { dst := some 37, op := Op.move (Operand.tmp 4), type := 3, pos := "outright.go:130", after := #[], guard := none }) (v := ?_) rfl (by kernel_rfl) (by kernel_rfl) (by kernel_rfl) (fun _ _ _ h => h) (Or.inl ⟨by rfl, ?_⟩) hS ?_; rotate_left; focus (intro w' s0; go_simp <;> try with_reducible rfl))
                try simp only [Act.put, List.setIfInBounds_toArray, List.set_cons_zero, List.set_cons_succ]
                (refine wpAnyH_take (i := 6) (oi := { dst := some 38, op := Op.indexAddr 47 (Operand.tmp 36) (Operand.tmp 37), type := 0, pos := "outright.go:130", after := #[{ on := 4, ground := Ground.data }, { on := 5, ground := Ground.data }], guard := none }) (v := ?_) rfl (by kernel_rfl) (by kernel_rfl) (by kernel_rfl) (fun _ _ _ h => h) (Or.inl ⟨by rfl, ?_⟩) hS ?_; rotate_left; focus (intro w' s0; go_simp <;> try with_reducible rfl))
                try simp only [Act.put, List.setIfInBounds_toArray, List.set_cons_zero, List.set_cons_succ]
                (refine wpAnyH_take (i := 7) (oi := { dst := some 39, op := Op.load 3 (Operand.tmp 38), type := 3, pos := "outright.go:130", after := #[{ on := 6, ground := Ground.data }], guard := none }) (v := ?_) rfl (by kernel_rfl) (by kernel_rfl) (by kernel_rfl) (fun _ _ _ h => h) (Or.inl ⟨by rfl, ?_⟩) hS ?_; rotate_left; focus (intro w' s0; have c_k := s0 k _ HXV.out; go_simp <;> try with_reducible rfl))
                try simp only [Act.put, List.setIfInBounds_toArray, List.set_cons_zero, List.set_cons_succ]
                (refine wpAnyH_take (i := 8) (oi := { dst := some 40, op := Op.move (Operand.tmp 5), type := 3, pos := "outright.go:130", after := #[], guard := none }) (v := ?_) rfl (by kernel_rfl) (by kernel_rfl) (by kernel_rfl) (fun _ _ _ h => h) (Or.inl ⟨by rfl, ?_⟩) hS ?_; rotate_left; focus (intro w' s0; go_simp <;> try with_reducible rfl))
                try simp only [Act.put, List.setIfInBounds_toArray, List.set_cons_zero, List.set_cons_succ]
                (refine wpAnyH_take (i := 9) (oi := { dst := some 41, op := Op.move (Operand.tmp 1), type := 47, pos := "outright.go:130", after := #[], guard := none }) (v := ?_) rfl (by kernel_rfl) (by kernel_rfl) (by kernel_rfl) (fun _ _ _ h => h) (Or.inl ⟨by rfl, ?_⟩) hS ?_; rotate_left; focus (intro w' s0; go_simp <;> try with_reducible rfl))
                try simp only [Act.put, List.setIfInBounds_toArray, List.set_cons_zero, List.set_cons_succ]
                (refine wpAnyH_take (i := 10) (oi := { dst := some 42, op := Op.move (Operand.tmp 4), type := 3, pos := "outright.go:130", after := #[], guard := none }) (v := ?_) rfl (by kernel_rfl) (by kernel_rfl) (by kernel_rfl) (fun _ _ _ h => h) (Or.inl ⟨by rfl, ?_⟩) hS ?_; rotate_left; focus (intro w' s0; go_simp <;> try with_reducible rfl))
                try simp only [Act.put, List.setIfInBounds_toArray, List.set_cons_zero, List.set_cons_succ]
                (refine wpAnyH_take (i := 11) (oi := { dst := some 43, op := Op.indexAddr 47 (Operand.tmp 41) (Operand.tmp 42), type := 0, pos := "outright.go:130", after := #[{ on := 9, ground := Ground.data }, { on := 10, ground := Ground.data }], guard := none }) (v := ?_) rfl (by kernel_rfl) (by kernel_rfl) (by kernel_rfl) (fun _ _ _ h => h) (Or.inl ⟨by rfl, ?_⟩) hS ?_; rotate_left; focus (intro w' s0; go_simp <;> try with_reducible rfl))
                try simp only [Act.put, List.setIfInBounds_toArray, List.set_cons_zero, List.set_cons_succ]
                (refine wpAnyH_take (i := 12) (oi := { dst := some 44, op := Op.load 3 (Operand.tmp 43), type := 3, pos := "outright.go:130", after := #[{ on := 11, ground := Ground.data }], guard := none }) (v := ?_) rfl (by kernel_rfl) (by kernel_rfl) (by kernel_rfl) (fun _ _ _ h => h) (Or.inl ⟨by rfl, ?_⟩) hS ?_; rotate_left; focus (intro w' s0; have c_k := s0 k _ HXV.out; go_simp <;> try with_reducible rfl))
                try simp only [Act.put, List.setIfInBounds_toArray, List.set_cons_zero, List.set_cons_succ]
                (refine wpAnyH_take (i := 13) (oi := { dst := some 45, op := Op.binOp BinOp.add 3 (Operand.tmp 44) (Operand.const (Value.int IntKind.i64 21845)) 3, type := 3, pos := "outright.go:130", after := #[{ on := 12, ground := Ground.data }], guard := none }) (v := ?_) rfl (by kernel_rfl) (by kernel_rfl) (by kernel_rfl) (fun _ _ _ h => h) (Or.inl ⟨by rfl, ?_⟩) hS ?_; rotate_left; focus (intro w' s0; go_simp <;> try with_reducible rfl))
                try simp only [Act.put, List.setIfInBounds_toArray, List.set_cons_zero, List.set_cons_succ]
                (refine wpAnyH_take (i := 14) (oi := { dst := some 46, op := Op.convert 3 32 (Operand.tmp 45), type := 32, pos := "outright.go:130", after := #[{ on := 13, ground := Ground.data }], guard := none }) (v := ?_) rfl (by kernel_rfl) (by kernel_rfl) (by kernel_rfl) (fun _ _ _ h => h) (Or.inl ⟨by rfl, ?_⟩) hS ?_; rotate_left; focus (intro w' s0; go_simp <;> try with_reducible rfl))
                try simp only [Act.put, List.setIfInBounds_toArray, List.set_cons_zero, List.set_cons_succ]
                (refine wpAnyH_take (i := 15) (oi := { dst := some 47, op := Op.build 34 #[(0, Operand.tmp 35), (1, Operand.tmp 39), (2, Operand.tmp 40), (3, Operand.tmp 46)], type := 34, pos := "outright.go:130", after := #[{ on := 3, ground := Ground.data }, { on := 7, ground := Ground.data }, { on := 8, ground := Ground.data }, { on := 14, ground := Ground.data }], guard := none }) (v := ?_) rfl (by kernel_rfl) (by kernel_rfl) (by kernel_rfl) (fun _ _ _ h => h) (Or.inl ⟨by rfl, ?_⟩) hS ?_; rotate_left; focus (intro w' s0; go_simp <;> try with_reducible rfl))
                try simp only [Act.put, List.setIfInBounds_toArray, List.set_cons_zero, List.set_cons_succ]
                (refine wpAnyH_take (i := 16) (oi := { dst := some 48, op := Op.move (Operand.tmp 4), type := 3, pos := "outright.go:130", after := #[], guard := none }) (v := ?_) rfl (by kernel_rfl) (by kernel_rfl) (by kernel_rfl) (fun _ _ _ h => h) (Or.inl ⟨by rfl, ?_⟩) hS ?_; rotate_left; focus (intro w' s0; go_simp <;> try with_reducible rfl))
                try simp only [Act.put, List.setIfInBounds_toArray, List.set_cons_zero, List.set_cons_succ]
                (refine wpAnyH_take (i := 17) (oi := { dst := some 49, op := Op.binOp BinOp.and 3 (Operand.tmp 48) (Operand.const (Value.int IntKind.i64 1)) 3, type := 3, pos := "outright.go:130", after := #[{ on := 16, ground := Ground.data }], guard := none }) (v := ?_) rfl (by kernel_rfl) (by kernel_rfl) (by kernel_rfl) (fun _ _ _ h => h) (Or.inl ⟨by rfl, ?_⟩) hS ?_; rotate_left; focus (intro w' s0; go_simp <;> try with_reducible rfl))
                try simp only [Act.put, List.setIfInBounds_toArray, List.set_cons_zero, List.set_cons_succ]
                (refine wpAnyH_take (i := 18) (oi := { dst := some 50, op := Op.binOp BinOp.add 3 (Operand.const (Value.int IntKind.i64 4)) (Operand.tmp 49) 3, type := 3, pos := "outright.go:130", after := #[{ on := 17, ground := Ground.data }], guard := none }) (v := ?_) rfl (by kernel_rfl) (by kernel_rfl) (by kernel_rfl) (fun _ _ _ h => h) (Or.inl ⟨by rfl, ?_⟩) hS ?_; rotate_left; focus (intro w' s0; go_simp <;> try with_reducible rfl))
                try simp only [Act.put, List.setIfInBounds_toArray, List.set_cons_zero, List.set_cons_succ]
                (refine wpAnyH_take (i := 19) (oi := { dst := some 51, op := Op.move (Operand.tmp 1), type := 47, pos := "outright.go:130", after := #[], guard := none }) (v := ?_) rfl (by kernel_rfl) (by kernel_rfl) (by kernel_rfl) (fun _ _ _ h => h) (Or.inl ⟨by rfl, ?_⟩) hS ?_; rotate_left; focus (intro w' s0; go_simp <;> try with_reducible rfl))
                try simp only [Act.put, List.setIfInBounds_toArray, List.set_cons_zero, List.set_cons_succ]
                (refine wpAnyH_take (i := 20) (oi := { dst := some 52, op := Op.move (Operand.tmp 4), type := 3, pos := "outright.go:130", after := #[], guard := none }) (v := ?_) rfl (by kernel_rfl) (by kernel_rfl) (by kernel_rfl) (fun _ _ _ h => h) (Or.inl ⟨by rfl, ?_⟩) hS ?_; rotate_left; focus (intro w' s0; go_simp <;> try with_reducible rfl))
                try simp only [Act.put, List.setIfInBounds_toArray, List.set_cons_zero, List.set_cons_succ]
                (refine wpAnyH_take (i := 21) (oi := { dst := some 53, op := Op.indexAddr 47 (Operand.tmp 51) (Operand.tmp 52), type := 0, pos := "outright.go:130", after := #[{ on := 19, ground := Ground.data }, { on := 20, ground := Ground.data }], guard := none }) (v := ?_) rfl (by kernel_rfl) (by kernel_rfl) (by kernel_rfl) (fun _ _ _ h => h) (Or.inl ⟨by rfl, ?_⟩) hS ?_; rotate_left; focus (intro w' s0; go_simp <;> try with_reducible rfl))
                try simp only [Act.put, List.setIfInBounds_toArray, List.set_cons_zero, List.set_cons_succ]
                (refine wpAnyH_take (i := 22) (oi := { dst := some 54, op := Op.load 3 (Operand.tmp 53), type := 3, pos := "outright.go:130", after := #[{ on := 21, ground := Ground.data }], guard := none }) (v := ?_) rfl (by kernel_rfl) (by kernel_rfl) (by kernel_rfl) (fun _ _ _ h => h) (Or.inl ⟨by rfl, ?_⟩) hS ?_; rotate_left; focus (intro w' s0; have c_k := s0 k _ HXV.out; go_simp <;> try with_reducible rfl))
                try simp only [Act.put, List.setIfInBounds_toArray, List.set_cons_zero, List.set_cons_succ]
                (refine wpAnyH_take (i := 23) (oi := { dst := some 55, op := Op.move (Operand.tmp 5), type := 3, pos := "outright.go:130", after := #[], guard := none }) (v := ?_) rfl (by kernel_rfl) (by kernel_rfl) (by kernel_rfl) (fun _ _ _ h => h) (Or.inl ⟨by rfl, ?_⟩) hS ?_; rotate_left; focus (intro w' s0; go_simp <;> try with_reducible rfl))
                try simp only [Act.put, List.setIfInBounds_toArray, List.set_cons_zero, List.set_cons_succ]
                (refine wpAnyH_take (i := 24) (oi := { dst := some 56, op := Op.build 34 #[(0, Operand.tmp 50), (1, Operand.tmp 54), (2, Operand.tmp 55), (3, Operand.const (Value.int IntKind.u64 21845))], type := 34, pos := "outright.go:130", after := #[{ on := 18, ground := Ground.data }, { on := 22, ground := Ground.data }, { on := 23, ground := Ground.data }], guard := none }) (v := ?_) rfl (by kernel_rfl) (by kernel_rfl) (by kernel_rfl) (fun _ _ _ h => h) (Or.inl ⟨by rfl, ?_⟩) hS ?_; rotate_left; focus (intro w' s0; go_simp <;> try with_reducible rfl))
                try simp only [Act.put, List.setIfInBounds_toArray, List.set_cons_zero, List.set_cons_succ]
                refine wpAnyH_ready (rs := [25]) (by kernel_rfl) (by simp) ?_
                refine AllReadyH.cons (o := { dst := some 57, op := Op.buildSlice 22 2 #[(0, Operand.tmp 47), (1, Operand.tmp 56)], type := 22, pos := "outright.go:130", after := #[{ on := 15, ground := Ground.data }, { on := 24, ground := Ground.data }], guard := none }) rfl (fun K hK => ?_) AllReadyH.nil
                go_simp
                refine hK.out _ _ (hS.alloc _) (fun hS => ?_)
                clear hK K
                try simp only [Act.put, List.setIfInBounds_toArray, List.set_cons_zero, List.set_cons_succ]
                have hN := Lib.hid (At.new g0 (fu [⟨2 + p, x, z, A⟩, ⟨4 + 0, x, z, 21845⟩]) 34)
                refine wpAnyH_ready (rs := [26]) (by kernel_rfl) (by simp) ?_
                refine AllReadyH.cons (o := { dst := some 58, op := Op.call { callee := Callee.builtin Go.Builtin.append, args := #[Operand.tmp 32, Operand.tmp 57], argTypes := #[22, 22] }, type := 22, pos := "outright.go:130", after := #[{ on := 0, ground := Ground.data }, { on := 25, ground := Ground.data }], guard := none }) rfl (fun K hK => ?_) AllReadyH.nil
                refine app_us rfl (.tmp 32) (.tmp 57) rfl (b + 1) _ _ [⟨2 + p, x, z, A⟩, ⟨4 + 0, x, z, 21845⟩] rfl (HOd.out.alloc _) ⟨wr.heap.size, 0, none⟩ 2 2 rfl (by decide) rfl (newsu_at (by have h := hN.out; rw [hsd] at h; exact h)) (by omega) (by simp; omega) (wr.heap.size + 1) (by simp; omega) ?_
                intro gg3 cc3 w3 hown3 hgr3 hat3 hlt3
                have HO3 := Lib.hid hown3
                have HK3 := Lib.hid ((HKd.out.alloc (by omega) _).grown hgr3 (by simp; omega) (fun i hi => by have := (HOd.out.lt i hi).1; omega))
                clear hown3 hgr3 hat3 hN hS
                refine hK.out _ _ (HA0.out.below (HK3.out.mono (Nat.le_refl _)) (by omega)) (fun hS => ?_)
                clear hK K
                try simp only [Act.put, List.setIfInBounds_toArray, List.set_cons_zero, List.set_cons_succ]
                (refine wpAnyH_take (i := 27) (oi := { dst := some 2, op := Op.assign (Operand.tmp 58), type := 22, pos := "outright.go:130", after := #[{ on := 26, ground := Ground.data }, { on := 26, ground := Ground.chain }, { on := 0, ground := Ground.phase }, { on := 1, ground := Ground.phase }, { on := 2, ground := Ground.phase }, { on := 3, ground := Ground.phase }, { on := 4, ground := Ground.phase }, { on := 5, ground := Ground.phase }, { on := 6, ground := Ground.phase }, { on := 7, ground := Ground.phase }, { on := 8, ground := Ground.phase }, { on := 9, ground := Ground.phase }, { on := 10, ground := Ground.phase }, { on := 11, ground := Ground.phase }, { on := 12, ground := Ground.phase }, { on := 13, ground := Ground.phase }, { on := 14, ground := Ground.phase }, { on := 15, ground := Ground.phase }, { on := 16, ground := Ground.phase }, { on := 17, ground := Ground.phase }, { on := 18, ground := Ground.phase }, { on := 19, ground := Ground.phase }, { on := 20, ground := Ground.phase }, { on := 21, ground := Ground.phase }, { on := 22, ground := Ground.phase }, { on := 23, ground := Ground.phase }, { on := 24, ground := Ground.phase }, { on := 25, ground := Ground.phase }, { on := 26, ground := Ground.phase }], guard := none }) (v := ?_) rfl (by kernel_rfl) (by kernel_rfl) (by kernel_rfl) (fun _ _ _ h => h) (Or.inl ⟨by rfl, ?_⟩) hS ?_; rotate_left; focus (intro w' s0; go_simp <;> try with_reducible rfl))
                try simp only [Act.put, List.setIfInBounds_toArray, List.set_cons_zero, List.set_cons_succ]
                refine wpAnyH_done (by kernel_rfl) ?_ _
                obtain ⟨q3, hq3⟩ : ∃ q3, q2 ++ [⟨2 + p, x, z, A⟩, ⟨4 + 0, x, z, 21845⟩] = q3 := ⟨_, rfl⟩
                have hl3 : q3.length = n2 + 2 := by rw [← hq3]; simp; omega
                have HR3 : Hid (∀ c ∈ q3, c.Raw) := Lib.hid (by
                  rw [← hq3]
                  intro c hc
                  rcases List.mem_append.1 hc with hc | hc
                  · exact HR.out c hc
                  · simp only [List.mem_cons, List.not_mem_nil, or_false] at hc
                    rcases hc with rfl | rfl <;> exact uo_raw _ _ _ _ (by omega) (by omega) (by omega) (by omega) (by omega) (by omega) (by omega) (by omega))
                rw [hq3] at HO3
                have hA3 := hS
                clear hS
                go_upto_region 14 with fail
                have HOe := Lib.hid (HO3.out.below (w' := w3.drew) ⟨rfl, rfl, rfl, Nat.le_refl _, fun _ _ => rfl⟩)
                have HKe := Lib.hid HK3.out.drew
                have HBe := Lib.hid (HB0.out.trans ((HK3.out.mono HB0.out.size).drew))
                have hse : w3.drew.heap.size = w3.heap.size := rfl
                refine wp_region_held_drew (S := fun w' => At b (nO.map (.int .i64)) w') (by kernel_rfl) (hA3.drew) (fun hS => ?_)
                generalize w3.drew = g1 at hS HOe HKe HBe hse ⊢
                (refine wpAnyH_take (i := 0) (oi := { dst := some 59, op := Op.move (Operand.tmp 1), type := 47, pos := "outright.go:131", after := #[], guard := none }) (v := ?_) rfl (by kernel_rfl) (by kernel_rfl) (by kernel_rfl) (fun _ _ _ h => h) (Or.inl ⟨by rfl, ?_⟩) hS ?_; rotate_left; focus (intro w' s0; go_simp <;> try with_reducible rfl))
                try simp only [Act.put, List.setIfInBounds_toArray, List.set_cons_zero, List.set_cons_succ]
                (refine wpAnyH_take (i := 1) (oi := { dst := some 60, op := Op.move (Operand.tmp 4), type := 3, pos := "outright.go:131", after := #[], guard := none }) (v := ?_) rfl (by kernel_rfl) (by kernel_rfl) (by kernel_rfl) (fun _ _ _ h => h) (Or.inl ⟨by rfl, ?_⟩) hS ?_; rotate_left; focus (intro w' s0; go_simp <;> try with_reducible rfl))
                try simp only [Act.put, List.setIfInBounds_toArray, List.set_cons_zero, List.set_cons_succ]
                (refine wpAnyH_take (i := 2) (oi := { dst := some 61, op := Op.indexAddr 47 (Operand.tmp 59) (Operand.tmp 60), type := 0, pos := "outright.go:131", after := #[{ on := 0, ground := Ground.data }, { on := 1, ground := Ground.data }], guard := none }) (v := ?_) rfl (by kernel_rfl) (by kernel_rfl) (by kernel_rfl) (fun _ _ _ h => h) (Or.inl ⟨by rfl, ?_⟩) hS ?_; rotate_left; focus (intro w' s0; go_simp <;> try with_reducible rfl))
                try simp only [Act.put, List.setIfInBounds_toArray, List.set_cons_zero, List.set_cons_succ]
                (refine wpAnyH_take (i := 3) (oi := { dst := some 62, op := Op.load 3 (Operand.tmp 61), type := 3, pos := "outright.go:131", after := #[{ on := 2, ground := Ground.data }], guard := none }) (v := ?_) rfl (by kernel_rfl) (by kernel_rfl) (by kernel_rfl) (fun _ _ _ h => h) (Or.inl ⟨by rfl, ?_⟩) hS ?_; rotate_left; focus (intro w' s0; have c_k := s0 k _ HXV.out; go_simp <;> try with_reducible rfl))
                try simp only [Act.put, List.setIfInBounds_toArray, List.set_cons_zero, List.set_cons_succ]
                (refine wpAnyH_take (i := 4) (oi := { dst := some 63, op := Op.move (Operand.tmp 5), type := 3, pos := "outright.go:131", after := #[], guard := none }) (v := ?_) rfl (by kernel_rfl) (by kernel_rfl) (by kernel_rfl) (fun _ _ _ h => h) (Or.inl ⟨by rfl, ?_⟩) hS ?_; rotate_left; focus (intro w' s0; go_simp <;> try with_reducible rfl))
                try simp only [Act.put, List.setIfInBounds_toArray, List.set_cons_zero, List.set_cons_succ]
                (refine wpAnyH_take (i := 5) (oi := { dst := some 64, op := Op.move (Operand.tmp 1), type := 47, pos := "outright.go:131", after := #[], guard := none }) (v := ?_) rfl (by kernel_rfl) (by kernel_rfl) (by kernel_rfl) (fun _ _ _ h => h) (Or.inl ⟨by rfl, ?_⟩) hS ?_; rotate_left; focus (intro w' s0; go_simp <;> try with_reducible rfl))
                try simp only [Act.put, List.setIfInBounds_toArray, List.set_cons_zero, List.set_cons_succ]
                (refine wpAnyH_take (i := 6) (oi := { dst := some 65, op := Op.move (Operand.tmp 4), type := 3, pos := "outright.go:131", after := #[], guard := none }) (v := ?_) rfl (by kernel_rfl) (by kernel_rfl) (by kernel_rfl) (fun _ _ _ h => h) (Or.inl ⟨by rfl, ?_⟩) hS ?_; rotate_left; focus (intro w' s0; go_simp <;> try with_reducible rfl))
                try simp only [Act.put, List.setIfInBounds_toArray, List.set_cons_zero, List.set_cons_succ]
                (refine wpAnyH_take (i := 7) (oi := { dst := some 66, op := Op.indexAddr 47 (Operand.tmp 64) (Operand.tmp 65), type := 0, pos := "outright.go:131", after := #[{ on := 5, ground := Ground.data }, { on := 6, ground := Ground.data }], guard := none }) (v := ?_) rfl (by kernel_rfl) (by kernel_rfl) (by kernel_rfl) (fun _ _ _ h => h) (Or.inl ⟨by rfl, ?_⟩) hS ?_; rotate_left; focus (intro w' s0; go_simp <;> try with_reducible rfl))
                try simp only [Act.put, List.setIfInBounds_toArray, List.set_cons_zero, List.set_cons_succ]
                (refine wpAnyH_take (i := 8) (oi := { dst := some 67, op := Op.load 3 (Operand.tmp 66), type := 3, pos := "outright.go:131", after := #[{ on := 7, ground := Ground.data }], guard := none }) (v := ?_) rfl (by kernel_rfl) (by kernel_rfl) (by kernel_rfl) (fun _ _ _ h => h) (Or.inl ⟨by rfl, ?_⟩) hS ?_; rotate_left; focus (intro w' s0; have c_k := s0 k _ HXV.out; go_simp <;> try with_reducible rfl))
                try simp only [Act.put, List.setIfInBounds_toArray, List.set_cons_zero, List.set_cons_succ]
                (refine wpAnyH_take (i := 9) (oi := { dst := some 68, op := Op.convert 3 32 (Operand.tmp 67), type := 32, pos := "outright.go:131", after := #[{ on := 8, ground := Ground.data }], guard := none }) (v := ?_) rfl (by kernel_rfl) (by kernel_rfl) (by kernel_rfl) (fun _ _ _ h => h) (Or.inl ⟨by rfl, ?_⟩) hS ?_; rotate_left; focus (intro w' s0; go_simp <;> try with_reducible rfl))
                try simp only [Act.put, List.setIfInBounds_toArray, List.set_cons_zero, List.set_cons_succ]
                (refine wpAnyH_take (i := 10) (oi := { dst := some 69, op := Op.binOp BinOp.add 32 (Operand.tmp 68) (Operand.const (Value.int IntKind.u64 21845)) 32, type := 32, pos := "outright.go:131", after := #[{ on := 9, ground := Ground.data }], guard := none }) (v := ?_) rfl (by kernel_rfl) (by kernel_rfl) (by kernel_rfl) (fun _ _ _ h => h) (Or.inl ⟨by rfl, ?_⟩) hS ?_; rotate_left; focus (intro w' s0; go_simp <;> try with_reducible rfl))
                try simp only [Act.put, List.setIfInBounds_toArray, List.set_cons_zero, List.set_cons_succ]
                refine wpAnyH_ready (rs := [11]) (by kernel_rfl) (by simp) ?_
                refine AllReadyH.cons (o := { dst := some 70, op := Op.buildSlice 52 3 #[(0, Operand.const (Value.int IntKind.u64 1)), (1, Operand.const (Value.int IntKind.u64 4294989141)), (2, Operand.const (Value.int IntKind.u64 7))], type := 52, pos := "outright.go:131", after := #[], guard := none }) rfl (fun K hK => ?_) AllReadyH.nil
                go_simp
                refine hK.out _ _ (hS.alloc _) (fun hS => ?_)
                clear hK K
                try simp only [Act.put, List.setIfInBounds_toArray, List.set_cons_zero, List.set_cons_succ]
                refine wpAnyH_ready (rs := [12]) (by kernel_rfl) (by simp) ?_
                refine AllReadyH.cons (o := { dst := some 71, op := Op.call { callee := Callee.value (Operand.func 6), args := #[Operand.tmp 62, Operand.tmp 63, Operand.tmp 69, Operand.tmp 70], argTypes := #[3, 3, 32, 52] }, type := 4, pos := "outright.go:131", after := #[{ on := 3, ground := Ground.data }, { on := 4, ground := Ground.data }, { on := 10, ground := Ground.data }, { on := 11, ground := Ground.data }], guard := none }) rfl (fun K hK => ?_) AllReadyH.nil
                refine take_if (by rfl) ?_
                go_simp
                (with_reducible refine (power14_k x (z) C x0 x1 (by omega) (by omega) C0 C1 g1 _ hse (fun O => UTb.h1 HTB (Lib.hid (HBe.out.alloc HBe.out.size O)))).mono ?_)
                rintro e' w6 ⟨rfl, b6⟩
                have HK6 := Lib.hid (HKe.out.trans (b6.mono HKe.out.size))
                have HO6 := Lib.hid (HOe.out.below b6)
                refine hK.out _ _ (HA0.out.below (HK6.out.mono (Nat.le_refl _)) (by omega)) (fun hS => ?_)
                clear hK K b6
                try simp only [Act.put, List.setIfInBounds_toArray, List.set_cons_zero, List.set_cons_succ]
                (refine wpAnyH_take (i := 13) (oi := { dst := some 72, op := Op.unOp UnOp.not 4 (Operand.tmp 71), type := 4, pos := "outright.go:131", after := #[{ on := 12, ground := Ground.data }], guard := none }) (v := ?_) rfl (by kernel_rfl) (by kernel_rfl) (by kernel_rfl) (fun _ _ _ h => h) (Or.inl ⟨by rfl, ?_⟩) hS ?_; rotate_left; focus (intro w' s0; go_simp <;> try with_reducible rfl))
                try simp only [Act.put, List.setIfInBounds_toArray, List.set_cons_zero, List.set_cons_succ]
                refine wpAnyH_done (by kernel_rfl) ?_ _
                have HN2 := Lib.hid hn2
                clear hn2
                go_wp2
                go_roundw
                case rel => exact ⟨j + 1, q3, by omega, by rw [HZZ.out]; go_num, by have := HQ2.out; have := HN2.out; omega, HR3.out, by have h := HO6.out; rw [HN2.out, show n2 + 2 = 40 + 20 * k + 2 * j + 2 by have := HQ2.out; have := HN2.out; omega] at h; exact h, HK6.out⟩
                case measure => simp [intOf]; omega
              · obtain rfl : j = 10 := by omega
                have d1 : decide (((10 : Nat) : Int) - 1 ≤ 8) = false := by decide
                have HOd := Lib.hid (HO.out.below (w' := wr.drew) ⟨rfl, rfl, rfl, Nat.le_refl _, fun _ _ => rfl⟩)
                have HKd := Lib.hid HK.out.drew
                have hsd : wr.drew.heap.size = wr.heap.size := rfl
                have HQ2 := Lib.hid hq2
                have hq2b : q2.length < 1000 := by omega
                obtain ⟨n2, hn2⟩ : ∃ n, q2.length = n := ⟨_, rfl⟩
                have g1' : IntKind.u64.wrap (k : Int) = (k : Int) := by rw [IntKind.wrap_u64]; omega
                have g2' : IntKind.i64.wrap (21840 + (k : Int)) = 21840 + (k : Int) := IntWalk.i64_in _ (by omega)
                have g3' : IntKind.u64.wrap (21840 + (k : Int)) = 21840 + (k : Int) := by rw [IntKind.wrap_u64]; omega
                go_upto_region 16 with fail
                refine wp_region_held_drew (S := fun w' => At b (nO.map (.int .i64)) w') (by kernel_rfl) (hA.drew) (fun hS => ?_)
                generalize wr.drew = g0 at hS HOd HKd hsd ⊢
                (refine wpAnyH_take (i := 0) (oi := { dst := some 73, op := Op.move (Operand.tmp 2), type := 22, pos := "outright.go:135", after := #[], guard := none }) (v := ?_) rfl (by kernel_rfl) (by kernel_rfl) (by kernel_rfl) (fun _ _ _ h => h) (Or.inl ⟨by rfl, ?_⟩) hS ?_; rotate_left; focus (intro w' s0; go_simp <;> try with_reducible rfl))
                try simp only [Act.put, List.setIfInBounds_toArray, List.set_cons_zero, List.set_cons_succ]
                (refine wpAnyH_take (i := 1) (oi := { dst := some 74, op := Op.move (Operand.tmp 1), type := 47, pos := "outright.go:135", after := #[], guard := none }) (v := ?_) rfl (by kernel_rfl) (by kernel_rfl) (by kernel_rfl) (fun _ _ _ h => h) (Or.inl ⟨by rfl, ?_⟩) hS ?_; rotate_left; focus (intro w' s0; go_simp <;> try with_reducible rfl))
                try simp only [Act.put, List.setIfInBounds_toArray, List.set_cons_zero, List.set_cons_succ]
                (refine wpAnyH_take (i := 2) (oi := { dst := some 75, op := Op.move (Operand.tmp 4), type := 3, pos := "outright.go:135", after := #[], guard := none }) (v := ?_) rfl (by kernel_rfl) (by kernel_rfl) (by kernel_rfl) (fun _ _ _ h => h) (Or.inl ⟨by rfl, ?_⟩) hS ?_; rotate_left; focus (intro w' s0; go_simp <;> try with_reducible rfl))
                try simp only [Act.put, List.setIfInBounds_toArray, List.set_cons_zero, List.set_cons_succ]
                (refine wpAnyH_take (i := 3) (oi := { dst := some 76, op := Op.indexAddr 47 (Operand.tmp 74) (Operand.tmp 75), type := 0, pos := "outright.go:135", after := #[{ on := 1, ground := Ground.data }, { on := 2, ground := Ground.data }], guard := none }) (v := ?_) rfl (by kernel_rfl) (by kernel_rfl) (by kernel_rfl) (fun _ _ _ h => h) (Or.inl ⟨by rfl, ?_⟩) hS ?_; rotate_left; focus (intro w' s0; go_simp <;> try with_reducible rfl))
                try simp only [Act.put, List.setIfInBounds_toArray, List.set_cons_zero, List.set_cons_succ]
                (refine wpAnyH_take (i := 4) (oi := { dst := some 77, op := Op.load 3 (Operand.tmp 76), type := 3, pos := "outright.go:135", after := #[{ on := 3, ground := Ground.data }], guard := none }) (v := ?_) rfl (by kernel_rfl) (by kernel_rfl) (by kernel_rfl) (fun _ _ _ h => h) (Or.inl ⟨by rfl, ?_⟩) hS ?_; rotate_left; focus (intro w' s0; have c_k := s0 k _ HXV.out; go_simp <;> try with_reducible rfl))
                try simp only [Act.put, List.setIfInBounds_toArray, List.set_cons_zero, List.set_cons_succ]
                (refine wpAnyH_take (i := 5) (oi := { dst := some 78, op := Op.build 34 #[(0, Operand.const (Value.int IntKind.i64 2)), (1, Operand.tmp 77), (2, Operand.const (Value.int IntKind.i64 1))], type := 34, pos := "outright.go:135", after := #[{ on := 4, ground := Ground.data }], guard := none }) (v := ?_) rfl (by kernel_rfl) (by kernel_rfl) (by kernel_rfl) (fun _ _ _ h => h) (Or.inl ⟨by rfl, ?_⟩) hS ?_; rotate_left; focus (intro w' s0; go_simp <;> try with_reducible rfl))
                try simp only [Act.put, List.setIfInBounds_toArray, List.set_cons_zero, List.set_cons_succ]
                (refine wpAnyH_take (i := 6) (oi := { dst := some 79, op := Op.move (Operand.tmp 1), type := 47, pos := "outright.go:135", after := #[], guard := none }) (v := ?_) rfl (by kernel_rfl) (by kernel_rfl) (by kernel_rfl) (fun _ _ _ h => h) (Or.inl ⟨by rfl, ?_⟩) hS ?_; rotate_left; focus (intro w' s0; go_simp <;> try with_reducible rfl))
                try simp only [Act.put, List.setIfInBounds_toArray, List.set_cons_zero, List.set_cons_succ]
                (refine wpAnyH_take (i := 7) (oi := { dst := some 80, op := Op.move (Operand.tmp 4), type := 3, pos := "outright.go:135", after := #[], guard := none }) (v := ?_) rfl (by kernel_rfl) (by kernel_rfl) (by kernel_rfl) (fun _ _ _ h => h) (Or.inl ⟨by rfl, ?_⟩) hS ?_; rotate_left; focus (intro w' s0; go_simp <;> try with_reducible rfl))
                try simp only [Act.put, List.setIfInBounds_toArray, List.set_cons_zero, List.set_cons_succ]
                (refine wpAnyH_take (i := 8) (oi := { dst := some 81, op := Op.indexAddr 47 (Operand.tmp 79) (Operand.tmp 80), type := 0, pos := "outright.go:135", after := #[{ on := 6, ground := Ground.data }, { on := 7, ground := Ground.data }], guard := none }) (v := ?_) rfl (by kernel_rfl) (by kernel_rfl) (by kernel_rfl) (fun _ _ _ h => h) (Or.inl ⟨by rfl, ?_⟩) hS ?_; rotate_left; focus (intro w' s0; go_simp <;> try with_reducible rfl))
                try simp only [Act.put, List.setIfInBounds_toArray, List.set_cons_zero, List.set_cons_succ]
                (refine wpAnyH_take (i := 9) (oi := { dst := some 82, op := Op.load 3 (Operand.tmp 81), type := 3, pos := "outright.go:135", after := #[{ on := 8, ground := Ground.data }], guard := none }) (v := ?_) rfl (by kernel_rfl) (by kernel_rfl) (by kernel_rfl) (fun _ _ _ h => h) (Or.inl ⟨by rfl, ?_⟩) hS ?_; rotate_left; focus (intro w' s0; have c_k := s0 k _ HXV.out; go_simp <;> try with_reducible rfl))
                try simp only [Act.put, List.setIfInBounds_toArray, List.set_cons_zero, List.set_cons_succ]
                (refine wpAnyH_take (i := 10) (oi := { dst := some 83, op := Op.move (Operand.tmp 4), type := 3, pos := "outright.go:135", after := #[], guard := none }) (v := ?_) rfl (by kernel_rfl) (by kernel_rfl) (by kernel_rfl) (fun _ _ _ h => h) (Or.inl ⟨by rfl, ?_⟩) hS ?_; rotate_left; focus (intro w' s0; go_simp <;> try with_reducible rfl))
                try simp only [Act.put, List.setIfInBounds_toArray, List.set_cons_zero, List.set_cons_succ]
                (refine wpAnyH_take (i := 11) (oi := { dst := some 84, op := Op.convert 3 32 (Operand.tmp 83), type := 32, pos := "outright.go:135", after := #[{ on := 10, ground := Ground.data }], guard := none }) (v := ?_) rfl (by kernel_rfl) (by kernel_rfl) (by kernel_rfl) (fun _ _ _ h => h) (Or.inl ⟨by rfl, ?_⟩) hS ?_; rotate_left; focus (intro w' s0; go_simp <;> try with_reducible rfl))
                try simp only [Act.put, List.setIfInBounds_toArray, List.set_cons_zero, List.set_cons_succ]
                (refine wpAnyH_take (i := 12) (oi := { dst := some 85, op := Op.build 34 #[(0, Operand.const (Value.int IntKind.i64 3)), (1, Operand.tmp 82), (2, Operand.const (Value.int IntKind.i64 1)), (3, Operand.tmp 84)], type := 34, pos := "outright.go:135", after := #[{ on := 9, ground := Ground.data }, { on := 11, ground := Ground.data }], guard := none }) (v := ?_) rfl (by kernel_rfl) (by kernel_rfl) (by kernel_rfl) (fun _ _ _ h => h) (Or.inl ⟨by rfl, ?_⟩) hS ?_; rotate_left; focus (intro w' s0; go_simp <;> try with_reducible rfl))
                try simp only [Act.put, List.setIfInBounds_toArray, List.set_cons_zero, List.set_cons_succ]
                (refine wpAnyH_take (i := 13) (oi := { dst := some 86, op := Op.build 34 #[(0, Operand.const (Value.int IntKind.i64 1))], type := 34, pos := "outright.go:135", after := #[], guard := none }) (v := ?_) rfl (by kernel_rfl) (by kernel_rfl) (by kernel_rfl) (fun _ _ _ h => h) (Or.inl ⟨by rfl, ?_⟩) hS ?_; rotate_left; focus (intro w' s0; go_simp <;> try with_reducible rfl))
                try simp only [Act.put, List.setIfInBounds_toArray, List.set_cons_zero, List.set_cons_succ]
                (refine wpAnyH_take (i := 14) (oi := { dst := some 87, op := Op.move (Operand.tmp 4), type := 3, pos := "outright.go:135", after := #[], guard := none }) (v := ?_) rfl (by kernel_rfl) (by kernel_rfl) (by kernel_rfl) (fun _ _ _ h => h) (Or.inl ⟨by rfl, ?_⟩) hS ?_; rotate_left; focus (intro w' s0; go_simp <;> try with_reducible rfl))
                try simp only [Act.put, List.setIfInBounds_toArray, List.set_cons_zero, List.set_cons_succ]
                (refine wpAnyH_take (i := 15) (oi := { dst := some 88, op := Op.binOp BinOp.add 3 (Operand.const (Value.int IntKind.i64 21840)) (Operand.tmp 87) 3, type := 3, pos := "outright.go:135", after := #[{ on := 14, ground := Ground.data }], guard := none }) (v := ?_) rfl (by kernel_rfl) (by kernel_rfl) (by kernel_rfl) (fun _ _ _ h => h) (Or.inl ⟨by rfl, ?_⟩) hS ?_; rotate_left; focus (intro w' s0; go_simp <;> try with_reducible rfl))
                try simp only [Act.put, List.setIfInBounds_toArray, List.set_cons_zero, List.set_cons_succ]
                (refine wpAnyH_take (i := 16) (oi := { dst := some 89, op := Op.convert 3 32 (Operand.tmp 88), type := 32, pos := "outright.go:135", after := #[{ on := 15, ground := Ground.data }], guard := none }) (v := ?_) rfl (by kernel_rfl) (by kernel_rfl) (by kernel_rfl) (fun _ _ _ h => h) (Or.inl ⟨by rfl, ?_⟩) hS ?_; rotate_left; focus (intro w' s0; go_simp <;> try with_reducible rfl))
                try simp only [Act.put, List.setIfInBounds_toArray, List.set_cons_zero, List.set_cons_succ]
                (refine wpAnyH_take (i := 17) (oi := { dst := some 90, op := Op.build 34 #[(0, Operand.const (Value.int IntKind.i64 5)), (2, Operand.const (Value.int IntKind.i64 4)), (3, Operand.tmp 89)], type := 34, pos := "outright.go:135", after := #[{ on := 16, ground := Ground.data }], guard := none }) (v := ?_) rfl (by kernel_rfl) (by kernel_rfl) (by kernel_rfl) (fun _ _ _ h => h) (Or.inl ⟨by rfl, ?_⟩) hS ?_; rotate_left; focus (intro w' s0; go_simp <;> try with_reducible rfl))
                try simp only [Act.put, List.setIfInBounds_toArray, List.set_cons_zero, List.set_cons_succ]
                (refine wpAnyH_take (i := 18) (oi := { dst := some 91, op := Op.build 34 #[(0, Operand.const (Value.int IntKind.i64 9))], type := 34, pos := "outright.go:135", after := #[], guard := none }) (v := ?_) rfl (by kernel_rfl) (by kernel_rfl) (by kernel_rfl) (fun _ _ _ h => h) (Or.inl ⟨by rfl, ?_⟩) hS ?_; rotate_left; focus (intro w' s0; go_simp <;> try with_reducible rfl))
                try simp only [Act.put, List.setIfInBounds_toArray, List.set_cons_zero, List.set_cons_succ]
                refine wpAnyH_ready (rs := [19]) (by kernel_rfl) (by simp) ?_
                refine AllReadyH.cons (o := { dst := some 92, op := Op.buildSlice 22 5 #[(0, Operand.tmp 78), (1, Operand.tmp 85), (2, Operand.tmp 86), (3, Operand.tmp 90), (4, Operand.tmp 91)], type := 22, pos := "outright.go:135", after := #[{ on := 5, ground := Ground.data }, { on := 12, ground := Ground.data }, { on := 13, ground := Ground.data }, { on := 17, ground := Ground.data }, { on := 18, ground := Ground.data }], guard := none }) rfl (fun K hK => ?_) AllReadyH.nil
                go_simp
                refine hK.out _ _ (hS.alloc _) (fun hS => ?_)
                clear hK K
                try simp only [Act.put, List.setIfInBounds_toArray, List.set_cons_zero, List.set_cons_succ]
                have hN := Lib.hid (At.new g0 (fu [⟨2, x, 1, 0⟩, ⟨3, x, 1, (k : Int)⟩, ⟨1, 0, 0, 0⟩, ⟨5, 0, 4, 21840 + (k : Int)⟩, ⟨9, 0, 0, 0⟩]) 34)
                refine wpAnyH_ready (rs := [20]) (by kernel_rfl) (by simp) ?_
                refine AllReadyH.cons (o := { dst := some 93, op := Op.call { callee := Callee.builtin Go.Builtin.append, args := #[Operand.tmp 73, Operand.tmp 92], argTypes := #[22, 22] }, type := 22, pos := "outright.go:135", after := #[{ on := 0, ground := Ground.data }, { on := 19, ground := Ground.data }], guard := none }) rfl (fun K hK => ?_) AllReadyH.nil
                refine app_us rfl (.tmp 73) (.tmp 92) rfl (b + 1) _ _ [⟨2, x, 1, 0⟩, ⟨3, x, 1, (k : Int)⟩, ⟨1, 0, 0, 0⟩, ⟨5, 0, 4, 21840 + (k : Int)⟩, ⟨9, 0, 0, 0⟩] rfl (HOd.out.alloc _) ⟨wr.heap.size, 0, none⟩ 5 5 rfl (by decide) rfl (newsu_at (by have h := hN.out; rw [hsd] at h; exact h)) (by omega) (by simp; omega) (wr.heap.size + 1) (by simp; omega) ?_
                intro gg3 cc3 w3 hown3 hgr3 hat3 hlt3
                have HO3 := Lib.hid hown3
                have HK3 := Lib.hid ((HKd.out.alloc (by omega) _).grown hgr3 (by simp; omega) (fun i hi => by have := (HOd.out.lt i hi).1; omega))
                clear hown3 hgr3 hat3 hN hS
                refine hK.out _ _ (HA0.out.below (HK3.out.mono (Nat.le_refl _)) (by omega)) (fun hS => ?_)
                clear hK K
                try simp only [Act.put, List.setIfInBounds_toArray, List.set_cons_zero, List.set_cons_succ]
                (refine wpAnyH_take (i := 21) (oi := { dst := some 2, op := Op.assign (Operand.tmp 93), type := 22, pos := "outright.go:135", after := #[{ on := 20, ground := Ground.data }, { on := 20, ground := Ground.chain }, { on := 0, ground := Ground.phase }, { on := 1, ground := Ground.phase }, { on := 2, ground := Ground.phase }, { on := 3, ground := Ground.phase }, { on := 4, ground := Ground.phase }, { on := 5, ground := Ground.phase }, { on := 6, ground := Ground.phase }, { on := 7, ground := Ground.phase }, { on := 8, ground := Ground.phase }, { on := 9, ground := Ground.phase }, { on := 10, ground := Ground.phase }, { on := 11, ground := Ground.phase }, { on := 12, ground := Ground.phase }, { on := 13, ground := Ground.phase }, { on := 14, ground := Ground.phase }, { on := 15, ground := Ground.phase }, { on := 16, ground := Ground.phase }, { on := 17, ground := Ground.phase }, { on := 18, ground := Ground.phase }, { on := 19, ground := Ground.phase }, { on := 20, ground := Ground.phase }], guard := none }) (v := ?_) rfl (by kernel_rfl) (by kernel_rfl) (by kernel_rfl) (fun _ _ _ h => h) (Or.inl ⟨by rfl, ?_⟩) hS ?_; rotate_left; focus (intro w' s0; go_simp <;> try with_reducible rfl))
                try simp only [Act.put, List.setIfInBounds_toArray, List.set_cons_zero, List.set_cons_succ]
                refine wpAnyH_done (by kernel_rfl) ?_ _
                obtain ⟨q3, hq3⟩ : ∃ q3, q2 ++ [⟨2, x, 1, 0⟩, ⟨3, x, 1, (k : Int)⟩, ⟨1, 0, 0, 0⟩, ⟨5, 0, 4, 21840 + (k : Int)⟩, ⟨9, 0, 0, 0⟩] = q3 := ⟨_, rfl⟩
                have hl3 : q3.length = n2 + 5 := by rw [← hq3]; simp; omega
                have HR3 : Hid (∀ c ∈ q3, c.Raw) := Lib.hid (by
                  rw [← hq3]
                  intro c hc
                  rcases List.mem_append.1 hc with hc | hc
                  · exact HR.out c hc
                  · simp only [List.mem_cons, List.not_mem_nil, or_false] at hc
                    rcases hc with rfl | rfl | rfl | rfl | rfl <;> exact uo_raw _ _ _ _ (by omega) (by omega) (by omega) (by omega) (by omega) (by omega) (by omega) (by omega))
                rw [hq3] at HO3
                have HN2 := Lib.hid hn2
                clear hn2 hS
                go_wp2
                go_roundw
                case rel => exact ⟨k + 1, q3, by omega, by go_num, by have := HQ2.out; have := HN2.out; omega, HR3.out, by have h := HO3.out; rw [HN2.out, show n2 + 5 = 40 + 20 * k + 20 + 5 by have := HQ2.out; have := HN2.out; omega] at h; exact h, HK3.out⟩
                case measure => simp [intOf]; omega
          · have hkm : (k : Int).tmod 2 = 1 := by rw [Int.tmod_eq_emod_of_nonneg (by omega)]; omega
            have hkm2 : (k : Int) % 2 = 1 := by omega
            obtain rfl : pk = 1 := by omega
            clear hpk
            go_wp2
            obtain ⟨w5, hw5⟩ : ∃ w5, w5 = wr := ⟨_, rfl⟩
            rw [← hw5] at HO HK hsz3 ⊢
            clear hw5
            go_loopw [2, 5] (fun v i wr => ∃ (j : Nat) (q : List Uo), j ≤ 5 ∧ i = .int .i64 (2 * (j : Int) - 1) ∧ q.length = 40 + 20 * k + 5 + 2 * j ∧ (∀ c ∈ q, c.Raw) ∧ OwnO wr (b + 1) v q ∧ Below w1.heap.size w1 wr) (fun _ i _ => (9 - intOf i).toNat)
            case atStart => exact ⟨0, q, by omega, rfl, by omega, HR.out, HO.out, HK.out⟩
            case round =>
              clear HR HO HK
              obtain ⟨j, q2, hj, rfl, hq2, hraw, ho, hkp⟩ := hrel
              have HO := Lib.hid ho
              have HK := Lib.hid hkp
              have HR := Lib.hid hraw
              have hsz4 := hkp.size
              have HBW := Lib.hid (HB0.out.trans (hkp.mono HB0.out.size))
              have hA := HA0.out.below (hkp.mono (Nat.le_refl _)) (by omega)
              clear ho hkp hraw
              by_cases hlt4 : j < 5
              · have d1 : decide (2 * (j : Int) - 1 ≤ 8) = true := by simp; omega
                obtain ⟨z, hz⟩ : ∃ z : Int, 2 * (j : Int) - 1 = z := ⟨_, rfl⟩
                have hzb : -1 ≤ z ∧ z ≤ 8 := by omega
                obtain ⟨p, hp⟩ : ∃ p, z % 2 = p := ⟨_, rfl⟩
                have hpb : 0 ≤ p ∧ p < 2 := by omega
                rw [hz] at d1 ⊢
                have ez : bits .and .i64 z 1 = p := by rw [and1_i64]; exact hp
                have ez2 : IntKind.i64.wrap (2 + p) = 2 + p := IntWalk.i64_in _ (by omega)
                obtain ⟨z0, z1⟩ := hzb
                obtain ⟨p0, p1⟩ := hpb
                have HZ := Lib.hid hz
                have hzz : z = 2 * (j : Int) - 1 := hz.symm
                have HZZ := Lib.hid hzz
                clear hp hz hzz
                have HOd := Lib.hid (HO.out.below (w' := wr.drew) ⟨rfl, rfl, rfl, Nat.le_refl _, fun _ _ => rfl⟩)
                have HKd := Lib.hid HK.out.drew
                have hsd : wr.drew.heap.size = wr.heap.size := rfl
                have HQ2 := Lib.hid hq2
                have hq2b : q2.length < 1000 := by omega
                obtain ⟨n2, hn2⟩ : ∃ n, q2.length = n := ⟨_, rfl⟩
                go_upto_region 13 with fail
                refine wp_region_held_drew (S := fun w' => At b (nO.map (.int .i64)) w') (by kernel_rfl) (hA.drew) (fun hS => ?_)
                generalize wr.drew = g0 at hS HOd HKd hsd ⊢
                (refine wpAnyH_take (i := 0) (oi := { dst := some 32, op := Op.move (Operand.tmp 2), type := 22, pos := "outright.go:130", after := #[], guard := none }) (v := ?_) rfl (by kernel_rfl) (by kernel_rfl) (by kernel_rfl) (fun _ _ _ h => h) (Or.inl ⟨by rfl, ?_⟩) hS ?_; rotate_left; focus (intro w' s0; go_simp <;> try with_reducible rfl))
                try simp only [Act.put, List.setIfInBounds_toArray, List.set_cons_zero, List.set_cons_succ]
                (refine wpAnyH_take (i := 1) (oi := { dst := some 33, op := Op.move (Operand.tmp 5), type := 3, pos := "outright.go:130", after := #[], guard := none }) (v := ?_) rfl (by kernel_rfl) (by kernel_rfl) (by kernel_rfl) (fun _ _ _ h => h) (Or.inl ⟨by rfl, ?_⟩) hS ?_; rotate_left; focus (intro w' s0; go_simp <;> try with_reducible rfl))
                try simp only [Act.put, List.setIfInBounds_toArray, List.set_cons_zero, List.set_cons_succ]
                (refine wpAnyH_take (i := 2) (oi := { dst := some 34, op := Op.binOp BinOp.and 3 (Operand.tmp 33) (Operand.const (Value.int IntKind.i64 1)) 3, type := 3, pos := "outright.go:130", after := #[{ on := 1, ground := Ground.data }], guard := none }) (v := ?_) rfl (by kernel_rfl) (by kernel_rfl) (by kernel_rfl) (fun _ _ _ h => h) (Or.inl ⟨by rfl, ?_⟩) hS ?_; rotate_left; focus (intro w' s0; go_simp <;> try with_reducible rfl))
                try simp only [Act.put, List.setIfInBounds_toArray, List.set_cons_zero, List.set_cons_succ]
                (refine wpAnyH_take (i := 3) (oi := { dst := some 35, op := Op.binOp BinOp.add 3 (Operand.const (Value.int IntKind.i64 2)) (Operand.tmp 34) 3, type := 3, pos := "outright.go:130", after := #[{ on := 2, ground := Ground.data }], guard := none }) (v := ?_) rfl (by kernel_rfl) (by kernel_rfl) (by kernel_rfl) (fun _ _ _ h => h) (Or.inl ⟨by rfl, ?_⟩) hS ?_; rotate_left; focus (intro w' s0; go_simp <;> try with_reducible rfl))
                try simp only [Act.put, List.setIfInBounds_toArray, List.set_cons_zero, List.set_cons_succ]
                (refine wpAnyH_take (i := 4) (oi := { dst := some 36, op := Op.move (Operand.tmp 1), type := 47, pos := "outright.go:130", after := #[], guard := none }) (v := ?_) rfl (by kernel_rfl) (by kernel_rfl) (by kernel_rfl) (fun _ _ _ h => h) (Or.inl ⟨by rfl, ?_⟩) hS ?_; rotate_left; focus (intro w' s0; go_simp <;> try with_reducible rfl))
                try simp only [Act.put, List.setIfInBounds_toArray, List.set_cons_zero, List.set_cons_succ]
                (refine wpAnyH_take (i := 5) (oi := { dst := some 37, op := Op.move (Operand.tmp 4), type := 3, pos := "outright.go:130", after := #[], guard := none }) (v := ?_) rfl (by kernel_rfl) (by kernel_rfl) (by kernel_rfl) (fun _ _ _ h => h) (Or.inl ⟨by rfl, ?_⟩) hS ?_; rotate_left; focus (intro w' s0; go_simp <;> try with_reducible rfl))
                try simp only [Act.put, List.setIfInBounds_toArray, List.set_cons_zero, List.set_cons_succ]
                (refine wpAnyH_take (i := 6) (oi := { dst := some 38, op := Op.indexAddr 47 (Operand.tmp 36) (Operand.tmp 37), type := 0, pos := "outright.go:130", after := #[{ on := 4, ground := Ground.data }, { on := 5, ground := Ground.data }], guard := none }) (v := ?_) rfl (by kernel_rfl) (by kernel_rfl) (by kernel_rfl) (fun _ _ _ h => h) (Or.inl ⟨by rfl, ?_⟩) hS ?_; rotate_left; focus (intro w' s0; go_simp <;> try with_reducible rfl))
                try simp only [Act.put, List.setIfInBounds_toArray, List.set_cons_zero, List.set_cons_succ]
                (refine wpAnyH_take (i := 7) (oi := { dst := some 39, op := Op.load 3 (Operand.tmp 38), type := 3, pos := "outright.go:130", after := #[{ on := 6, ground := Ground.data }], guard := none }) (v := ?_) rfl (by kernel_rfl) (by kernel_rfl) (by kernel_rfl) (fun _ _ _ h => h) (Or.inl ⟨by rfl, ?_⟩) hS ?_; rotate_left; focus (intro w' s0; have c_k := s0 k _ HXV.out; go_simp <;> try with_reducible rfl))
                try simp only [Act.put, List.setIfInBounds_toArray, List.set_cons_zero, List.set_cons_succ]
                (refine wpAnyH_take (i := 8) (oi := { dst := some 40, op := Op.move (Operand.tmp 5), type := 3, pos := "outright.go:130", after := #[], guard := none }) (v := ?_) rfl (by kernel_rfl) (by kernel_rfl) (by kernel_rfl) (fun _ _ _ h => h) (Or.inl ⟨by rfl, ?_⟩) hS ?_; rotate_left; focus (intro w' s0; go_simp <;> try with_reducible rfl))
                try simp only [Act.put, List.setIfInBounds_toArray, List.set_cons_zero, List.set_cons_succ]
                (refine wpAnyH_take (i := 9) (oi := { dst := some 41, op := Op.move (Operand.tmp 1), type := 47, pos := "outright.go:130", after := #[], guard := none }) (v := ?_) rfl (by kernel_rfl) (by kernel_rfl) (by kernel_rfl) (fun _ _ _ h => h) (Or.inl ⟨by rfl, ?_⟩) hS ?_; rotate_left; focus (intro w' s0; go_simp <;> try with_reducible rfl))
                try simp only [Act.put, List.setIfInBounds_toArray, List.set_cons_zero, List.set_cons_succ]
                (refine wpAnyH_take (i := 10) (oi := { dst := some 42, op := Op.move (Operand.tmp 4), type := 3, pos := "outright.go:130", after := #[], guard := none }) (v := ?_) rfl (by kernel_rfl) (by kernel_rfl) (by kernel_rfl) (fun _ _ _ h => h) (Or.inl ⟨by rfl, ?_⟩) hS ?_; rotate_left; focus (intro w' s0; go_simp <;> try with_reducible rfl))
                try simp only [Act.put, List.setIfInBounds_toArray, List.set_cons_zero, List.set_cons_succ]
                (refine wpAnyH_take (i := 11) (oi := { dst := some 43, op := Op.indexAddr 47 (Operand.tmp 41) (Operand.tmp 42), type := 0, pos := "outright.go:130", after := #[{ on := 9, ground := Ground.data }, { on := 10, ground := Ground.data }], guard := none }) (v := ?_) rfl (by kernel_rfl) (by kernel_rfl) (by kernel_rfl) (fun _ _ _ h => h) (Or.inl ⟨by rfl, ?_⟩) hS ?_; rotate_left; focus (intro w' s0; go_simp <;> try with_reducible rfl))
                try simp only [Act.put, List.setIfInBounds_toArray, List.set_cons_zero, List.set_cons_succ]
                (refine wpAnyH_take (i := 12) (oi := { dst := some 44, op := Op.load 3 (Operand.tmp 43), type := 3, pos := "outright.go:130", after := #[{ on := 11, ground := Ground.data }], guard := none }) (v := ?_) rfl (by kernel_rfl) (by kernel_rfl) (by kernel_rfl) (fun _ _ _ h => h) (Or.inl ⟨by rfl, ?_⟩) hS ?_; rotate_left; focus (intro w' s0; have c_k := s0 k _ HXV.out; go_simp <;> try with_reducible rfl))
                try simp only [Act.put, List.setIfInBounds_toArray, List.set_cons_zero, List.set_cons_succ]
                (refine wpAnyH_take (i := 13) (oi := { dst := some 45, op := Op.binOp BinOp.add 3 (Operand.tmp 44) (Operand.const (Value.int IntKind.i64 21845)) 3, type := 3, pos := "outright.go:130", after := #[{ on := 12, ground := Ground.data }], guard := none }) (v := ?_) rfl (by kernel_rfl) (by kernel_rfl) (by kernel_rfl) (fun _ _ _ h => h) (Or.inl ⟨by rfl, ?_⟩) hS ?_; rotate_left; focus (intro w' s0; go_simp <;> try with_reducible rfl))
                try simp only [Act.put, List.setIfInBounds_toArray, List.set_cons_zero, List.set_cons_succ]
                (refine wpAnyH_take (i := 14) (oi := { dst := some 46, op := Op.convert 3 32 (Operand.tmp 45), type := 32, pos := "outright.go:130", after := #[{ on := 13, ground := Ground.data }], guard := none }) (v := ?_) rfl (by kernel_rfl) (by kernel_rfl) (by kernel_rfl) (fun _ _ _ h => h) (Or.inl ⟨by rfl, ?_⟩) hS ?_; rotate_left; focus (intro w' s0; go_simp <;> try with_reducible rfl))
                try simp only [Act.put, List.setIfInBounds_toArray, List.set_cons_zero, List.set_cons_succ]
                (refine wpAnyH_take (i := 15) (oi := { dst := some 47, op := Op.build 34 #[(0, Operand.tmp 35), (1, Operand.tmp 39), (2, Operand.tmp 40), (3, Operand.tmp 46)], type := 34, pos := "outright.go:130", after := #[{ on := 3, ground := Ground.data }, { on := 7, ground := Ground.data }, { on := 8, ground := Ground.data }, { on := 14, ground := Ground.data }], guard := none }) (v := ?_) rfl (by kernel_rfl) (by kernel_rfl) (by kernel_rfl) (fun _ _ _ h => h) (Or.inl ⟨by rfl, ?_⟩) hS ?_; rotate_left; focus (intro w' s0; go_simp <;> try with_reducible rfl))
                try simp only [Act.put, List.setIfInBounds_toArray, List.set_cons_zero, List.set_cons_succ]
                (refine wpAnyH_take (i := 16) (oi := { dst := some 48, op := Op.move (Operand.tmp 4), type := 3, pos := "outright.go:130", after := #[], guard := none }) (v := ?_) rfl (by kernel_rfl) (by kernel_rfl) (by kernel_rfl) (fun _ _ _ h => h) (Or.inl ⟨by rfl, ?_⟩) hS ?_; rotate_left; focus (intro w' s0; go_simp <;> try with_reducible rfl))
                try simp only [Act.put, List.setIfInBounds_toArray, List.set_cons_zero, List.set_cons_succ]
                (refine wpAnyH_take (i := 17) (oi := { dst := some 49, op := Op.binOp BinOp.and 3 (Operand.tmp 48) (Operand.const (Value.int IntKind.i64 1)) 3, type := 3, pos := "outright.go:130", after := #[{ on := 16, ground := Ground.data }], guard := none }) (v := ?_) rfl (by kernel_rfl) (by kernel_rfl) (by kernel_rfl) (fun _ _ _ h => h) (Or.inl ⟨by rfl, ?_⟩) hS ?_; rotate_left; focus (intro w' s0; go_simp <;> try with_reducible rfl))
                try simp only [Act.put, List.setIfInBounds_toArray, List.set_cons_zero, List.set_cons_succ]
                (refine wpAnyH_take (i := 18) (oi := { dst := some 50, op := Op.binOp BinOp.add 3 (Operand.const (Value.int IntKind.i64 4)) (Operand.tmp 49) 3, type := 3, pos := "outright.go:130", after := #[{ on := 17, ground := Ground.data }], guard := none }) (v := ?_) rfl (by kernel_rfl) (by kernel_rfl) (by kernel_rfl) (fun _ _ _ h => h) (Or.inl ⟨by rfl, ?_⟩) hS ?_; rotate_left; focus (intro w' s0; go_simp <;> try with_reducible rfl))
                try simp only [Act.put, List.setIfInBounds_toArray, List.set_cons_zero, List.set_cons_succ]
                (refine wpAnyH_take (i := 19) (oi := { dst := some 51, op := Op.move (Operand.tmp 1), type := 47, pos := "outright.go:130", after := #[], guard := none }) (v := ?_) rfl (by kernel_rfl) (by kernel_rfl) (by kernel_rfl) (fun _ _ _ h => h) (Or.inl ⟨by rfl, ?_⟩) hS ?_; rotate_left; focus (intro w' s0; go_simp <;> try with_reducible rfl))
                try simp only [Act.put, List.setIfInBounds_toArray, List.set_cons_zero, List.set_cons_succ]
                (refine wpAnyH_take (i := 20) (oi := { dst := some 52, op := Op.move (Operand.tmp 4), type := 3, pos := "outright.go:130", after := #[], guard := none }) (v := ?_) rfl (by kernel_rfl) (by kernel_rfl) (by kernel_rfl) (fun _ _ _ h => h) (Or.inl ⟨by rfl, ?_⟩) hS ?_; rotate_left; focus (intro w' s0; go_simp <;> try with_reducible rfl))
                try simp only [Act.put, List.setIfInBounds_toArray, List.set_cons_zero, List.set_cons_succ]
                (refine wpAnyH_take (i := 21) (oi := { dst := some 53, op := Op.indexAddr 47 (Operand.tmp 51) (Operand.tmp 52), type := 0, pos := "outright.go:130", after := #[{ on := 19, ground := Ground.data }, { on := 20, ground := Ground.data }], guard := none }) (v := ?_) rfl (by kernel_rfl) (by kernel_rfl) (by kernel_rfl) (fun _ _ _ h => h) (Or.inl ⟨by rfl, ?_⟩) hS ?_; rotate_left; focus (intro w' s0; go_simp <;> try with_reducible rfl))
                try simp only [Act.put, List.setIfInBounds_toArray, List.set_cons_zero, List.set_cons_succ]
                (refine wpAnyH_take (i := 22) (oi := { dst := some 54, op := Op.load 3 (Operand.tmp 53), type := 3, pos := "outright.go:130", after := #[{ on := 21, ground := Ground.data }], guard := none }) (v := ?_) rfl (by kernel_rfl) (by kernel_rfl) (by kernel_rfl) (fun _ _ _ h => h) (Or.inl ⟨by rfl, ?_⟩) hS ?_; rotate_left; focus (intro w' s0; have c_k := s0 k _ HXV.out; go_simp <;> try with_reducible rfl))
                try simp only [Act.put, List.setIfInBounds_toArray, List.set_cons_zero, List.set_cons_succ]
                (refine wpAnyH_take (i := 23) (oi := { dst := some 55, op := Op.move (Operand.tmp 5), type := 3, pos := "outright.go:130", after := #[], guard := none }) (v := ?_) rfl (by kernel_rfl) (by kernel_rfl) (by kernel_rfl) (fun _ _ _ h => h) (Or.inl ⟨by rfl, ?_⟩) hS ?_; rotate_left; focus (intro w' s0; go_simp <;> try with_reducible rfl))
                try simp only [Act.put, List.setIfInBounds_toArray, List.set_cons_zero, List.set_cons_succ]
                (refine wpAnyH_take (i := 24) (oi := { dst := some 56, op := Op.build 34 #[(0, Operand.tmp 50), (1, Operand.tmp 54), (2, Operand.tmp 55), (3, Operand.const (Value.int IntKind.u64 21845))], type := 34, pos := "outright.go:130", after := #[{ on := 18, ground := Ground.data }, { on := 22, ground := Ground.data }, { on := 23, ground := Ground.data }], guard := none }) (v := ?_) rfl (by kernel_rfl) (by kernel_rfl) (by kernel_rfl) (fun _ _ _ h => h) (Or.inl ⟨by rfl, ?_⟩) hS ?_; rotate_left; focus (intro w' s0; go_simp <;> try with_reducible rfl))
                try simp only [Act.put, List.setIfInBounds_toArray, List.set_cons_zero, List.set_cons_succ]
                refine wpAnyH_ready (rs := [25]) (by kernel_rfl) (by simp) ?_
                refine AllReadyH.cons (o := { dst := some 57, op := Op.buildSlice 22 2 #[(0, Operand.tmp 47), (1, Operand.tmp 56)], type := 22, pos := "outright.go:130", after := #[{ on := 15, ground := Ground.data }, { on := 24, ground := Ground.data }], guard := none }) rfl (fun K hK => ?_) AllReadyH.nil
                go_simp
                refine hK.out _ _ (hS.alloc _) (fun hS => ?_)
                clear hK K
                try simp only [Act.put, List.setIfInBounds_toArray, List.set_cons_zero, List.set_cons_succ]
                have hN := Lib.hid (At.new g0 (fu [⟨2 + p, x, z, A⟩, ⟨4 + 1, x, z, 21845⟩]) 34)
                refine wpAnyH_ready (rs := [26]) (by kernel_rfl) (by simp) ?_
                refine AllReadyH.cons (o := { dst := some 58, op := Op.call { callee := Callee.builtin Go.Builtin.append, args := #[Operand.tmp 32, Operand.tmp 57], argTypes := #[22, 22] }, type := 22, pos := "outright.go:130", after := #[{ on := 0, ground := Ground.data }, { on := 25, ground := Ground.data }], guard := none }) rfl (fun K hK => ?_) AllReadyH.nil
                refine app_us rfl (.tmp 32) (.tmp 57) rfl (b + 1) _ _ [⟨2 + p, x, z, A⟩, ⟨4 + 1, x, z, 21845⟩] rfl (HOd.out.alloc _) ⟨wr.heap.size, 0, none⟩ 2 2 rfl (by decide) rfl (newsu_at (by have h := hN.out; rw [hsd] at h; exact h)) (by omega) (by simp; omega) (wr.heap.size + 1) (by simp; omega) ?_
                intro gg3 cc3 w3 hown3 hgr3 hat3 hlt3
                have HO3 := Lib.hid hown3
                have HK3 := Lib.hid ((HKd.out.alloc (by omega) _).grown hgr3 (by simp; omega) (fun i hi => by have := (HOd.out.lt i hi).1; omega))
                clear hown3 hgr3 hat3 hN hS
                refine hK.out _ _ (HA0.out.below (HK3.out.mono (Nat.le_refl _)) (by omega)) (fun hS => ?_)
                clear hK K
                try simp only [Act.put, List.setIfInBounds_toArray, List.set_cons_zero, List.set_cons_succ]
                (refine wpAnyH_take (i := 27) (oi := { dst := some 2, op := Op.assign (Operand.tmp 58), type := 22, pos := "outright.go:130", after := #[{ on := 26, ground := Ground.data }, { on := 26, ground := Ground.chain }, { on := 0, ground := Ground.phase }, { on := 1, ground := Ground.phase }, { on := 2, ground := Ground.phase }, { on := 3, ground := Ground.phase }, { on := 4, ground := Ground.phase }, { on := 5, ground := Ground.phase }, { on := 6, ground := Ground.phase }, { on := 7, ground := Ground.phase }, { on := 8, ground := Ground.phase }, { on := 9, ground := Ground.phase }, { on := 10, ground := Ground.phase }, { on := 11, ground := Ground.phase }, { on := 12, ground := Ground.phase }, { on := 13, ground := Ground.phase }, { on := 14, ground := Ground.phase }, { on := 15, ground := Ground.phase }, { on := 16, ground := Ground.phase }, { on := 17, ground := Ground.phase }, { on := 18, ground := Ground.phase }, { on := 19, ground := Ground.phase }, { on := 20, ground := Ground.phase }, { on := 21, ground := Ground.phase }, { on := 22, ground := Ground.phase }, { on := 23, ground := Ground.phase }, { on := 24, ground := Ground.phase }, { on := 25, ground := Ground.phase }, { on := 26, ground := Ground.phase }], guard := none }) (v := ?_) rfl (by kernel_rfl) (by kernel_rfl) (by kernel_rfl) (fun _ _ _ h => h) (Or.inl ⟨by rfl, ?_⟩) hS ?_; rotate_left; focus (intro w' s0; go_simp <;> try with_reducible rfl))
                try simp only [Act.put, List.setIfInBounds_toArray, List.set_cons_zero, List.set_cons_succ]
                refine wpAnyH_done (by kernel_rfl) ?_ _
                obtain ⟨q3, hq3⟩ : ∃ q3, q2 ++ [⟨2 + p, x, z, A⟩, ⟨4 + 1, x, z, 21845⟩] = q3 := ⟨_, rfl⟩
                have hl3 : q3.length = n2 + 2 := by rw [← hq3]; simp; omega
                have HR3 : Hid (∀ c ∈ q3, c.Raw) := Lib.hid (by
                  rw [← hq3]
                  intro c hc
                  rcases List.mem_append.1 hc with hc | hc
                  · exact HR.out c hc
                  · simp only [List.mem_cons, List.not_mem_nil, or_false] at hc
                    rcases hc with rfl | rfl <;> exact uo_raw _ _ _ _ (by omega) (by omega) (by omega) (by omega) (by omega) (by omega) (by omega) (by omega))
                rw [hq3] at HO3
                have hA3 := hS
                clear hS
                go_upto_region 14 with fail
                have HOe := Lib.hid (HO3.out.below (w' := w3.drew) ⟨rfl, rfl, rfl, Nat.le_refl _, fun _ _ => rfl⟩)
                have HKe := Lib.hid HK3.out.drew
                have HBe := Lib.hid (HB0.out.trans ((HK3.out.mono HB0.out.size).drew))
                have hse : w3.drew.heap.size = w3.heap.size := rfl
                refine wp_region_held_drew (S := fun w' => At b (nO.map (.int .i64)) w') (by kernel_rfl) (hA3.drew) (fun hS => ?_)
                generalize w3.drew = g1 at hS HOe HKe HBe hse ⊢
                (refine wpAnyH_take (i := 0) (oi := { dst := some 59, op := Op.move (Operand.tmp 1), type := 47, pos := "outright.go:131", after := #[], guard := none }) (v := ?_) rfl (by kernel_rfl) (by kernel_rfl) (by kernel_rfl) (fun _ _ _ h => h) (Or.inl ⟨by rfl, ?_⟩) hS ?_; rotate_left; focus (intro w' s0; go_simp <;> try with_reducible rfl))
                try simp only [Act.put, List.setIfInBounds_toArray, List.set_cons_zero, List.set_cons_succ]
                (refine wpAnyH_take (i := 1) (oi := { dst := some 60, op := Op.move (Operand.tmp 4), type := 3, pos := "outright.go:131", after := #[], guard := none }) (v := ?_) rfl (by kernel_rfl) (by kernel_rfl) (by kernel_rfl) (fun _ _ _ h => h) (Or.inl ⟨by rfl, ?_⟩) hS ?_; rotate_left; focus (intro w' s0; go_simp <;> try with_reducible rfl))
                try simp only [Act.put, List.setIfInBounds_toArray, List.set_cons_zero, List.set_cons_succ]
                (refine wpAnyH_take (i := 2) (oi := { dst := some 61, op := Op.indexAddr 47 (Operand.tmp 59) (Operand.tmp 60), type := 0, pos := "outright.go:131", after := #[{ on := 0, ground := Ground.data }, { on := 1, ground := Ground.data }], guard := none }) (v := ?_) rfl (by kernel_rfl) (by kernel_rfl) (by kernel_rfl) (fun _ _ _ h => h) (Or.inl ⟨by rfl, ?_⟩) hS ?_; rotate_left; focus (intro w' s0; go_simp <;> try with_reducible rfl))
                try simp only [Act.put, List.setIfInBounds_toArray, List.set_cons_zero, List.set_cons_succ]
                (refine wpAnyH_take (i := 3) (oi := { dst := some 62, op := Op.load 3 (Operand.tmp 61), type := 3, pos := "outright.go:131", after := #[{ on := 2, ground := Ground.data }], guard := none }) (v := ?_) rfl (by kernel_rfl) (by kernel_rfl) (by kernel_rfl) (fun _ _ _ h => h) (Or.inl ⟨by rfl, ?_⟩) hS ?_; rotate_left; focus (intro w' s0; have c_k := s0 k _ HXV.out; go_simp <;> try with_reducible rfl))
                try simp only [Act.put, List.setIfInBounds_toArray, List.set_cons_zero, List.set_cons_succ]
                (refine wpAnyH_take (i := 4) (oi := { dst := some 63, op := Op.move (Operand.tmp 5), type := 3, pos := "outright.go:131", after := #[], guard := none }) (v := ?_) rfl (by kernel_rfl) (by kernel_rfl) (by kernel_rfl) (fun _ _ _ h => h) (Or.inl ⟨by rfl, ?_⟩) hS ?_; rotate_left; focus (intro w' s0; go_simp <;> try with_reducible rfl))
                try simp only [Act.put, List.setIfInBounds_toArray, List.set_cons_zero, List.set_cons_succ]
                (refine wpAnyH_take (i := 5) (oi := { dst := some 64, op := Op.move (Operand.tmp 1), type := 47, pos := "outright.go:131", after := #[], guard := none }) (v := ?_) rfl (by kernel_rfl) (by kernel_rfl) (by kernel_rfl) (fun _ _ _ h => h) (Or.inl ⟨by rfl, ?_⟩) hS ?_; rotate_left; focus (intro w' s0; go_simp <;> try with_reducible rfl))
                try simp only [Act.put, List.setIfInBounds_toArray, List.set_cons_zero, List.set_cons_succ]
                (refine wpAnyH_take (i := 6) (oi := { dst := some 65, op := Op.move (Operand.tmp 4), type := 3, pos := "outright.go:131", after := #[], guard := none }) (v := ?_) rfl (by kernel_rfl) (by kernel_rfl) (by kernel_rfl) (fun _ _ _ h => h) (Or.inl ⟨by rfl, ?_⟩) hS ?_; rotate_left; focus (intro w' s0; go_simp <;> try with_reducible rfl))
                try simp only [Act.put, List.setIfInBounds_toArray, List.set_cons_zero, List.set_cons_succ]
                (refine wpAnyH_take (i := 7) (oi := { dst := some 66, op := Op.indexAddr 47 (Operand.tmp 64) (Operand.tmp 65), type := 0, pos := "outright.go:131", after := #[{ on := 5, ground := Ground.data }, { on := 6, ground := Ground.data }], guard := none }) (v := ?_) rfl (by kernel_rfl) (by kernel_rfl) (by kernel_rfl) (fun _ _ _ h => h) (Or.inl ⟨by rfl, ?_⟩) hS ?_; rotate_left; focus (intro w' s0; go_simp <;> try with_reducible rfl))
                try simp only [Act.put, List.setIfInBounds_toArray, List.set_cons_zero, List.set_cons_succ]
                (refine wpAnyH_take (i := 8) (oi := { dst := some 67, op := Op.load 3 (Operand.tmp 66), type := 3, pos := "outright.go:131", after := #[{ on := 7, ground := Ground.data }], guard := none }) (v := ?_) rfl (by kernel_rfl) (by kernel_rfl) (by kernel_rfl) (fun _ _ _ h => h) (Or.inl ⟨by rfl, ?_⟩) hS ?_; rotate_left; focus (intro w' s0; have c_k := s0 k _ HXV.out; go_simp <;> try with_reducible rfl))
                try simp only [Act.put, List.setIfInBounds_toArray, List.set_cons_zero, List.set_cons_succ]
                (refine wpAnyH_take (i := 9) (oi := { dst := some 68, op := Op.convert 3 32 (Operand.tmp 67), type := 32, pos := "outright.go:131", after := #[{ on := 8, ground := Ground.data }], guard := none }) (v := ?_) rfl (by kernel_rfl) (by kernel_rfl) (by kernel_rfl) (fun _ _ _ h => h) (Or.inl ⟨by rfl, ?_⟩) hS ?_; rotate_left; focus (intro w' s0; go_simp <;> try with_reducible rfl))
                try simp only [Act.put, List.setIfInBounds_toArray, List.set_cons_zero, List.set_cons_succ]
                (refine wpAnyH_take (i := 10) (oi := { dst := some 69, op := Op.binOp BinOp.add 32 (Operand.tmp 68) (Operand.const (Value.int IntKind.u64 21845)) 32, type := 32, pos := "outright.go:131", after := #[{ on := 9, ground := Ground.data }], guard := none }) (v := ?_) rfl (by kernel_rfl) (by kernel_rfl) (by kernel_rfl) (fun _ _ _ h => h) (Or.inl ⟨by rfl, ?_⟩) hS ?_; rotate_left; focus (intro w' s0; go_simp <;> try with_reducible rfl))
                try simp only [Act.put, List.setIfInBounds_toArray, List.set_cons_zero, List.set_cons_succ]
                refine wpAnyH_ready (rs := [11]) (by kernel_rfl) (by simp) ?_
                refine AllReadyH.cons (o := { dst := some 70, op := Op.buildSlice 52 3 #[(0, Operand.const (Value.int IntKind.u64 1)), (1, Operand.const (Value.int IntKind.u64 4294989141)), (2, Operand.const (Value.int IntKind.u64 7))], type := 52, pos := "outright.go:131", after := #[], guard := none }) rfl (fun K hK => ?_) AllReadyH.nil
                go_simp
                refine hK.out _ _ (hS.alloc _) (fun hS => ?_)
                clear hK K
                try simp only [Act.put, List.setIfInBounds_toArray, List.set_cons_zero, List.set_cons_succ]
                refine wpAnyH_ready (rs := [12]) (by kernel_rfl) (by simp) ?_
                refine AllReadyH.cons (o := { dst := some 71, op := Op.call { callee := Callee.value (Operand.func 6), args := #[Operand.tmp 62, Operand.tmp 63, Operand.tmp 69, Operand.tmp 70], argTypes := #[3, 3, 32, 52] }, type := 4, pos := "outright.go:131", after := #[{ on := 3, ground := Ground.data }, { on := 4, ground := Ground.data }, { on := 10, ground := Ground.data }, { on := 11, ground := Ground.data }], guard := none }) rfl (fun K hK => ?_) AllReadyH.nil
                refine take_if (by rfl) ?_
                go_simp
                (with_reducible refine (power14_k x (z) C x0 x1 (by omega) (by omega) C0 C1 g1 _ hse (fun O => UTb.h1 HTB (Lib.hid (HBe.out.alloc HBe.out.size O)))).mono ?_)
                rintro e' w6 ⟨rfl, b6⟩
                have HK6 := Lib.hid (HKe.out.trans (b6.mono HKe.out.size))
                have HO6 := Lib.hid (HOe.out.below b6)
                refine hK.out _ _ (HA0.out.below (HK6.out.mono (Nat.le_refl _)) (by omega)) (fun hS => ?_)
                clear hK K b6
                try simp only [Act.put, List.setIfInBounds_toArray, List.set_cons_zero, List.set_cons_succ]
                (refine wpAnyH_take (i := 13) (oi := { dst := some 72, op := Op.unOp UnOp.not 4 (Operand.tmp 71), type := 4, pos := "outright.go:131", after := #[{ on := 12, ground := Ground.data }], guard := none }) (v := ?_) rfl (by kernel_rfl) (by kernel_rfl) (by kernel_rfl) (fun _ _ _ h => h) (Or.inl ⟨by rfl, ?_⟩) hS ?_; rotate_left; focus (intro w' s0; go_simp <;> try with_reducible rfl))
                try simp only [Act.put, List.setIfInBounds_toArray, List.set_cons_zero, List.set_cons_succ]
                refine wpAnyH_done (by kernel_rfl) ?_ _
                have HN2 := Lib.hid hn2
                clear hn2
                go_wp2
                go_roundw
                case rel => exact ⟨j + 1, q3, by omega, by rw [HZZ.out]; go_num, by have := HQ2.out; have := HN2.out; omega, HR3.out, by have h := HO6.out; rw [HN2.out, show n2 + 2 = 40 + 20 * k + 5 + 2 * j + 2 by have := HQ2.out; have := HN2.out; omega] at h; exact h, HK6.out⟩
                case measure => simp [intOf]; omega
              · obtain rfl : j = 5 := by omega
                have d1 : decide ((2 * ((5 : Nat) : Int) - 1) ≤ 8) = false := by decide
                have HOd := Lib.hid (HO.out.below (w' := wr.drew) ⟨rfl, rfl, rfl, Nat.le_refl _, fun _ _ => rfl⟩)
                have HKd := Lib.hid HK.out.drew
                have hsd : wr.drew.heap.size = wr.heap.size := rfl
                have HQ2 := Lib.hid hq2
                have hq2b : q2.length < 1000 := by omega
                obtain ⟨n2, hn2⟩ : ∃ n, q2.length = n := ⟨_, rfl⟩
                have g1' : IntKind.u64.wrap (k : Int) = (k : Int) := by rw [IntKind.wrap_u64]; omega
                have g2' : IntKind.i64.wrap (21840 + (k : Int)) = 21840 + (k : Int) := IntWalk.i64_in _ (by omega)
                have g3' : IntKind.u64.wrap (21840 + (k : Int)) = 21840 + (k : Int) := by rw [IntKind.wrap_u64]; omega
                go_upto_region 16 with fail
                refine wp_region_held_drew (S := fun w' => At b (nO.map (.int .i64)) w') (by kernel_rfl) (hA.drew) (fun hS => ?_)
                generalize wr.drew = g0 at hS HOd HKd hsd ⊢
                (refine wpAnyH_take (i := 0) (oi := { dst := some 73, op := Op.move (Operand.tmp 2), type := 22, pos := "outright.go:135", after := #[], guard := none }) (v := ?_) rfl (by kernel_rfl) (by kernel_rfl) (by kernel_rfl) (fun _ _ _ h => h) (Or.inl ⟨by rfl, ?_⟩) hS ?_; rotate_left; focus (intro w' s0; go_simp <;> try with_reducible rfl))
                try simp only [Act.put, List.setIfInBounds_toArray, List.set_cons_zero, List.set_cons_succ]
                (refine wpAnyH_take (i := 1) (oi := { dst := some 74, op := Op.move (Operand.tmp 1), type := 47, pos := "outright.go:135", after := #[], guard := none }) (v := ?_) rfl (by kernel_rfl) (by kernel_rfl) (by kernel_rfl) (fun _ _ _ h => h) (Or.inl ⟨by rfl, ?_⟩) hS ?_; rotate_left; focus (intro w' s0; go_simp <;> try with_reducible rfl))
                try simp only [Act.put, List.setIfInBounds_toArray, List.set_cons_zero, List.set_cons_succ]
                (refine wpAnyH_take (i := 2) (oi := { dst := some 75, op := Op.move (Operand.tmp 4), type := 3, pos := "outright.go:135", after := #[], guard := none }) (v := ?_) rfl (by kernel_rfl) (by kernel_rfl) (by kernel_rfl) (fun _ _ _ h => h) (Or.inl ⟨by rfl, ?_⟩) hS ?_; rotate_left; focus (intro w' s0; go_simp <;> try with_reducible rfl))
                try simp only [Act.put, List.setIfInBounds_toArray, List.set_cons_zero, List.set_cons_succ]
                (refine wpAnyH_take (i := 3) (oi := { dst := some 76, op := Op.indexAddr 47 (Operand.tmp 74) (Operand.tmp 75), type := 0, pos := "outright.go:135", after := #[{ on := 1, ground := Ground.data }, { on := 2, ground := Ground.data }], guard := none }) (v := ?_) rfl (by kernel_rfl) (by kernel_rfl) (by kernel_rfl) (fun _ _ _ h => h) (Or.inl ⟨by rfl, ?_⟩) hS ?_; rotate_left; focus (intro w' s0; go_simp <;> try with_reducible rfl))
                try simp only [Act.put, List.setIfInBounds_toArray, List.set_cons_zero, List.set_cons_succ]
                (refine wpAnyH_take (i := 4) (oi := { dst := some 77, op := Op.load 3 (Operand.tmp 76), type := 3, pos := "outright.go:135", after := #[{ on := 3, ground := Ground.data }], guard := none }) (v := ?_) rfl (by kernel_rfl) (by kernel_rfl) (by kernel_rfl) (fun _ _ _ h => h) (Or.inl ⟨by rfl, ?_⟩) hS ?_; rotate_left; focus (intro w' s0; have c_k := s0 k _ HXV.out; go_simp <;> try with_reducible rfl))
                try simp only [Act.put, List.setIfInBounds_toArray, List.set_cons_zero, List.set_cons_succ]
                (refine wpAnyH_take (i := 5) (oi := { dst := some 78, op := Op.build 34 #[(0, Operand.const (Value.int IntKind.i64 2)), (1, Operand.tmp 77), (2, Operand.const (Value.int IntKind.i64 1))], type := 34, pos := "outright.go:135", after := #[{ on := 4, ground := Ground.data }], guard := none }) (v := ?_) rfl (by kernel_rfl) (by kernel_rfl) (by kernel_rfl) (fun _ _ _ h => h) (Or.inl ⟨by rfl, ?_⟩) hS ?_; rotate_left; focus (intro w' s0; go_simp <;> try with_reducible rfl))
                try simp only [Act.put, List.setIfInBounds_toArray, List.set_cons_zero, List.set_cons_succ]
                (refine wpAnyH_take (i := 6) (oi := { dst := some 79, op := Op.move (Operand.tmp 1), type := 47, pos := "outright.go:135", after := #[], guard := none }) (v := ?_) rfl (by kernel_rfl) (by kernel_rfl) (by kernel_rfl) (fun _ _ _ h => h) (Or.inl ⟨by rfl, ?_⟩) hS ?_; rotate_left; focus (intro w' s0; go_simp <;> try with_reducible rfl))
                try simp only [Act.put, List.setIfInBounds_toArray, List.set_cons_zero, List.set_cons_succ]
                (refine wpAnyH_take (i := 7) (oi := { dst := some 80, op := Op.move (Operand.tmp 4), type := 3, pos := "outright.go:135", after := #[], guard := none }) (v := ?_) rfl (by kernel_rfl) (by kernel_rfl) (by kernel_rfl) (fun _ _ _ h => h) (Or.inl ⟨by rfl, ?_⟩) hS ?_; rotate_left; focus (intro w' s0; go_simp <;> try with_reducible rfl))
                try simp only [Act.put, List.setIfInBounds_toArray, List.set_cons_zero, List.set_cons_succ]
                (refine wpAnyH_take (i := 8) (oi := { dst := some 81, op := Op.indexAddr 47 (Operand.tmp 79) (Operand.tmp 80), type := 0, pos := "outright.go:135", after := #[{ on := 6, ground := Ground.data }, { on := 7, ground := Ground.data }], guard := none }) (v := ?_) rfl (by kernel_rfl) (by kernel_rfl) (by kernel_rfl) (fun _ _ _ h => h) (Or.inl ⟨by rfl, ?_⟩) hS ?_; rotate_left; focus (intro w' s0; go_simp <;> try with_reducible rfl))
                try simp only [Act.put, List.setIfInBounds_toArray, List.set_cons_zero, List.set_cons_succ]
                (refine wpAnyH_take (i := 9) (oi := { dst := some 82, op := Op.load 3 (Operand.tmp 81), type := 3, pos := "outright.go:135", after := #[{ on := 8, ground := Ground.data }], guard := none }) (v := ?_) rfl (by kernel_rfl) (by kernel_rfl) (by kernel_rfl) (fun _ _ _ h => h) (Or.inl ⟨by rfl, ?_⟩) hS ?_; rotate_left; focus (intro w' s0; have c_k := s0 k _ HXV.out; go_simp <;> try with_reducible rfl))
                try simp only [Act.put, List.setIfInBounds_toArray, List.set_cons_zero, List.set_cons_succ]
                (refine wpAnyH_take (i := 10) (oi := { dst := some 83, op := Op.move (Operand.tmp 4), type := 3, pos := "outright.go:135", after := #[], guard := none }) (v := ?_) rfl (by kernel_rfl) (by kernel_rfl) (by kernel_rfl) (fun _ _ _ h => h) (Or.inl ⟨by rfl, ?_⟩) hS ?_; rotate_left; focus (intro w' s0; go_simp <;> try with_reducible rfl))
                try simp only [Act.put, List.setIfInBounds_toArray, List.set_cons_zero, List.set_cons_succ]
                (refine wpAnyH_take (i := 11) (oi := { dst := some 84, op := Op.convert 3 32 (Operand.tmp 83), type := 32, pos := "outright.go:135", after := #[{ on := 10, ground := Ground.data }], guard := none }) (v := ?_) rfl (by kernel_rfl) (by kernel_rfl) (by kernel_rfl) (fun _ _ _ h => h) (Or.inl ⟨by rfl, ?_⟩) hS ?_; rotate_left; focus (intro w' s0; go_simp <;> try with_reducible rfl))
                try simp only [Act.put, List.setIfInBounds_toArray, List.set_cons_zero, List.set_cons_succ]
                (refine wpAnyH_take (i := 12) (oi := { dst := some 85, op := Op.build 34 #[(0, Operand.const (Value.int IntKind.i64 3)), (1, Operand.tmp 82), (2, Operand.const (Value.int IntKind.i64 1)), (3, Operand.tmp 84)], type := 34, pos := "outright.go:135", after := #[{ on := 9, ground := Ground.data }, { on := 11, ground := Ground.data }], guard := none }) (v := ?_) rfl (by kernel_rfl) (by kernel_rfl) (by kernel_rfl) (fun _ _ _ h => h) (Or.inl ⟨by rfl, ?_⟩) hS ?_; rotate_left; focus (intro w' s0; go_simp <;> try with_reducible rfl))
                try simp only [Act.put, List.setIfInBounds_toArray, List.set_cons_zero, List.set_cons_succ]
                (refine wpAnyH_take (i := 13) (oi := { dst := some 86, op := Op.build 34 #[(0, Operand.const (Value.int IntKind.i64 1))], type := 34, pos := "outright.go:135", after := #[], guard := none }) (v := ?_) rfl (by kernel_rfl) (by kernel_rfl) (by kernel_rfl) (fun _ _ _ h => h) (Or.inl ⟨by rfl, ?_⟩) hS ?_; rotate_left; focus (intro w' s0; go_simp <;> try with_reducible rfl))
                try simp only [Act.put, List.setIfInBounds_toArray, List.set_cons_zero, List.set_cons_succ]
                (refine wpAnyH_take (i := 14) (oi := { dst := some 87, op := Op.move (Operand.tmp 4), type := 3, pos := "outright.go:135", after := #[], guard := none }) (v := ?_) rfl (by kernel_rfl) (by kernel_rfl) (by kernel_rfl) (fun _ _ _ h => h) (Or.inl ⟨by rfl, ?_⟩) hS ?_; rotate_left; focus (intro w' s0; go_simp <;> try with_reducible rfl))
                try simp only [Act.put, List.setIfInBounds_toArray, List.set_cons_zero, List.set_cons_succ]
                (refine wpAnyH_take (i := 15) (oi := { dst := some 88, op := Op.binOp BinOp.add 3 (Operand.const (Value.int IntKind.i64 21840)) (Operand.tmp 87) 3, type := 3, pos := "outright.go:135", after := #[{ on := 14, ground := Ground.data }], guard := none }) (v := ?_) rfl (by kernel_rfl) (by kernel_rfl) (by kernel_rfl) (fun _ _ _ h => h) (Or.inl ⟨by rfl, ?_⟩) hS ?_; rotate_left; focus (intro w' s0; go_simp <;> try with_reducible rfl))
                try simp only [Act.put, List.setIfInBounds_toArray, List.set_cons_zero, List.set_cons_succ]
                (refine wpAnyH_take (i := 16) (oi := { dst := some 89, op := Op.convert 3 32 (Operand.tmp 88), type := 32, pos := "outright.go:135", after := #[{ on := 15, ground := Ground.data }], guard := none }) (v := ?_) rfl (by kernel_rfl) (by kernel_rfl) (by kernel_rfl) (fun _ _ _ h => h) (Or.inl ⟨by rfl, ?_⟩) hS ?_; rotate_left; focus (intro w' s0; go_simp <;> try with_reducible rfl))
                try simp only [Act.put, List.setIfInBounds_toArray, List.set_cons_zero, List.set_cons_succ]
                (refine wpAnyH_take (i := 17) (oi := { dst := some 90, op := Op.build 34 #[(0, Operand.const (Value.int IntKind.i64 5)), (2, Operand.const (Value.int IntKind.i64 4)), (3, Operand.tmp 89)], type := 34, pos := "outright.go:135", after := #[{ on := 16, ground := Ground.data }], guard := none }) (v := ?_) rfl (by kernel_rfl) (by kernel_rfl) (by kernel_rfl) (fun _ _ _ h => h) (Or.inl ⟨by rfl, ?_⟩) hS ?_; rotate_left; focus (intro w' s0; go_simp <;> try with_reducible rfl))
                try simp only [Act.put, List.setIfInBounds_toArray, List.set_cons_zero, List.set_cons_succ]
                (refine wpAnyH_take (i := 18) (oi := { dst := some 91, op := Op.build 34 #[(0, Operand.const (Value.int IntKind.i64 9))], type := 34, pos := "outright.go:135", after := #[], guard := none }) (v := ?_) rfl (by kernel_rfl) (by kernel_rfl) (by kernel_rfl) (fun _ _ _ h => h) (Or.inl ⟨by rfl, ?_⟩) hS ?_; rotate_left; focus (intro w' s0; go_simp <;> try with_reducible rfl))
                try simp only [Act.put, List.setIfInBounds_toArray, List.set_cons_zero, List.set_cons_succ]
                refine wpAnyH_ready (rs := [19]) (by kernel_rfl) (by simp) ?_
                refine AllReadyH.cons (o := { dst := some 92, op := Op.buildSlice 22 5 #[(0, Operand.tmp 78), (1, Operand.tmp 85), (2, Operand.tmp 86), (3, Operand.tmp 90), (4, Operand.tmp 91)], type := 22, pos := "outright.go:135", after := #[{ on := 5, ground := Ground.data }, { on := 12, ground := Ground.data }, { on := 13, ground := Ground.data }, { on := 17, ground := Ground.data }, { on := 18, ground := Ground.data }], guard := none }) rfl (fun K hK => ?_) AllReadyH.nil
                go_simp
                refine hK.out _ _ (hS.alloc _) (fun hS => ?_)
                clear hK K
                try simp only [Act.put, List.setIfInBounds_toArray, List.set_cons_zero, List.set_cons_succ]
                have hN := Lib.hid (At.new g0 (fu [⟨2, x, 1, 0⟩, ⟨3, x, 1, (k : Int)⟩, ⟨1, 0, 0, 0⟩, ⟨5, 0, 4, 21840 + (k : Int)⟩, ⟨9, 0, 0, 0⟩]) 34)
                refine wpAnyH_ready (rs := [20]) (by kernel_rfl) (by simp) ?_
                refine AllReadyH.cons (o := { dst := some 93, op := Op.call { callee := Callee.builtin Go.Builtin.append, args := #[Operand.tmp 73, Operand.tmp 92], argTypes := #[22, 22] }, type := 22, pos := "outright.go:135", after := #[{ on := 0, ground := Ground.data }, { on := 19, ground := Ground.data }], guard := none }) rfl (fun K hK => ?_) AllReadyH.nil
                refine app_us rfl (.tmp 73) (.tmp 92) rfl (b + 1) _ _ [⟨2, x, 1, 0⟩, ⟨3, x, 1, (k : Int)⟩, ⟨1, 0, 0, 0⟩, ⟨5, 0, 4, 21840 + (k : Int)⟩, ⟨9, 0, 0, 0⟩] rfl (HOd.out.alloc _) ⟨wr.heap.size, 0, none⟩ 5 5 rfl (by decide) rfl (newsu_at (by have h := hN.out; rw [hsd] at h; exact h)) (by omega) (by simp; omega) (wr.heap.size + 1) (by simp; omega) ?_
                intro gg3 cc3 w3 hown3 hgr3 hat3 hlt3
                have HO3 := Lib.hid hown3
                have HK3 := Lib.hid ((HKd.out.alloc (by omega) _).grown hgr3 (by simp; omega) (fun i hi => by have := (HOd.out.lt i hi).1; omega))
                clear hown3 hgr3 hat3 hN hS
                refine hK.out _ _ (HA0.out.below (HK3.out.mono (Nat.le_refl _)) (by omega)) (fun hS => ?_)
                clear hK K
                try simp only [Act.put, List.setIfInBounds_toArray, List.set_cons_zero, List.set_cons_succ]
                (refine wpAnyH_take (i := 21) (oi := { dst := some 2, op := Op.assign (Operand.tmp 93), type := 22, pos := "outright.go:135", after := #[{ on := 20, ground := Ground.data }, { on := 20, ground := Ground.chain }, { on := 0, ground := Ground.phase }, { on := 1, ground := Ground.phase }, { on := 2, ground := Ground.phase }, { on := 3, ground := Ground.phase }, { on := 4, ground := Ground.phase }, { on := 5, ground := Ground.phase }, { on := 6, ground := Ground.phase }, { on := 7, ground := Ground.phase }, { on := 8, ground := Ground.phase }, { on := 9, ground := Ground.phase }, { on := 10, ground := Ground.phase }, { on := 11, ground := Ground.phase }, { on := 12, ground := Ground.phase }, { on := 13, ground := Ground.phase }, { on := 14, ground := Ground.phase }, { on := 15, ground := Ground.phase }, { on := 16, ground := Ground.phase }, { on := 17, ground := Ground.phase }, { on := 18, ground := Ground.phase }, { on := 19, ground := Ground.phase }, { on := 20, ground := Ground.phase }], guard := none }) (v := ?_) rfl (by kernel_rfl) (by kernel_rfl) (by kernel_rfl) (fun _ _ _ h => h) (Or.inl ⟨by rfl, ?_⟩) hS ?_; rotate_left; focus (intro w' s0; go_simp <;> try with_reducible rfl))
                try simp only [Act.put, List.setIfInBounds_toArray, List.set_cons_zero, List.set_cons_succ]
                refine wpAnyH_done (by kernel_rfl) ?_ _
                obtain ⟨q3, hq3⟩ : ∃ q3, q2 ++ [⟨2, x, 1, 0⟩, ⟨3, x, 1, (k : Int)⟩, ⟨1, 0, 0, 0⟩, ⟨5, 0, 4, 21840 + (k : Int)⟩, ⟨9, 0, 0, 0⟩] = q3 := ⟨_, rfl⟩
                have hl3 : q3.length = n2 + 5 := by rw [← hq3]; simp; omega
                have HR3 : Hid (∀ c ∈ q3, c.Raw) := Lib.hid (by
                  rw [← hq3]
                  intro c hc
                  rcases List.mem_append.1 hc with hc | hc
                  · exact HR.out c hc
                  · simp only [List.mem_cons, List.not_mem_nil, or_false] at hc
                    rcases hc with rfl | rfl | rfl | rfl | rfl <;> exact uo_raw _ _ _ _ (by omega) (by omega) (by omega) (by omega) (by omega) (by omega) (by omega) (by omega))
                rw [hq3] at HO3
                have HN2 := Lib.hid hn2
                clear hn2 hS
                go_wp2
                go_roundw
                case rel => exact ⟨k + 1, q3, by omega, by go_num, by have := HQ2.out; have := HN2.out; omega, HR3.out, by have h := HO3.out; rw [HN2.out, show n2 + 5 = 40 + 20 * k + 5 + 10 + 5 by have := HQ2.out; have := HN2.out; omega] at h; exact h, HK3.out⟩
                case measure => simp [intOf]; omega
        · obtain rfl : k = 12 := by omega
          have hq9 : q.length = 280 := by omega
          obtain ⟨g9, c9, e9, hc9, hg9, hD⟩ := cut_u HO.out HR.out (by omega)
          rw [hq9] at e9 hc9
          subst e9
          have hcc : (280 : Int) ≤ (c9 : Int) := by omega
          have hcc0 : (0 : Int) ≤ 280 := by decide
          have HBW := Lib.hid (HB0.out.trans (HK.out.mono HB0.out.size))
          have HD := Lib.hid hD
          have HA := Lib.hid (HA0.out.below (HK.out.mono (Nat.le_refl _)) (by omega))
          clear hD
          have hmn : min (400 : Int) 280 = 280 := by decide
          go_wp2_with (first
            | (go_at_call 3; (with_reducible refine (runs14_n _ q hq9 (by decide) _ _ wr HD.out HR.out (UTb.h1 HTB HBW)).mono ?_); rintro e' w5 ⟨rfl, b5⟩; have hs5 := b5.size; have HA5 := Lib.hid (HA.out.below b5 (by omega)); have HB5 := Lib.hid (HBW.out.trans (b5.mono HBW.out.size)); clear b5)
            | (go_at_call 32; (with_reducible refine (row40_w w5).mono ?_); rintro e' w6 ⟨vr, Lr, rfl, ho6, hl6, hb6, b6⟩; have hs6 := b6.size; have HO6 := Lib.hid ho6; have HL6 := Lib.hid hl6; have HR6 := Lib.hid hb6; have HA6 := Lib.hid (HA5.out.below b6 (by omega)); have HB6 := Lib.hid (HB5.out.trans (b6.mono HB5.out.size)); clear b6 ho6 hl6 hb6)
            | (go_at_call 4; (with_reducible refine (order14_k Lr HL6.out HR6.out _ _ w6 HO6.out b HA6.out (by omega) (UTb.h1 HTB HB6)).mono ?_); rintro e' w7 ⟨rfl, b7⟩; have hs7 := b7.size; have HA7 := Lib.hid (HA6.out.below b7 (by omega)); have HB7 := Lib.hid (HB6.out.trans (b7.mono HB6.out.size)); clear b7)
            | (go_at_call 5; (with_reducible refine (tells14_k w7 b HA7.out (by omega) (fun O O' => UTb.h1 HTB (Lib.hid ((HB7.out.alloc HB7.out.size O).alloc (by have := HB7.out.size; simp; omega) O')))).mono ?_); rintro e' w8 ⟨rfl, b8⟩; have HB8 := Lib.hid (HB7.out.trans (b8.mono HB7.out.size)); clear b8)
            | (go_at_call 8; (with_reducible refine (works14_w w8 (UTb.h1 HTB HB8)).mono ?_); rintro e' w9 ⟨rfl, b9⟩; have HB9 := Lib.hid (HB8.out.trans (b9.mono HB8.out.size)); clear b9))
          go_ret
          exact ⟨rfl, HB9.out⟩
end Go.Proofs.Ytnimpgamiagedaa
