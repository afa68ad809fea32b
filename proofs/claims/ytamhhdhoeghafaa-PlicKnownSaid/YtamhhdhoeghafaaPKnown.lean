/-
  PlicKnown of layer 12: its walk. No condition but what the calls lean on.
-/
import Derived.Test.YtamhhdhoeghafaaPOwn
import Derived.Test.YtamhhdhoeghafaaPRuns
namespace Go.Proofs.Ytamhhdhoeghafaa
open Go.ChangeShapes Go.WideShapes Go.ChangeAt Go.RowKit
set_option linter.unusedVariables false
set_option linter.unusedSimpArgs false
/-- The places that are gone through. -/
def kO : List Int := [-4, 0, 4, 5, 124, 128, 4092, 4096, 4100, 8192, 8196, 8320, 8448, 2097152, 2097156, 2097160, 2101248, 2101252, 2105344, 2105348, -9223372036854775808, 9223372036854775804]
theorem kO_bd : kO.all (fun x => decide (-9223372036854775808 ≤ x) && decide (x < 9223372036854775808)) = true := by decide +kernel
theorem kO_at (i : Nat) (x : Int) (h : kO[i]? = some x) : -9223372036854775808 ≤ x ∧ x < 9223372036854775808 := by
  have := List.all_eq_true.1 kO_bd x (List.mem_of_getElem? h)
  simpa using this
theorem po_raw (k off size v m : Int) (k0 : -9223372036854775808 ≤ k) (k1 : k < 9223372036854775808) (o0 : -9223372036854775808 ≤ off) (o1 : off < 9223372036854775808) (s0 : -9223372036854775808 ≤ size) (s1 : size < 9223372036854775808) (v0 : 0 ≤ v) (v1 : v < 18446744073709551616) (m0 : 0 ≤ m) (m1 : m < 4294967296) : (⟨k, off, size, v, m⟩ : Po).Raw := ⟨⟨k0, k1⟩, ⟨o0, o1⟩, ⟨s0, s1⟩, ⟨v0, v1⟩, m0, m1⟩
theorem news_at {g : Nat} {vs : List Value} {w : World} (h : At g vs w) : ∀ j u, vs[j]? = some u → w.cell? ((⟨g, 0, none⟩ : Addr).add j) = some u := fun j u hj => by
  rw [Addr.add_lit, Nat.zero_add]; exact h j u hj
/-- What a row of calls that a call owns is read as. -/
theorem cut_p {w : World} {B : Nat} {v : Value} {L : List Po} (h : OwnP w B v L) (hr : ∀ c ∈ L, c.Raw) (h0 : 0 < L.length) : ∃ g cap, v = .slice (some ⟨g, 0, none⟩) L.length cap ∧ L.length ≤ cap ∧ g < w.heap.size ∧ ∀ d m, d + m ≤ L.length → ∃ M : List Po, M.length = m ∧ (∀ c ∈ M, c.Raw) ∧ RdPo w w.heap.size (some ⟨g, d * 5, none⟩) M := by
  obtain ⟨g, cap, e, hc, hm, hb, hg, hrd⟩ := h.rd h0
  refine ⟨g, cap, e, hc, hg, fun d m hdm => ⟨(L.drop d).take m, by rw [List.length_take, List.length_drop]; omega, fun c hc => hr c (List.mem_of_mem_drop (List.mem_of_mem_take hc)), rd_cut hg hrd d m⟩⟩
theorem regs12_n (n : Nat) (l : List Po) (hn : l.length = n) (h9 : n ≤ 9223372036854775807) (A : Option Addr) (cap : Nat) (off size v : Int) (o0 : -9223372036854775808 ≤ off) (o1 : off < 9223372036854775808) (s0 : -9223372036854775808 ≤ size) (s1 : size < 9223372036854775808) (v0 : 0 ≤ v) (v1 : v < 18446744073709551616) (W : World) (hrd : RdPo W W.heap.size A l) (hraw : ∀ c ∈ l, c.Raw) (tb : PTb W) :
    Calls Try.prog 6 #[.slice A n cap, .int .i64 off, .int .i64 size, .int .u64 v] W fun e w' => e = .returned (.bool true) ∧ Below W.heap.size W w' := by
  subst hn; exact regs12_w l A cap off size v o0 o1 s0 s1 v0 v1 W hrd hraw h9 tb
theorem claims12_n (n : Nat) (tg : Bool) (l : List Po) (hn : l.length = n) (h9 : n ≤ 9223372036854775807) (A : Option Addr) (cap : Nat) (W : World) (hrd : RdPo W W.heap.size A l) (hraw : ∀ c ∈ l, c.Raw) (tb : PTb W) :
    Calls Try.prog 4 #[.slice A n cap, .bool tg] W fun e w' => e = .returned (.bool true) ∧ Below W.heap.size W w' := by
  subst hn
  cases tg
  · exact claims12_0 l A cap W hrd hraw h9 tb
  · exact claims12_1 l A cap W hrd hraw h9 tb
theorem once12_n (n : Nat) (tg : Bool) (l : List Po) (hn : l.length = n) (h9 : n ≤ 9223372036854775807) (A : Option Addr) (cap : Nat) (m : Nat) (q : List Pm) (hm : q.length = m) (m9 : m ≤ 9223372036854775807) (A2 : Option Addr) (cap2 : Nat) (W : World) (hrd : RdPo W W.heap.size A l) (hraw : ∀ c ∈ l, c.Raw) (hrd2 : RdPm W W.heap.size A2 q) (hraw2 : ∀ c ∈ q, c.Raw) (tb : PTb W) :
    Calls Try.prog 5 #[.slice A n cap, .bool tg, .slice A2 m cap2] W fun e w' => e = .returned (.bool true) ∧ Below W.heap.size W w' := by
  subst hn hm
  cases tg
  · exact once12_0 l A cap q A2 cap2 W hrd hraw h9 hrd2 hraw2 m9 tb
  · exact once12_1 l A cap q A2 cap2 W hrd hraw h9 hrd2 hraw2 m9 tb
theorem runs12_n (n : Nat) (l : List Po) (hn : l.length = n) (h9 : n ≤ 9223372036854775807) (A : Option Addr) (cap : Nat) (W : World) (hrd : RdPo W W.heap.size A l) (hraw : ∀ c ∈ l, c.Raw) (tb : PTb W) :
    Calls Try.prog 3 #[.slice A n cap] W fun e w' => e = .returned (.bool true) ∧ Below W.heap.size W w' := by
  subst hn; exact runs12_w l A cap W hrd hraw h9 tb
theorem rd3 {w : World} {g : Nat} (h : At g [.int .u32 0, .int .u32 4294967295, .int .u32 6] w) (hg : g < w.heap.size) : RdPm w w.heap.size (some ⟨g, 0, none⟩) [⟨0⟩, ⟨4294967295⟩, ⟨6⟩] := fun _ => by
  refine ⟨g, 0, rfl, hg, fun i c hi j u hj => ?_⟩
  obtain rfl : j = 0 := by have := (List.getElem?_eq_some_iff.1 hj).1; rw [Pm.vs_len] at this; omega
  obtain rfl : Value.int .u32 c.x = u := by simpa [Pm.vs] using hj
  refine h _ _ ?_
  rw [Nat.zero_add, Nat.mul_one, Nat.add_zero]
  match i, hi with
  | 0, hi => cases hi; rfl
  | 1, hi => cases hi; rfl
  | 2, hi => cases hi; rfl
  | i + 3, hi => simp at hi
theorem raw3 : ∀ c ∈ ([⟨0⟩, ⟨4294967295⟩, ⟨6⟩] : List Pm), c.Raw := by
  intro c hc
  simp only [List.mem_cons, List.not_mem_nil, or_false] at hc
  rcases hc with rfl | rfl | rfl <;> exact ⟨by decide, by decide⟩
theorem once12_k (n : Nat) (tg : Bool) (l : List Po) (hn : l.length = n) (h9 : n ≤ 9223372036854775807) (A : Option Addr) (cap : Nat) (w : World) (B : Nat) (hB : B ≤ w.heap.size) (hrd : RdPo w B A l) (hraw : ∀ c ∈ l, c.Raw) (tb : ∀ O, PTb (w.alloc O)) :
    Calls Try.prog 5 #[.slice A n cap, .bool tg, .slice (some ⟨w.heap.size, 0, none⟩) 3 3] (w.alloc (.cells #[.int .u32 0, .int .u32 4294967295, .int .u32 6] 29)) fun e w' => e = .returned (.bool true) ∧ Below w.heap.size w w' := by
  have hal := (Below.refl w.heap.size w).alloc (Nat.le_refl _) (.cells #[.int .u32 0, .int .u32 4294967295, .int .u32 6] 29)
  refine Calls.mono (once12_n n tg l hn h9 A cap 3 [⟨0⟩, ⟨4294967295⟩, ⟨6⟩] rfl (by decide) (some ⟨w.heap.size, 0, none⟩) 3 _ (fun h0 => ?_) hraw (rd3 (At.new w _ _) (by simp)) raw3 (tb _)) ?_
  · obtain ⟨b0, o0, e0, hb0, hr0⟩ := hrd.below (hal.mono hB) h0
    exact ⟨b0, o0, e0, by simp; omega, hr0⟩
  · rintro e' w' ⟨rfl, b1⟩
    exact ⟨rfl, hal.trans (b1.mono (by simp))⟩
theorem RdPo.drew {w : World} {B : Nat} {A : Option Addr} {L : List Po} (h : RdPo w B A L) : RdPo w.drew B A L := h.keep fun _ _ => rfl
set_option maxRecDepth 100000 in
set_option maxHeartbeats 16000000 in
theorem known12_w (W : World) (tb : PTb W) : Calls Try.prog 7 #[] W fun e w' => e = .returned (.bool true) ∧ Below W.heap.size W w' := by
  have HTB := Lib.hid tb
  clear tb
  go_enter Try.func7, Try.ntmps7
  go_wp2
  have hA0 : At W.heap.size (kO.map (.int .i64)) (W.alloc (.cells #[.int .i64 (-4), .int .i64 0, .int .i64 4, .int .i64 5, .int .i64 124, .int .i64 128, .int .i64 4092, .int .i64 4096, .int .i64 4100, .int .i64 8192, .int .i64 8196, .int .i64 8320, .int .i64 8448, .int .i64 2097152, .int .i64 2097156, .int .i64 2097160, .int .i64 2101248, .int .i64 2101252, .int .i64 2105344, .int .i64 2105348, .int .i64 (-9223372036854775808), .int .i64 9223372036854775804] 3)) := At.new W (kO.map (.int .i64)) 3
  have hB0 : Below W.heap.size W (W.alloc (.cells #[.int .i64 (-4), .int .i64 0, .int .i64 4, .int .i64 5, .int .i64 124, .int .i64 128, .int .i64 4092, .int .i64 4096, .int .i64 4100, .int .i64 8192, .int .i64 8196, .int .i64 8320, .int .i64 8448, .int .i64 2097152, .int .i64 2097156, .int .i64 2097160, .int .i64 2101248, .int .i64 2101252, .int .i64 2105344, .int .i64 2105348, .int .i64 (-9223372036854775808), .int .i64 9223372036854775804] 3)) := (Below.refl _ W).alloc (Nat.le_refl _) _
  have hs0 : (W.alloc (.cells #[.int .i64 (-4), .int .i64 0, .int .i64 4, .int .i64 5, .int .i64 124, .int .i64 128, .int .i64 4092, .int .i64 4096, .int .i64 4100, .int .i64 8192, .int .i64 8196, .int .i64 8320, .int .i64 8448, .int .i64 2097152, .int .i64 2097156, .int .i64 2097160, .int .i64 2101248, .int .i64 2101252, .int .i64 2105344, .int .i64 2105348, .int .i64 (-9223372036854775808), .int .i64 9223372036854775804] 3)).heap.size = W.heap.size + 1 := by simp
  generalize W.alloc (.cells #[.int .i64 (-4), .int .i64 0, .int .i64 4, .int .i64 5, .int .i64 124, .int .i64 128, .int .i64 4092, .int .i64 4096, .int .i64 4100, .int .i64 8192, .int .i64 8196, .int .i64 8320, .int .i64 8448, .int .i64 2097152, .int .i64 2097156, .int .i64 2097160, .int .i64 2101248, .int .i64 2101252, .int .i64 2105344, .int .i64 2105348, .int .i64 (-9223372036854775808), .int .i64 9223372036854775804] 3) = w1 at hA0 hB0 hs0 ⊢
  obtain ⟨b, hb⟩ : ∃ b, W.heap.size = b := ⟨_, rfl⟩
  have HB0 := Lib.hid hB0
  have HA0 := Lib.hid hA0
  rw [hb] at HA0 hs0 ⊢
  have hWb := Lib.hid hb
  clear hA0 hB0 hb
  go_loopw [2, 3] (fun v i wr => ∃ (s : Nat) (l : List Po), 1 ≤ s ∧ s ≤ 32 ∧ i = .int .i64 (s : Int) ∧ l.length + 1 = s ∧ (∀ c ∈ l, c.Raw) ∧ OwnP wr (b + 1) v l ∧ Below w1.heap.size w1 wr) (fun _ i _ => 32 - (intOf i).toNat)
  case atStart => exact ⟨1, [], Nat.le_refl _, by decide, rfl, rfl, by simp, OwnP.nil _ _, Below.refl _ _⟩
  case round =>
    obtain ⟨s, l, hs1, hs, rfl, hl, hraw, ho, hk⟩ := hrel
    have HO := Lib.hid ho
    have HK := Lib.hid hk
    have HR := Lib.hid hraw
    have hsz := hk.size
    clear ho hk hraw
    by_cases hlt : s < 32
    · obtain ⟨x, hx⟩ : ∃ x, ((s : Int) * 5) % 11 = x := ⟨_, rfl⟩
      have x0 : 0 ≤ x ∧ x < 11 := by omega
      have x1 : ((s : Int) * 5).tmod 11 = x := by rw [Int.tmod_eq_emod_of_nonneg (by omega)]; exact hx
      have x2 : IntKind.u64.wrap x = x := by rw [IntKind.wrap_u64]; omega
      have f1 : (s : Int) < 32 := by omega
      have f2 : (1 : Int) ≤ (s : Int) := by omega
      obtain ⟨x00, x01⟩ := x0
      have hN := Lib.hid (At.new wr (fp [⟨2, 4 * (s : Int), 4, x, 0⟩]) 31)
      go_wp2_with (at_builtin; refine app_p rfl (.tmp 11) (.tmp 19) rfl (b + 1) _ _ [⟨2, 4 * (s : Int), 4, x, 0⟩] rfl (HO.out.alloc _) ⟨wr.heap.size, 0, none⟩ 1 1 rfl (by decide) rfl (news_at hN.out) (by omega) (by simp; omega) (wr.heap.size + 1) (by simp) ?_; intro gg cc w2 hown hgr hat hlt2; have HO2 := Lib.hid hown; have HG2 := Lib.hid hgr; clear hown hgr hat)
      go_roundw
      case rel => exact ⟨s + 1, l ++ [⟨2, 4 * (s : Int), 4, x, 0⟩], by omega, by omega, by go_num, by simp; omega, by
        intro c hc
        rcases List.mem_append.1 hc with hc | hc
        · exact HR.out c hc
        · simp only [List.mem_singleton] at hc; subst hc; exact po_raw _ _ _ _ _ (by omega) (by omega) (by omega) (by omega) (by omega) (by omega) (by omega) (by omega) (by omega) (by omega), by have h := HO2.out; rw [hl] at h; exact h, (HK.out.alloc hsz _).grown HG2.out (by simp; omega) (fun b hb => by have := (HO.out.lt b hb).1; omega)⟩
      case measure => simp [intOf]; omega
    · obtain rfl : s = 32 := by omega
      obtain ⟨n0, hn0⟩ : ∃ n, l.length = n := ⟨_, rfl⟩
      have hN := Lib.hid (At.new wr (fp [⟨2, 8192, 4, 4294967295, 0⟩, ⟨2, 8320, 4, 4042322161, 0⟩, ⟨0, 0, 0, 0, 4294967295⟩]) 31)
      go_wp2_with (at_builtin; refine app_p rfl (.tmp 21) (.tmp 25) rfl (b + 1) _ _ [⟨2, 8192, 4, 4294967295, 0⟩, ⟨2, 8320, 4, 4042322161, 0⟩, ⟨0, 0, 0, 0, 4294967295⟩] rfl (HO.out.alloc _) ⟨wr.heap.size, 0, none⟩ 3 3 rfl (by decide) rfl (news_at hN.out) (by omega) (by simp; omega) (wr.heap.size + 1) (by simp) ?_; intro gg cc w2 hown hgr hat hlt2; have HO2 := Lib.hid hown; have HK2 := Lib.hid ((HK.out.alloc hsz _).grown hgr (by simp; omega) (fun b hb => by have := (HO.out.lt b hb).1; omega)); clear hown hgr hat)
      have HR2 : Hid (∀ c ∈ l ++ [⟨2, 8192, 4, 4294967295, 0⟩, ⟨2, 8320, 4, 4042322161, 0⟩, ⟨0, 0, 0, 0, 4294967295⟩], c.Raw) := Lib.hid (by
        intro c hc
        rcases List.mem_append.1 hc with hc | hc
        · exact HR.out c hc
        · simp only [List.mem_cons, List.not_mem_nil, or_false] at hc
          rcases hc with rfl | rfl | rfl <;> exact po_raw _ _ _ _ _ (by decide) (by decide) (by decide) (by decide) (by decide) (by decide) (by decide) (by decide) (by decide) (by decide))
      clear HR HO HK hN
      go_loopw [2, 4] (fun v i wr => ∃ (k : Nat) (q : List Po), k ≤ 22 ∧ i = .int .i64 (k : Int) ∧ q.length = 34 + 12 * k ∧ (∀ c ∈ q, c.Raw) ∧ OwnP wr (b + 1) v q ∧ Below w1.heap.size w1 wr) (fun _ i _ => 22 - (intOf i).toNat)
      case atStart => exact ⟨0, _, Nat.zero_le _, rfl, by simp; omega, HR2.out, by have h := HO2.out; rw [hn0] at h; exact h, HK2.out⟩
      case round =>
        clear HR2 HO2 HK2
        obtain ⟨k, q, hk, rfl, hq, hraw, ho, hkp⟩ := hrel
        have HO := Lib.hid ho
        have HK := Lib.hid hkp
        have HR := Lib.hid hraw
        have hsz3 := hkp.size
        clear ho hkp hraw
        by_cases hlt3 : k < 22
        · obtain ⟨x, hx⟩ : ∃ x, kO[k]? = some x := ⟨_, List.getElem?_eq_getElem (by show k < 22; exact hlt3)⟩
          obtain ⟨x0, x1⟩ := kO_at k x hx
          have HXV := Lib.hid (show (kO.map (Value.int .i64))[k]? = some (.int .i64 x) by rw [List.getElem?_map, hx]; rfl)
          clear hx
          have f1 : (k : Int) < 22 := by omega
          go_wp2
          go_loopw [2, 5] (fun v i wr => ∃ (j : Nat) (q : List Po), j ≤ 3 ∧ i = .int .i64 (4 * (j : Int)) ∧ q.length = 34 + 12 * k + 4 * j ∧ (∀ c ∈ q, c.Raw) ∧ OwnP wr (b + 1) v q ∧ Below w1.heap.size w1 wr) (fun _ i _ => (12 - intOf i).toNat)
          case atStart => exact ⟨0, q, by omega, rfl, by omega, HR.out, HO.out, HK.out⟩
          case round =>
            clear HR HO HK
            obtain ⟨j, q2, hj, rfl, hq2, hraw, ho, hkp⟩ := hrel
            have HO := Lib.hid ho
            have HK := Lib.hid hkp
            have HR := Lib.hid hraw
            have hsz4 := hkp.size
            have HBW := Lib.hid (HB0.out.trans (hkp.mono HB0.out.size))
            have hA := HA0.out.below (hkp.mono (Nat.le_refl _)) (by omega)
            clear ho hkp hraw
            by_cases hlt4 : j < 3
            · have d1 : decide (4 * (j : Int) ≤ 8) = true := by simp; omega
              have e1 : (k : Int).tmod 4 = (k : Int) % 4 := Int.tmod_eq_emod_of_nonneg (by omega)
              have HOd := Lib.hid (HO.out.below (w' := wr.drew) ⟨rfl, rfl, rfl, Nat.le_refl _, fun _ _ => rfl⟩)
              have HKd := Lib.hid HK.out.drew
              have hsd : wr.drew.heap.size = wr.heap.size := rfl
              obtain ⟨n2, hn2⟩ : ∃ n, q2.length = n := ⟨_, rfl⟩
              go_upto_region 14 with fail
              refine wp_region_held_drew (S := fun w' => At b (kO.map (.int .i64)) w') (by kernel_rfl) (hA.drew) (fun hS => ?_)
              generalize wr.drew = g0 at hS HOd HKd hsd ⊢
              (refine wpAnyH_take (i := 0) (oi := { dst := some 37, op := Op.move (Operand.tmp 2), type := 22, pos := "outright.go:145", after := #[], guard := none }) (v := ?_) rfl (by kernel_rfl) (by kernel_rfl) (by kernel_rfl) (fun _ _ _ h => h) (Or.inl ⟨by rfl, ?_⟩) hS ?_; rotate_left; focus (intro w' s0; go_simp <;> try with_reducible rfl))
              try simp only [Act.put, List.setIfInBounds_toArray, List.set_cons_zero, List.set_cons_succ]
              (refine wpAnyH_take (i := 1) (oi := { dst := some 38, op := Op.move (Operand.tmp 1), type := 44, pos := "outright.go:145", after := #[], guard := none }) (v := ?_) rfl (by kernel_rfl) (by kernel_rfl) (by kernel_rfl) (fun _ _ _ h => h) (Or.inl ⟨by rfl, ?_⟩) hS ?_; rotate_left; focus (intro w' s0; go_simp <;> try with_reducible rfl))
              try simp only [Act.put, List.setIfInBounds_toArray, List.set_cons_zero, List.set_cons_succ]
              (refine wpAnyH_take (i := 2) (oi := { dst := some 39, op := Op.move (Operand.tmp 4), type := 3, pos := "outright.go:145", after := #[], guard := none }) (v := ?_) rfl (by kernel_rfl) (by kernel_rfl) (by kernel_rfl) (fun _ _ _ h => h) (Or.inl ⟨by rfl, ?_⟩) hS ?_; rotate_left; focus (intro w' s0; go_simp <;> try with_reducible rfl))
              try simp only [Act.put, List.setIfInBounds_toArray, List.set_cons_zero, List.set_cons_succ]
              (refine wpAnyH_take (i := 3) (oi := { dst := some 40, op := Op.indexAddr 44 (Operand.tmp 38) (Operand.tmp 39), type := 0, pos := "outright.go:145", after := #[{ on := 1, ground := Ground.data }, { on := 2, ground := Ground.data }], guard := none }) (v := ?_) rfl (by kernel_rfl) (by kernel_rfl) (by kernel_rfl) (fun _ _ _ h => h) (Or.inl ⟨by rfl, ?_⟩) hS ?_; rotate_left; focus (intro w' s0; go_simp <;> try with_reducible rfl))
              try simp only [Act.put, List.setIfInBounds_toArray, List.set_cons_zero, List.set_cons_succ]
              (refine wpAnyH_take (i := 4) (oi := { dst := some 41, op := Op.load 3 (Operand.tmp 40), type := 3, pos := "outright.go:145", after := #[{ on := 3, ground := Ground.data }], guard := none }) (v := ?_) rfl (by kernel_rfl) (by kernel_rfl) (by kernel_rfl) (fun _ _ _ h => h) (Or.inl ⟨by rfl, ?_⟩) hS ?_; rotate_left; focus (intro w' s0; have c_k := s0 k _ HXV.out; go_simp <;> try with_reducible rfl))
              try simp only [Act.put, List.setIfInBounds_toArray, List.set_cons_zero, List.set_cons_succ]
              (refine wpAnyH_take (i := 5) (oi := { dst := some 42, op := Op.move (Operand.tmp 5), type := 3, pos := "outright.go:145", after := #[], guard := none }) (v := ?_) rfl (by kernel_rfl) (by kernel_rfl) (by kernel_rfl) (fun _ _ _ h => h) (Or.inl ⟨by rfl, ?_⟩) hS ?_; rotate_left; focus (intro w' s0; go_simp <;> try with_reducible rfl))
              try simp only [Act.put, List.setIfInBounds_toArray, List.set_cons_zero, List.set_cons_succ]
              (refine wpAnyH_take (i := 6) (oi := { dst := some 43, op := Op.build 31 #[(0, Operand.const (Value.int IntKind.i64 1)), (1, Operand.tmp 41), (2, Operand.tmp 42)], type := 31, pos := "outright.go:145", after := #[{ on := 4, ground := Ground.data }, { on := 5, ground := Ground.data }], guard := none }) (v := ?_) rfl (by kernel_rfl) (by kernel_rfl) (by kernel_rfl) (fun _ _ _ h => h) (Or.inl ⟨by rfl, ?_⟩) hS ?_; rotate_left; focus (intro w' s0; go_simp <;> try with_reducible rfl))
              try simp only [Act.put, List.setIfInBounds_toArray, List.set_cons_zero, List.set_cons_succ]
              (refine wpAnyH_take (i := 7) (oi := { dst := some 44, op := Op.move (Operand.tmp 1), type := 44, pos := "outright.go:145", after := #[], guard := none }) (v := ?_) rfl (by kernel_rfl) (by kernel_rfl) (by kernel_rfl) (fun _ _ _ h => h) (Or.inl ⟨by rfl, ?_⟩) hS ?_; rotate_left; focus (intro w' s0; go_simp <;> try with_reducible rfl))
              try simp only [Act.put, List.setIfInBounds_toArray, List.set_cons_zero, List.set_cons_succ]
              (refine wpAnyH_take (i := 8) (oi := { dst := some 45, op := Op.move (Operand.tmp 4), type := 3, pos := "outright.go:145", after := #[], guard := none }) (v := ?_) rfl (by kernel_rfl) (by kernel_rfl) (by kernel_rfl) (fun _ _ _ h => h) (Or.inl ⟨by rfl, ?_⟩) hS ?_; rotate_left; focus (intro w' s0; go_simp <;> try with_reducible rfl))
              try simp only [Act.put, List.setIfInBounds_toArray, List.set_cons_zero, List.set_cons_succ]
              (refine wpAnyH_take (i := 9) (oi := { dst := some 46, op := Op.indexAddr 44 (Operand.tmp 44) (Operand.tmp 45), type := 0, pos := "outright.go:145", after := #[{ on := 7, ground := Ground.data }, { on := 8, ground := Ground.data }], guard := none }) (v := ?_) rfl (by kernel_rfl) (by kernel_rfl) (by kernel_rfl) (fun _ _ _ h => h) (Or.inl ⟨by rfl, ?_⟩) hS ?_; rotate_left; focus (intro w' s0; go_simp <;> try with_reducible rfl))
              try simp only [Act.put, List.setIfInBounds_toArray, List.set_cons_zero, List.set_cons_succ]
              (refine wpAnyH_take (i := 10) (oi := { dst := some 47, op := Op.load 3 (Operand.tmp 46), type := 3, pos := "outright.go:145", after := #[{ on := 9, ground := Ground.data }], guard := none }) (v := ?_) rfl (by kernel_rfl) (by kernel_rfl) (by kernel_rfl) (fun _ _ _ h => h) (Or.inl ⟨by rfl, ?_⟩) hS ?_; rotate_left; focus (intro w' s0; have c_k := s0 k _ HXV.out; go_simp <;> try with_reducible rfl))
              try simp only [Act.put, List.setIfInBounds_toArray, List.set_cons_zero, List.set_cons_succ]
              (refine wpAnyH_take (i := 11) (oi := { dst := some 48, op := Op.move (Operand.tmp 5), type := 3, pos := "outright.go:145", after := #[], guard := none }) (v := ?_) rfl (by kernel_rfl) (by kernel_rfl) (by kernel_rfl) (fun _ _ _ h => h) (Or.inl ⟨by rfl, ?_⟩) hS ?_; rotate_left; focus (intro w' s0; go_simp <;> try with_reducible rfl))
              try simp only [Act.put, List.setIfInBounds_toArray, List.set_cons_zero, List.set_cons_succ]
              (refine wpAnyH_take (i := 12) (oi := { dst := some 49, op := Op.move (Operand.tmp 4), type := 3, pos := "outright.go:145", after := #[], guard := none }) (v := ?_) rfl (by kernel_rfl) (by kernel_rfl) (by kernel_rfl) (fun _ _ _ h => h) (Or.inl ⟨by rfl, ?_⟩) hS ?_; rotate_left; focus (intro w' s0; go_simp <;> try with_reducible rfl))
              try simp only [Act.put, List.setIfInBounds_toArray, List.set_cons_zero, List.set_cons_succ]
              (refine wpAnyH_take (i := 13) (oi := { dst := some 50, op := Op.convert 3 28 (Operand.tmp 49), type := 28, pos := "outright.go:145", after := #[{ on := 12, ground := Ground.data }], guard := none }) (v := ?_) rfl (by kernel_rfl) (by kernel_rfl) (by kernel_rfl) (fun _ _ _ h => h) (Or.inl ⟨by rfl, ?_⟩) hS ?_; rotate_left; focus (intro w' s0; go_simp <;> try with_reducible rfl))
              try simp only [Act.put, List.setIfInBounds_toArray, List.set_cons_zero, List.set_cons_succ]
              (refine wpAnyH_take (i := 14) (oi := { dst := some 51, op := Op.binOp BinOp.add 28 (Operand.const (Value.int IntKind.u64 18446744069414584326)) (Operand.tmp 50) 28, type := 28, pos := "outright.go:145", after := #[{ on := 13, ground := Ground.data }], guard := none }) (v := ?_) rfl (by kernel_rfl) (by kernel_rfl) (by kernel_rfl) (fun _ _ _ h => h) (Or.inl ⟨by rfl, ?_⟩) hS ?_; rotate_left; focus (intro w' s0; go_simp <;> try with_reducible rfl))
              try simp only [Act.put, List.setIfInBounds_toArray, List.set_cons_zero, List.set_cons_succ]
              (refine wpAnyH_take (i := 15) (oi := { dst := some 52, op := Op.build 31 #[(0, Operand.const (Value.int IntKind.i64 2)), (1, Operand.tmp 47), (2, Operand.tmp 48), (3, Operand.tmp 51)], type := 31, pos := "outright.go:145", after := #[{ on := 10, ground := Ground.data }, { on := 11, ground := Ground.data }, { on := 14, ground := Ground.data }], guard := none }) (v := ?_) rfl (by kernel_rfl) (by kernel_rfl) (by kernel_rfl) (fun _ _ _ h => h) (Or.inl ⟨by rfl, ?_⟩) hS ?_; rotate_left; focus (intro w' s0; go_simp <;> try with_reducible rfl))
              try simp only [Act.put, List.setIfInBounds_toArray, List.set_cons_zero, List.set_cons_succ]
              (refine wpAnyH_take (i := 16) (oi := { dst := some 53, op := Op.move (Operand.tmp 4), type := 3, pos := "outright.go:145", after := #[], guard := none }) (v := ?_) rfl (by kernel_rfl) (by kernel_rfl) (by kernel_rfl) (fun _ _ _ h => h) (Or.inl ⟨by rfl, ?_⟩) hS ?_; rotate_left; focus (intro w' s0; go_simp <;> try with_reducible rfl))
              try simp only [Act.put, List.setIfInBounds_toArray, List.set_cons_zero, List.set_cons_succ]
              (refine wpAnyH_take (i := 17) (oi := { dst := some 54, op := Op.binOp BinOp.rem 3 (Operand.tmp 53) (Operand.const (Value.int IntKind.i64 4)) 3, type := 3, pos := "outright.go:145", after := #[{ on := 16, ground := Ground.data }], guard := none }) (v := ?_) rfl (by kernel_rfl) (by kernel_rfl) (by kernel_rfl) (fun _ _ _ h => h) (Or.inl ⟨by rfl, ?_⟩) hS ?_; rotate_left; focus (intro w' s0; go_simp <;> try with_reducible rfl))
              try simp only [Act.put, List.setIfInBounds_toArray, List.set_cons_zero, List.set_cons_succ]
              (refine wpAnyH_take (i := 18) (oi := { dst := some 55, op := Op.convert 3 46 (Operand.tmp 54), type := 46, pos := "outright.go:145", after := #[{ on := 17, ground := Ground.data }], guard := none }) (v := ?_) rfl (by kernel_rfl) (by kernel_rfl) (by kernel_rfl) (fun _ _ _ h => h) (Or.inl ⟨by rfl, ?_⟩) hS ?_; rotate_left; focus (intro w' s0; go_simp <;> try with_reducible rfl))
              try simp only [Act.put, List.setIfInBounds_toArray, List.set_cons_zero, List.set_cons_succ]
              (refine wpAnyH_take (i := 19) (oi := { dst := some 56, op := Op.binOp BinOp.shl 29 (Operand.const (Value.int IntKind.u32 252645135)) (Operand.tmp 55) 46, type := 29, pos := "outright.go:145", after := #[{ on := 18, ground := Ground.data }], guard := none }) (v := ?_) rfl (by kernel_rfl) (by kernel_rfl) (by kernel_rfl) (fun _ _ _ h => h) (Or.inl ⟨by rfl, ?_⟩) hS ?_; rotate_left; focus (intro w' s0; go_simp <;> try with_reducible rfl))
              try simp only [Act.put, List.setIfInBounds_toArray, List.set_cons_zero, List.set_cons_succ]
              (refine wpAnyH_take (i := 20) (oi := { dst := some 57, op := Op.build 31 #[(4, Operand.tmp 56)], type := 31, pos := "outright.go:145", after := #[{ on := 19, ground := Ground.data }], guard := none }) (v := ?_) rfl (by kernel_rfl) (by kernel_rfl) (by kernel_rfl) (fun _ _ _ h => h) (Or.inl ⟨by rfl, ?_⟩) hS ?_; rotate_left; focus (intro w' s0; go_simp <;> try with_reducible rfl))
              try simp only [Act.put, List.setIfInBounds_toArray, List.set_cons_zero, List.set_cons_succ]
              (refine wpAnyH_take (i := 21) (oi := { dst := some 58, op := Op.build 31 #[(0, Operand.const (Value.int IntKind.i64 3))], type := 31, pos := "outright.go:145", after := #[], guard := none }) (v := ?_) rfl (by kernel_rfl) (by kernel_rfl) (by kernel_rfl) (fun _ _ _ h => h) (Or.inl ⟨by rfl, ?_⟩) hS ?_; rotate_left; focus (intro w' s0; go_simp <;> try with_reducible rfl))
              try simp only [Act.put, List.setIfInBounds_toArray, List.set_cons_zero, List.set_cons_succ]
              refine wpAnyH_ready (rs := [22]) (by kernel_rfl) (by simp) ?_
              refine AllReadyH.cons (o := { dst := some 59, op := Op.buildSlice 22 4 #[(0, Operand.tmp 43), (1, Operand.tmp 52), (2, Operand.tmp 57), (3, Operand.tmp 58)], type := 22, pos := "outright.go:145", after := #[{ on := 6, ground := Ground.data }, { on := 15, ground := Ground.data }, { on := 20, ground := Ground.data }, { on := 21, ground := Ground.data }], guard := none }) rfl (fun K hK => ?_) AllReadyH.nil
              go_simp
              refine hK.out _ _ (hS.alloc _) (fun hS => ?_)
              clear hK K
              try simp only [Act.put, List.setIfInBounds_toArray, List.set_cons_zero, List.set_cons_succ]
              have hwA := IntKind.wrap_u64 (18446744069414584326 + IntKind.u64.wrap (k : Int))
              have hwM := IntKind.wrap_u32 (252645135 * 2 ^ min (IntKind.u64.wrap ((k : Int) % 4)).toNat 32)
              obtain ⟨A, hA1⟩ : ∃ A, IntKind.u64.wrap (18446744069414584326 + IntKind.u64.wrap (k : Int)) = A := ⟨_, rfl⟩
              obtain ⟨M, hM1⟩ : ∃ M, IntKind.u32.wrap (252645135 * 2 ^ min (IntKind.u64.wrap ((k : Int) % 4)).toNat 32) = M := ⟨_, rfl⟩
              rw [hA1] at hwA
              rw [hM1] at hwM
              have A0 : 0 ≤ A := by omega
              have A1 : A < 18446744073709551616 := by omega
              have M0 : 0 ≤ M := by omega
              have M1 : M < 4294967296 := by omega
              clear hwA hwM
              try rw [hA1] at hS
              try rw [hM1] at hS
              rw [hA1, hM1]
              clear hA1 hM1
              have hN := Lib.hid (At.new g0 (fp [⟨1, x, 4 * (j : Int), 0, 0⟩, ⟨2, x, 4 * (j : Int), A, 0⟩, ⟨0, 0, 0, 0, M⟩, ⟨3, 0, 0, 0, 0⟩]) 31)
              refine wpAnyH_ready (rs := [23]) (by kernel_rfl) (by simp) ?_
              refine AllReadyH.cons (o := { dst := some 60, op := Op.call { callee := Callee.builtin Go.Builtin.append, args := #[Operand.tmp 37, Operand.tmp 59], argTypes := #[22, 22] }, type := 22, pos := "outright.go:145", after := #[{ on := 0, ground := Ground.data }, { on := 22, ground := Ground.data }], guard := none }) rfl (fun K hK => ?_) AllReadyH.nil
              refine app_ps rfl (.tmp 37) (.tmp 59) rfl (b + 1) _ _ [⟨1, x, 4 * (j : Int), 0, 0⟩, ⟨2, x, 4 * (j : Int), A, 0⟩, ⟨0, 0, 0, 0, M⟩, ⟨3, 0, 0, 0, 0⟩] rfl (HOd.out.alloc _) ⟨wr.heap.size, 0, none⟩ 4 4 rfl (by decide) rfl (news_at (by have h := hN.out; rw [hsd] at h; exact h)) (by omega) (by simp; omega) (wr.heap.size + 1) (by simp; omega) ?_
              intro gg3 cc3 w3 hown3 hgr3 hat3 hlt3
              have HO3 := Lib.hid hown3
              have HK3 := Lib.hid ((HKd.out.alloc (by omega) _).grown hgr3 (by simp; omega) (fun i hi => by have := (HOd.out.lt i hi).1; omega))
              clear hown3 hgr3 hat3 hN hS
              refine hK.out _ _ (HA0.out.below (HK3.out.mono (Nat.le_refl _)) (by omega)) (fun hS => ?_)
              clear hK K
              try simp only [Act.put, List.setIfInBounds_toArray, List.set_cons_zero, List.set_cons_succ]
              (refine wpAnyH_take (i := 24) (oi := { dst := some 2, op := Op.assign (Operand.tmp 60), type := 22, pos := "outright.go:145", after := #[{ on := 23, ground := Ground.data }, { on := 23, ground := Ground.chain }, { on := 0, ground := Ground.phase }, { on := 1, ground := Ground.phase }, { on := 2, ground := Ground.phase }, { on := 3, ground := Ground.phase }, { on := 4, ground := Ground.phase }, { on := 5, ground := Ground.phase }, { on := 6, ground := Ground.phase }, { on := 7, ground := Ground.phase }, { on := 8, ground := Ground.phase }, { on := 9, ground := Ground.phase }, { on := 10, ground := Ground.phase }, { on := 11, ground := Ground.phase }, { on := 12, ground := Ground.phase }, { on := 13, ground := Ground.phase }, { on := 14, ground := Ground.phase }, { on := 15, ground := Ground.phase }, { on := 16, ground := Ground.phase }, { on := 17, ground := Ground.phase }, { on := 18, ground := Ground.phase }, { on := 19, ground := Ground.phase }, { on := 20, ground := Ground.phase }, { on := 21, ground := Ground.phase }, { on := 22, ground := Ground.phase }, { on := 23, ground := Ground.phase }], guard := none }) (v := ?_) rfl (by kernel_rfl) (by kernel_rfl) (by kernel_rfl) (fun _ _ _ h => h) (Or.inl ⟨by rfl, ?_⟩) hS ?_; rotate_left; focus (intro w' s0; go_simp <;> try with_reducible rfl))
              try simp only [Act.put, List.setIfInBounds_toArray, List.set_cons_zero, List.set_cons_succ]
              refine wpAnyH_done (by kernel_rfl) ?_ _
              obtain ⟨q3, hq3⟩ : ∃ q3, q2 ++ [⟨1, x, 4 * (j : Int), 0, 0⟩, ⟨2, x, 4 * (j : Int), A, 0⟩, ⟨0, 0, 0, 0, M⟩, ⟨3, 0, 0, 0, 0⟩] = q3 := ⟨_, rfl⟩
              have hl3 : q3.length = 34 + 12 * k + 4 * j + 4 := by rw [← hq3]; simp; omega
              have HR3 : Hid (∀ c ∈ q3, c.Raw) := Lib.hid (by
                rw [← hq3]
                intro c hc
                rcases List.mem_append.1 hc with hc | hc
                · exact HR.out c hc
                · simp only [List.mem_cons, List.not_mem_nil, or_false] at hc
                  rcases hc with rfl | rfl | rfl | rfl <;> exact po_raw _ _ _ _ _ (by omega) (by omega) (by omega) (by omega) (by omega) (by omega) (by omega) (by omega) (by omega) (by omega))
              rw [hq3] at HO3
              obtain ⟨g9, c9, e9, hc9, hg9, hM⟩ := cut_p HO3.out HR3.out (by omega)
              obtain ⟨L4, hL4, hR4, hD4⟩ := hM 0 34 (by omega)
              simp only [Value.slice.injEq, Option.some.injEq, Addr.mk.injEq] at e9
              obtain ⟨⟨e91, e92, e93⟩, e94, e95⟩ := e9
              subst e91 e95
              clear hM e92 e93 e94
              have HBW3 := Lib.hid (HB0.out.trans ((HK3.out.mono HB0.out.size).drew))
              have hC := fun (V : Int) v0 v1 => regs12_n 34 L4 hL4 (by decide) (some ⟨gg3, 0, none⟩) cc3 x (4 * (j : Int)) V x0 x1 (by omega) (by omega) v0 v1 w3.drew (by have h := hD4.drew; rw [Nat.zero_mul] at h; exact h) hR4 (PTb.h1 HTB HBW3)
              have HC := Lib.hid hC
              clear hC hR4 hD4 hL4
              have c_k : w3.cell? ⟨b, k, none⟩ = some (.int .i64 x) := hS k _ HXV.out
              have hcc : (34 : Int) ≤ (cc3 : Int) := by omega
              have hcc0 : (0 : Int) ≤ 34 := by decide
              clear hS
              go_upto_region 15 with fail
              refine wp_region_still_tail 11 (by kernel_rfl) (by kernel_rfl) ?_
              simp only [List.take_succ_cons, List.take_zero, List.drop_succ_cons, List.drop_zero]
              repeat (with_reducible refine wpStill_step (fun K hK => ?_); go_simp; with_reducible refine hK _ ?_; clear hK K)
              with_reducible refine wpStill_nil ?_
              change wpList _ _ _ _ _ w3.drew
              go_wp2_with (go_at_call 6; (with_reducible refine (HC.out _ (by omega) (by omega)).mono ?_); rintro e' w5 ⟨rfl, b5⟩; have HB5 := Lib.hid b5; clear b5)
              go_roundw
              case rel => exact ⟨j + 1, q3, by omega, by go_num, by omega, HR3.out, by have h := (HO3.out.below (w' := w3.drew) ⟨rfl, rfl, rfl, Nat.le_refl _, fun _ _ => rfl⟩).below HB5.out; rw [hq2] at h; exact h, HK3.out.drew.trans (HB5.out.mono (by have := HK3.out.size; exact this))⟩
              case measure => simp [intOf]; omega
            · obtain rfl : j = 3 := by omega
              obtain ⟨g9, c9, rfl, hc9, hg9, hM⟩ := cut_p HO.out HR.out (by omega)
              obtain ⟨L4, hL4, hR4, hD4⟩ := hM 0 (34 + k) (by omega)
              have hcc : ((34 : Int) + (k : Int)) ≤ (c9 : Int) := by omega
              have hcc0 : (0 : Int) ≤ (34 : Int) + (k : Int) := by omega
              have hnn : (34 + (k : Int)).toNat = 34 + k := by omega
              have h0l : L4.length ≤ 9223372036854775807 := by omega
              have HD4 := Lib.hid hD4
              have HR4 := Lib.hid hR4
              clear hM hR4 hD4
              have HD5 : Hid (RdPo wr wr.heap.size (some ⟨g9, 0, none⟩) L4) := Lib.hid (by have h := HD4.out; rw [Nat.zero_mul] at h; exact h)
              have hl4 : 34 + k ≤ 9223372036854775807 := by omega
              have hkd : wr.heap.size ≤ wr.heap.size := Nat.le_refl _
              clear HD4
              go_wp2_with (first
                | (go_at_call 4; (with_reducible refine (claims12_n _ _ L4 hL4 hl4 _ _ wr HD5.out HR4.out (PTb.h1 HTB HBW)).mono ?_); rintro e' w5 ⟨rfl, b5⟩; have HB5 := Lib.hid b5; have hs5 := b5.size; have HD6 := Lib.hid (HD5.out.below b5); clear b5)
                | (go_at_call 5; (with_reducible refine (once12_k _ _ L4 hL4 hl4 _ _ w5 wr.heap.size hs5 HD6.out HR4.out (fun O => PTb.h1 HTB (Lib.hid (HBW.out.trans ((HB5.out.alloc hs5 O).mono HBW.out.size))))).mono ?_); rintro e' w6 ⟨rfl, b6⟩; have HB6 := Lib.hid b6; clear b6))
              go_roundw
              case rel => exact ⟨k + 1, q2, by omega, by go_num, by omega, HR.out, by have h := (HO.out.below HB5.out).below HB6.out; rw [hq2] at h; exact h, HK.out.trans ((HB5.out.trans (HB6.out.mono hs5)).mono hsz4)⟩
              case measure => simp [intOf]; omega
        · obtain rfl : k = 22 := by omega
          have hq9 : q.length = 298 := by omega
          obtain ⟨g9, c9, e9, hc9, hg9, hM⟩ := cut_p HO.out HR.out (by omega)
          rw [hq9] at e9 hc9 hM
          obtain ⟨L1, hL1, hR1, hD1⟩ := hM 0 298 (by omega)
          obtain ⟨L2, hL2, hR2, hD2⟩ := hM 34 264 (by omega)
          subst e9
          have hcc : (298 : Int) ≤ (c9 : Int) := by omega
          have hcc0 : (0 : Int) ≤ 34 := by decide
          have hcc1 : (34 : Int) ≤ 298 := by decide
          have HBW := Lib.hid (HB0.out.trans (HK.out.mono HB0.out.size))
          have HD1 : Hid (RdPo wr wr.heap.size (some ⟨g9, 0, none⟩) L1) := Lib.hid hD1
          have HD2 : Hid (RdPo wr wr.heap.size (some ⟨g9, 170, none⟩) L2) := Lib.hid hD2
          have HR1 := Lib.hid hR1
          have HR2' := Lib.hid hR2
          clear hM hR1 hR2 hD1 hD2
          go_wp2_with (first
            | (go_at_call 3; (with_reducible refine (runs12_n _ L1 hL1 (by decide) _ _ wr HD1.out HR1.out (PTb.h1 HTB HBW)).mono ?_); rintro e' w5 ⟨rfl, b5⟩; have hs5 := b5.size; have HD6 : Hid (RdPo w5 w5.heap.size (some ⟨g9, 170, none⟩) L2) := Lib.hid (fun h0 => by obtain ⟨b0, o0, e0, hb0, hr0⟩ := HD2.out.below b5 h0; exact ⟨b0, o0, e0, Nat.lt_of_lt_of_le hb0 hs5, hr0⟩); have HB5 := Lib.hid (HBW.out.trans (b5.mono HBW.out.size)); clear b5)
            | (go_at_call 3; (with_reducible refine (runs12_n _ L2 hL2 (by decide) _ _ w5 HD6.out HR2'.out (PTb.h1 HTB HB5)).mono ?_); rintro e' w6 ⟨rfl, b6⟩; have HB6 := Lib.hid (HB5.out.trans (b6.mono HB5.out.size)); clear b6)
            | (go_at_call 8; (with_reducible refine (works12_w w6 (PTb.h1 HTB HB6)).mono ?_); rintro e' w7 ⟨rfl, b7⟩; have HB7 := Lib.hid (HB6.out.trans (b7.mono HB6.out.size)); clear b7))
          go_ret
          exact ⟨rfl, HB7.out⟩
end Go.Proofs.Ytamhhdhoeghafaa
