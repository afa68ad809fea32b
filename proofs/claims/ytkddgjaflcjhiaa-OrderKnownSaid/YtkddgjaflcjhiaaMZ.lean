/-
  What OrderKnown makes: roots, their bounds, types and permissions, as capabilities of lists. No condition.
  OrderKnown: the chapter's examples, types about their ends, chains of capabilities each of which is opened by the one ahead: the walk of the law. No condition.
-/
import Derived.Test.YtkddgjaflcjhiaaMM
import Derived.Test.YtkddgjaflcjhiaaOWk
import Derived.Test.YtkddgjaflcjhiaaOHas
import Derived.Test.YtkddgjaflcjhiaaMT
import Derived.Test.YtkddgjaflcjhiaaOrderAgain
import Derived.Test.YtkddgjaflcjhiaaMO
import Derived.Test.YtkddgjaflcjhiaaMR
namespace Go.Proofs.Ytkddgjaflcjhiaa
open Go.ChangeShapes Go.WideShapes Go.ChangeAt Go.RowKit Go.Maps
set_option linter.unusedVariables false
set_option linter.unusedSimpArgs false

theorem RC.bound {c : Cp} (h : RC c) {n : Int} (n0 : 0 ≤ n) (n1 : n < 18446744073709551616) (x : Bool) : RC (boundK c n x) := ⟨h.p0, h.p1, h.y0, h.y1, h.o0, h.o1, lay_fld c.a n h.f.a0 h.f.a1 n0 n1⟩
theorem RC.typed {c : Cp} (h : RC c) {k : Int} (k0 : 0 ≤ k) (k1 : k < 262144) : RC { c with ty := k } := ⟨h.p0, h.p1, k0, k1, h.o0, h.o1, h.f⟩
theorem RC.perms {c : Cp} (h : RC c) {k : Int} (k0 : 0 ≤ k) (k1 : k < 65536) : RC { c with pe := k } := ⟨k0, k1, h.y0, h.y1, h.o0, h.o1, h.f⟩
def kRm (mo a : Int) : Cp := ⟨true, 65535, 262143, mdV mo, 52, 0, 0, true, a⟩
theorem rc_rm (mo a : Int) (a0 : 0 ≤ a) (a1 : a < 18446744073709551616) : RC (kRm mo a) := ⟨by show (0:Int) ≤ 65535; decide, by show (65535:Int) < 65536; decide, by show (0:Int) ≤ 262143; decide, by show (262143:Int) < 262144; decide, (mdV_bd mo).1, (mdV_bd mo).2, ⟨by show (0:Int) ≤ 52; decide, by show (52:Int) ≤ 52; decide, by show (0:Int) ≤ 0; decide, by show (0:Int) < 16384; decide, by show (0:Int) ≤ 0; decide, by show (0:Int) < 4096; decide, a0, a1⟩⟩
def kNum (a : Int) : Cp := ⟨false, 0, 262143, 0, 52, 0, 0, true, a⟩
theorem rc_num (a : Int) (a0 : 0 ≤ a) (a1 : a < 18446744073709551616) : RC (kNum a) := ⟨by show (0:Int) ≤ 0; decide, by show (0:Int) < 65536; decide, by show (0:Int) ≤ 262143; decide, by show (262143:Int) < 262144; decide, by show (0:Int) ≤ 0; decide, by show (0:Int) < 2; decide, ⟨by show (0:Int) ≤ 52; decide, by show (52:Int) ≤ 52; decide, by show (0:Int) ≤ 0; decide, by show (0:Int) < 16384; decide, by show (0:Int) ≤ 0; decide, by show (0:Int) < 4096; decide, a0, a1⟩⟩
def typesL : List Int := [0, 1, 5, 262135, 262136, 262142, 262143]
def permsL : List Int := [65535, 257, 128, 2]
theorem types_bd {i : Nat} {t : Int} (h : typesL[i]? = some t) : 0 ≤ t ∧ t < 262144 := by
  have key : ∀ t ∈ typesL, 0 ≤ t ∧ t < 262144 := by decide
  exact key t (List.mem_of_getElem? h)
theorem perms_bd {i : Nat} {t : Int} (h : permsL[i]? = some t) : 0 ≤ t ∧ t < 65536 := by
  have key : ∀ t ∈ permsL, 0 ≤ t ∧ t < 65536 := by decide
  exact key t (List.mem_of_getElem? h)
theorem At.bel {B n : Nat} {vs : List Value} {w w' : World} (a : At B vs w) (k : Below n w w') (hB : B < n) : At B vs w' := a.below k hB
theorem Fr.of_bl {a b : World} (k : Below a.heap.size a b) (S : Nat → Prop) : Fr a b S := ⟨k.os, k.tape, k.output, k.size, fun i hi _ => k.block i hi⟩
def kc (n : Int) : Cp := { boundK (kRm 0 (n + 1)) 1 true with ty := n }
def LK (m : Nat) : List Cp := (List.range m).map fun j : Nat => kc (9 - (j : Int))
theorem LK_succ (m : Nat) : LK (m + 1) = LK m ++ [kc (9 - (m : Int))] := by unfold LK; rw [List.range_succ, List.map_append]; rfl
theorem LK_len (m : Nat) : (LK m).length = m := by simp [LK]
def kLast : Cp := boundK (kRm 0 0) 1 true
theorem rc_kc (n : Int) (n0 : 0 ≤ n) (n1 : n ≤ 9) : RC (kc n) := ((rc_rm 0 (n + 1) (by omega) (by omega)).bound (by omega) (by omega) true).typed n0 (by omega)
theorem rc_lk : ∀ c ∈ LK 10, RC c := fun c hc => by
  obtain ⟨j, hj, rfl⟩ := List.mem_map.1 hc
  have := List.mem_range.1 hj
  exact rc_kc _ (by omega) (by omega)
theorem rc_last : RC kLast := (rc_rm 0 0 (by omega) (by omega)).bound (by omega) (by omega) true
theorem rc_11 : ∀ c ∈ LK 10 ++ [kLast], RC c := fun c hc => by
  rcases List.mem_append.1 hc with h | h
  · exact rc_lk c h
  · simp at h; rw [h]; exact rc_last
set_option maxRecDepth 100000 in
theorem clo_11 : (clo (LK 10 ++ [kLast])).length = 21 := by decide +kernel
set_option maxRecDepth 100000 in
theorem clo_10 : (clo (LK 10)).length = 10 := by decide +kernel
end Go.Proofs.Ytkddgjaflcjhiaa
namespace Go.Proofs.Ytkddgjaflcjhiaa
open Go.ChangeShapes Go.WideShapes Go.ChangeAt Go.RowKit Go.Maps
set_option linter.unusedVariables false
set_option linter.unusedSimpArgs false

set_option maxHeartbeats 32000000 in
set_option maxRecDepth 100000 in
theorem known_walk (w : World) : Calls Try.prog 3 #[] w fun e w' => e = .returned (.bool true) ∧ Below w.heap.size w w' := by
  go_enter Try.func3, Try.ntmps3
  go_upto_region 2 with fail
  have TY : ∀ (j : Nat) (c : Int), typesL[j]? = some c → (w.alloc (.cells #[(), .int .i64 1, .int .i64 5, .int .i64 262135, .int .i64 262136, .int .i64 262142, .int .i64 262143] 3)).cell? ⟨w.heap.size, j, none⟩ = some (.int .i64 c) := fun j c hc => At.new w (typesL.map (Value.int .i64)) _ j _ (by rw [List.getElem?_map, hc]; rfl)
  have HW : Below w.heap.size w (w.alloc (.cells #[(), .int .i64 1, .int .i64 5, .int .i64 262135, .int .i64 262136, .int .i64 262142, .int .i64 262143] 3)) := (Below.refl _ _).alloc (Nat.le_refl _) _
  have hw0 : w.heap.size < (w.alloc (.cells #[(), .int .i64 1, .int .i64 5, .int .i64 262135, .int .i64 262136, .int .i64 262142, .int .i64 262143] 3)).heap.size := by simp
  generalize hx : (w.alloc (.cells #[(), .int .i64 1, .int .i64 5, .int .i64 262135, .int .i64 262136, .int .i64 262142, .int .i64 262143] 3)) = w0 at TY HW hw0 ⊢
  clear hx
  have HTY := Lib.hid TY
  have HW0 := Lib.hid HW
  clear TY HW
  go_wp2
  go_loopw [2] (fun i wr => ∃ k : Nat, k ≤ 7 ∧ i = .int .i64 k ∧ Below w0.heap.size w0 wr) (fun i _ => 7 - (intOf i).toNat)
  case atStart => exact ⟨0, Nat.zero_le _, rfl, Below.refl _ _⟩
  case round =>
    obtain ⟨i, hi, rfl, hbi⟩ := hrel
    have HBI := Lib.hid hbi
    clear hbi
    by_cases hil : i < 7
    · have i7 : (i : Int) < 7 := by omega
      go_wp2
      go_loopw [3] (fun j wr => ∃ k : Nat, k ≤ 7 ∧ j = .int .i64 k ∧ Below w0.heap.size w0 wr) (fun j _ => 7 - (intOf j).toNat)
      case atStart => exact ⟨0, Nat.zero_le _, rfl, HBI.out⟩
      case round =>
        obtain ⟨k, hk, rfl, hbk⟩ := hrel
        have HBK := Lib.hid hbk
        clear hbk
        by_cases hkl : k < 7
        · have k7 : (k : Int) < 7 := by omega
          go_wp2
          go_loopw [4] (fun j wr => ∃ k : Nat, k ≤ 4 ∧ j = .int .i64 k ∧ Below w0.heap.size w0 wr) (fun j _ => 4 - (intOf j).toNat)
          case atStart => exact ⟨0, Nat.zero_le _, rfl, HBK.out⟩
          case round =>
            obtain ⟨p, hp, rfl, hbp⟩ := hrel
            have HB := Lib.hid hbp
            clear hbp
            by_cases hpl : p < 4
            · clear HBI HBK
              obtain ⟨ti, hti⟩ : ∃ ti, typesL[i]? = some ti := ⟨_, List.getElem?_eq_getElem (by simpa [typesL] using hil)⟩
              obtain ⟨tj, htj⟩ : ∃ tj, typesL[k]? = some tj := ⟨_, List.getElem?_eq_getElem (by simpa [typesL] using hkl)⟩
              obtain ⟨pv, hpv⟩ : ∃ pv, permsL[p]? = some pv := ⟨_, List.getElem?_eq_getElem (by simpa [permsL] using hpl)⟩
              have bi := types_bd hti
              have bk := types_bd htj
              have bp := perms_bd hpv
              have HTI : Hid (∀ v : World, Below w0.heap.size w0 v → v.cell? ⟨w.heap.size, i, none⟩ = some (.int .i64 ti)) := Lib.hid (fun v hv => (hv.cell (p := ⟨w.heap.size, i, none⟩) hw0).trans (HTY.out i ti hti))
              have HTK : Hid (∀ v : World, Below w0.heap.size w0 v → v.cell? ⟨w.heap.size, k, none⟩ = some (.int .i64 tj)) := Lib.hid (fun v hv => (hv.cell (p := ⟨w.heap.size, k, none⟩) hw0).trans (HTY.out k tj htj))
              have hpv' : ([.int .i64 65535, .int .i64 257, .int .i64 128, .int .i64 2] : List Value)[p]? = some (.int .i64 pv) := by
                rw [show ([.int .i64 65535, .int .i64 257, .int .i64 128, .int .i64 2] : List Value) = permsL.map (Value.int .i64) from rfl, List.getElem?_map, hpv]; rfl
              have hpg : ([.int .i64 65535, .int .i64 257, .int .i64 128, .int .i64 2] : List Value)[p]'(by simpa using hpl) = .int .i64 pv := by
                rw [List.getElem?_eq_getElem (by simpa using hpl)] at hpv'; exact Option.some.inj hpv'
              obtain ⟨m, e2⟩ : ∃ m, ((p : Int)).tmod 2 = m := ⟨_, rfl⟩
              obtain ⟨a, ha⟩ : ∃ a, kRm 0 tj = a := ⟨_, rfl⟩
              obtain ⟨r, hr⟩ : ∃ r, kRm m 4096 = r := ⟨_, rfl⟩
              have hra : RC a := by subst ha; exact rc_rm 0 tj (by omega) (by omega)
              have hrr : RC r := by subst hr; exact rc_rm m 4096 (by omega) (by omega)
              obtain ⟨b0, hb0⟩ : ∃ b, boundK r 64 true = b := ⟨_, rfl⟩
              have hrb0 : RC b0 := by subst hb0; exact hrr.bound (by omega) (by omega) true
              obtain ⟨b, hb⟩ : ∃ b : Cp, { b0 with ty := ti } = b := ⟨_, rfl⟩
              have hrb : RC b := by subst hb; exact hrb0.typed (by omega) (by omega)
              obtain ⟨c, hc⟩ : ∃ c : Cp, { a with pe := pv } = c := ⟨_, rfl⟩
              have hrc : RC c := by subst hc; exact hra.perms (by omega) (by omega)
              obtain ⟨d, hd⟩ : ∃ d, boundK c 1 true = d := ⟨_, rfl⟩
              have hrd : RC d := by subst hd; exact hrc.bound (by omega) (by omega) true
              obtain ⟨e, he⟩ : ∃ e : Cp, { b with ty := tj } = e := ⟨_, rfl⟩
              have hre : RC e := by subst he; exact hrb.typed (by omega) (by omega)
              obtain ⟨nm, hnm⟩ : ∃ c, kNum 9 = c := ⟨_, rfl⟩
              have hrn : RC nm := by subst hnm; exact rc_num 9 (by omega) (by omega)
              have HRA : Hid (∀ v : World, Calls Try.prog 4 #[(), .int .u64 tj] v fun e w' => e = .returned (.agg #[a.tg, a.pe, a.ty, a.mo, a.e, a.b, a.t, a.g, .int .u64 a.a]) ∧ Below v.heap.size v w') := Lib.hid (fun v => by subst ha; exact kb (root_m 0 tj v))
              have HRB : Hid (∀ v : World, Calls Try.prog 4 #[m, .int .u64 4096] v fun e w' => e = .returned (.agg #[r.tg, r.pe, r.ty, r.mo, r.e, r.b, r.t, r.g, .int .u64 r.a]) ∧ Below v.heap.size v w') := Lib.hid (fun v => by subst hr; exact kb (root_m m 4096 v))
              have HBB : Hid (∀ v : World, Calls Try.prog 5 #[.agg #[r.tg, r.pe, r.ty, r.mo, r.e, r.b, r.t, r.g, .int .u64 r.a], .int .u64 64, .bool true] v fun e w' => e = .returned (.agg #[b0.tg, b0.pe, b0.ty, b0.mo, b0.e, b0.b, b0.t, b0.g, .int .u64 b0.a]) ∧ Below v.heap.size v w') := Lib.hid (fun v => by rw [← hb0]; exact boundk_w r 64 true hrr (by omega) (by omega) v)
              have HBD : Hid (∀ v : World, Calls Try.prog 5 #[.agg #[c.tg, c.pe, c.ty, c.mo, c.e, c.b, c.t, c.g, .int .u64 c.a], .int .u64 1, .bool true] v fun e w' => e = .returned (.agg #[d.tg, d.pe, d.ty, d.mo, d.e, d.b, d.t, d.g, .int .u64 d.a]) ∧ Below v.heap.size v w') := Lib.hid (fun v => by rw [← hd]; exact boundk_w c 1 true hrc (by omega) (by omega) v)
              have HNM : Hid (∀ v : World, Calls Try.prog 6 #[.int .u64 9] v fun e w' => e = .returned (.agg #[nm.tg, nm.pe, nm.ty, nm.mo, nm.e, nm.b, nm.t, nm.g, .int .u64 nm.a]) ∧ Below v.heap.size v w') := Lib.hid (fun v => by subst hnm; exact kb (number_w 9 v))
              have ra := hra.raw
              have rb := hrb.raw
              have rc := hrc.raw
              have rd := hrd.raw
              have re := hre.raw
              have rn := hrn.raw
              have HT1 : Hid (∀ (v : World) (g : Nat), Rd v v.heap.size (some ⟨g, 0, none⟩) [b, d, nm] → Calls Try.prog 7 #[.slice (some ⟨g, 0, none⟩) 3 3, .agg #[b.tg, b.pe, b.ty, b.mo, b.e, b.b, b.t, b.g, .int .u64 b.a], .agg #[d.tg, d.pe, d.ty, d.mo, d.e, d.b, d.t, d.g, .int .u64 d.a]] v fun e' w' => e' = .returned (.bool true) ∧ Below v.heap.size v w') := Lib.hid (fun v g h => tells_all [b, d, nm] _ _ b d v h (by intro x hx; simp at hx; rcases hx with rfl | rfl | rfl <;> assumption) (by simp) rb rd)
              have HT2 : Hid (∀ (v : World) (g : Nat), Rd v v.heap.size (some ⟨g, 0, none⟩) [b, d, nm] → Calls Try.prog 7 #[.slice (some ⟨g, 0, none⟩) 3 3, .agg #[e.tg, e.pe, e.ty, e.mo, e.e, e.b, e.t, e.g, .int .u64 e.a], .agg #[c.tg, c.pe, c.ty, c.mo, c.e, c.b, c.t, c.g, .int .u64 c.a]] v fun e' w' => e' = .returned (.bool true) ∧ Below v.heap.size v w') := Lib.hid (fun v g h => tells_all [b, d, nm] _ _ e c v h (by intro x hx; simp at hx; rcases hx with rfl | rfl | rfl <;> assumption) (by simp) re rc)
              have HT3 : Hid (∀ (v : World) (g : Nat), Rd v v.heap.size (some ⟨g, 0, none⟩) [e, a] → Calls Try.prog 7 #[.slice (some ⟨g, 0, none⟩) 2 2, .agg #[b.tg, b.pe, b.ty, b.mo, b.e, b.b, b.t, b.g, .int .u64 b.a], .agg #[e.tg, e.pe, e.ty, e.mo, e.e, e.b, e.t, e.g, .int .u64 e.a]] v fun e' w' => e' = .returned (.bool true) ∧ Below v.heap.size v w') := Lib.hid (fun v g h => tells_all [e, a] _ _ b e v h (by intro x hx; simp at hx; rcases hx with rfl | rfl <;> assumption) (by simp) rb re)
              have HT4 : Hid (∀ (v : World) (g : Nat), Rd v v.heap.size (some ⟨g, 0, none⟩) [b, d, nm] → Calls Try.prog 8 #[.slice (some ⟨g, 0, none⟩) 3 3, .agg #[b.tg, b.pe, b.ty, b.mo, b.e, b.b, b.t, b.g, .int .u64 b.a], .agg #[d.tg, d.pe, d.ty, d.mo, d.e, d.b, d.t, d.g, .int .u64 d.a], .agg #[e.tg, e.pe, e.ty, e.mo, e.e, e.b, e.t, e.g, .int .u64 e.a], .int .u64 4112, .int .u64 3, .int .i64 77] v fun e' w' => e' = .returned (.bool true) ∧ Below v.heap.size v w') := Lib.hid (fun v g h => closed_all [b, d, nm] _ _ b d e 4112 3 77 v h (by intro x hx; simp at hx; rcases hx with rfl | rfl | rfl <;> assumption) (by simp) rb rd re (by omega) (by omega) (by omega) (by omega))
              have HT5 : Hid (∀ (v : World) (g : Nat), Rd v v.heap.size (some ⟨g, 0, none⟩) [b, a] → Calls Try.prog 8 #[.slice (some ⟨g, 0, none⟩) 2 2, .agg #[b.tg, b.pe, b.ty, b.mo, b.e, b.b, b.t, b.g, .int .u64 b.a], .agg #[a.tg, a.pe, a.ty, a.mo, a.e, a.b, a.t, a.g, .int .u64 a.a], .agg #[e.tg, e.pe, e.ty, e.mo, e.e, e.b, e.t, e.g, .int .u64 e.a], .int .u64 4112, .int .u64 3, .int .i64 65534] v fun e' w' => e' = .returned (.bool true) ∧ Below v.heap.size v w') := Lib.hid (fun v g h => closed_all [b, a] _ _ b a e 4112 3 65534 v h (by intro x hx; simp at hx; rcases hx with rfl | rfl <;> assumption) (by simp) rb ra re (by omega) (by omega) (by omega) (by omega))
              have HT6 : Hid (∀ (v : World) (g : Nat), Rd v v.heap.size (some ⟨g, 0, none⟩) [b, d, nm] → Calls Try.prog 9 #[.slice (some ⟨g, 0, none⟩) 3 3, .agg #[d.tg, d.pe, d.ty, d.mo, d.e, d.b, d.t, d.g, .int .u64 d.a], .agg #[e.tg, e.pe, e.ty, e.mo, e.e, e.b, e.t, e.g, .int .u64 e.a]] v fun e' w' => e' = .returned (.bool true) ∧ Below v.heap.size v w') := Lib.hid (fun v g h => orderAgain.again_all [b, d, nm] _ _ d e v h (by intro x hx; simp at hx; rcases hx with rfl | rfl | rfl <;> assumption) (by simp) rd re)
              have HT7 : Hid (∀ (v : World) (g : Nat), Rd v v.heap.size (some ⟨g, 0, none⟩) [b, d, nm] → Calls Try.prog 9 #[.slice (some ⟨g, 0, none⟩) 3 3, .agg #[a.tg, a.pe, a.ty, a.mo, a.e, a.b, a.t, a.g, .int .u64 a.a], .agg #[e.tg, e.pe, e.ty, e.mo, e.e, e.b, e.t, e.g, .int .u64 e.a]] v fun e' w' => e' = .returned (.bool true) ∧ Below v.heap.size v w') := Lib.hid (fun v g h => orderAgain.again_all [b, d, nm] _ _ a e v h (by intro x hx; simp at hx; rcases hx with rfl | rfl | rfl <;> assumption) (by simp) ra re)
              have HT8 : Hid (∀ (v : World), Calls Try.prog 10 #[.agg #[e.tg, e.pe, e.ty, e.mo, e.e, e.b, e.t, e.g, .int .u64 e.a], .agg #[b.tg, b.pe, b.ty, b.mo, b.e, b.b, b.t, b.g, .int .u64 b.a], .agg #[a.tg, a.pe, a.ty, a.mo, a.e, a.b, a.t, a.g, .int .u64 a.a], .int .u64 4097] v fun e' w' => e' = .returned (.bool true) ∧ Below v.heap.size v w') := Lib.hid (fun v  => orderOrders.orders_all e b a 4097 re rb ra (by omega) (by omega) v)
              have HT9 : Hid (∀ (v : World), Calls Try.prog 11 #[.agg #[b.tg, b.pe, b.ty, b.mo, b.e, b.b, b.t, b.g, .int .u64 b.a], .int .u64 3] v fun e' w' => e' = .returned (.bool true) ∧ Below v.heap.size v w') := Lib.hid (fun v  => orderRoots.roots_all b 3 rb (by omega) (by omega) v)
              have HTA : Hid (∀ (v : World), Calls Try.prog 11 #[.agg #[d.tg, d.pe, d.ty, d.mo, d.e, d.b, d.t, d.g, .int .u64 d.a], .int .u64 3] v fun e' w' => e' = .returned (.bool true) ∧ Below v.heap.size v w') := Lib.hid (fun v  => orderRoots.roots_all d 3 rd (by omega) (by omega) v)
              clear ra rb rc rd re rn hra hrr hrb0 hrb hrc hrd hre hrn ha hr hb0 hd hnm bp hpv
              have EB := Lib.hid hb
              have EC := Lib.hid hc
              have EE := Lib.hid he
              clear hb hc he hti htj
              have lr := HB.out.size
              have ck := HTK.out wr HB.out
              go_upto_region 12 with (first
                | (go_at_call 4; (with_reducible refine (HRA.out _).mono ?_); rintro e' v1 ⟨rfl, hb⟩; have HB1 := Lib.hid (HB.out.trans (hb.mono HB.out.size)); have lv1 := hb.size; clear hb))
              clear ck
              have A1 := At.new v1 [a.tg, a.pe, a.ty, a.mo, a.e, a.b, a.t, a.g, .int .u64 a.a] 25
              have N1 := (HB1.out.alloc (Nat.le_trans HB.out.size lv1) (.cells #[a.tg, a.pe, a.ty, a.mo, a.e, a.b, a.t, a.g, .int .u64 a.a] 25))
              have n1 : v1.heap.size < (v1.alloc (.cells #[a.tg, a.pe, a.ty, a.mo, a.e, a.b, a.t, a.g, .int .u64 a.a] 25)).heap.size := by simp
              generalize hx : v1.alloc (.cells #[a.tg, a.pe, a.ty, a.mo, a.e, a.b, a.t, a.g, .int .u64 a.a] 25) = x1 at A1 N1 n1 ⊢
              clear hx HB1
              have HN1 := Lib.hid N1
              have HA1 := Lib.hid A1
              clear A1 N1
              go_upto_region 14 with (first
                | (go_at_call 4; (with_reducible refine (HRB.out _).mono ?_); rintro e' v2 ⟨rfl, hb⟩; have HB2 := Lib.hid hb; have lv2 := hb.size; clear hb)
                | (go_at_call 5; (with_reducible refine (HBB.out _).mono ?_); rintro e' v3 ⟨rfl, hb⟩; have HB3 := Lib.hid (HB2.out.trans (hb.mono lv2)); have lv3 := hb.size; have ci := HTI.out v3 (HN1.out.trans (HB3.out.mono HN1.out.size)); have z0 : w.heap.size < v3.heap.size := (by omega); have z1 : ¬ w.heap.size = v3.heap.size := (by omega); have z2 : ¬ v3.heap.size = w.heap.size := (by omega); clear hb))
              clear ci z0 z1 z2
              have A2 := ((HA1.out.bel HB3.out n1).alloc (.cells #[b0.tg, b0.pe, ti, b0.mo, b0.e, b0.b, b0.t, b0.g, .int .u64 b0.a] 25))
              have B2 : At v3.heap.size [b.tg, b.pe, b.ty, b.mo, b.e, b.b, b.t, b.g, .int .u64 b.a] (v3.alloc (.cells #[b0.tg, b0.pe, ti, b0.mo, b0.e, b0.b, b0.t, b0.g, .int .u64 b0.a] 25)) := by
                have h := EB.out; subst h; exact At.new v3 [b0.tg, b0.pe, ti, b0.mo, b0.e, b0.b, b0.t, b0.g, .int .u64 b0.a] 25
              have N2 := ((HN1.out.trans (HB3.out.mono HN1.out.size)).alloc (Nat.le_trans HN1.out.size (Nat.le_trans lv2 lv3)) (.cells #[b0.tg, b0.pe, ti, b0.mo, b0.e, b0.b, b0.t, b0.g, .int .u64 b0.a] 25))
              have n2 : v3.heap.size < (v3.alloc (.cells #[b0.tg, b0.pe, ti, b0.mo, b0.e, b0.b, b0.t, b0.g, .int .u64 b0.a] 25)).heap.size := by simp
              generalize hx : v3.alloc (.cells #[b0.tg, b0.pe, ti, b0.mo, b0.e, b0.b, b0.t, b0.g, .int .u64 b0.a] 25) = x2 at A2 B2 N2 n2 ⊢
              clear hx HB2 HB3 HA1 HN1
              obtain ⟨_, _, _, _, _, _, _, _, _⟩ := A2.out9
              have HA2 := Lib.hid A2
              have HB2' := Lib.hid B2
              have HN2 := Lib.hid N2
              clear A2 B2 N2
              go_upto_region 16 with fail
              have C3 : At x2.heap.size [c.tg, c.pe, c.ty, c.mo, c.e, c.b, c.t, c.g, .int .u64 c.a] ((x2.alloc (.cells #[a.tg, pv, a.ty, a.mo, a.e, a.b, a.t, a.g, .int .u64 a.a] 25)).alloc (.cells #[.int .i64 65535, .int .i64 257, .int .i64 128, .int .i64 2] 3)) := by
                have h := EC.out; subst h; exact (At.new x2 [a.tg, pv, a.ty, a.mo, a.e, a.b, a.t, a.g, .int .u64 a.a] 25).alloc _
              have A3 := (HA2.out.alloc (.cells #[a.tg, pv, a.ty, a.mo, a.e, a.b, a.t, a.g, .int .u64 a.a] 25)).alloc (.cells #[.int .i64 65535, .int .i64 257, .int .i64 128, .int .i64 2] 3)
              have B3 := (HB2'.out.alloc (.cells #[a.tg, pv, a.ty, a.mo, a.e, a.b, a.t, a.g, .int .u64 a.a] 25)).alloc (.cells #[.int .i64 65535, .int .i64 257, .int .i64 128, .int .i64 2] 3)
              have N3 := (HN2.out.alloc HN2.out.size (.cells #[a.tg, pv, a.ty, a.mo, a.e, a.b, a.t, a.g, .int .u64 a.a] 25)).alloc (by have := HN2.out.size; simp; omega) (.cells #[.int .i64 65535, .int .i64 257, .int .i64 128, .int .i64 2] 3)
              have n3 : x2.heap.size < ((x2.alloc (.cells #[a.tg, pv, a.ty, a.mo, a.e, a.b, a.t, a.g, .int .u64 a.a] 25)).alloc (.cells #[.int .i64 65535, .int .i64 257, .int .i64 128, .int .i64 2] 3)).heap.size := by simp; omega
              generalize hx : ((x2.alloc (.cells #[a.tg, pv, a.ty, a.mo, a.e, a.b, a.t, a.g, .int .u64 a.a] 25)).alloc (.cells #[.int .i64 65535, .int .i64 257, .int .i64 128, .int .i64 2] 3)) = x3 at C3 A3 B3 N3 n3 ⊢
              clear hx HA2 HB2' HN2 hpv' hpg
              obtain ⟨_, _, _, _, _, _, _, _, _⟩ := C3.out9
              have HA3 := Lib.hid A3
              have HB3 := Lib.hid B3
              have HC3 := Lib.hid C3
              have HN3 := Lib.hid N3
              clear A3 B3 C3 N3
              go_upto_region 17 with (first
                | (go_at_call 5; (with_reducible refine (HBD.out _).mono ?_); rintro e' v4 ⟨rfl, hb⟩; have HB4 := Lib.hid hb; have lv4 := hb.size; clear hb))
              have A4 := (HA3.out.bel HB4.out (by omega)).alloc (.cells #[d.tg, d.pe, d.ty, d.mo, d.e, d.b, d.t, d.g, .int .u64 d.a] 25)
              have B4 := (HB3.out.bel HB4.out (by omega)).alloc (.cells #[d.tg, d.pe, d.ty, d.mo, d.e, d.b, d.t, d.g, .int .u64 d.a] 25)
              have C4 := (HC3.out.bel HB4.out (by omega)).alloc (.cells #[d.tg, d.pe, d.ty, d.mo, d.e, d.b, d.t, d.g, .int .u64 d.a] 25)
              have D4 := At.new v4 [d.tg, d.pe, d.ty, d.mo, d.e, d.b, d.t, d.g, .int .u64 d.a] 25
              have N4 := (HN3.out.trans (HB4.out.mono HN3.out.size)).alloc (Nat.le_trans HN3.out.size lv4) (.cells #[d.tg, d.pe, d.ty, d.mo, d.e, d.b, d.t, d.g, .int .u64 d.a] 25)
              have n4 : v4.heap.size < (v4.alloc (.cells #[d.tg, d.pe, d.ty, d.mo, d.e, d.b, d.t, d.g, .int .u64 d.a] 25)).heap.size := by simp
              generalize hx : v4.alloc (.cells #[d.tg, d.pe, d.ty, d.mo, d.e, d.b, d.t, d.g, .int .u64 d.a] 25) = x4 at A4 B4 C4 D4 N4 n4 ⊢
              clear hx HA3 HB3 HC3 HN3 HB4
              have L4 : Bl w0 x4.heap.size x4 := ⟨N4, N4.size, Nat.le_refl _⟩
              clear N4
              refine wp_region_held_drew (S := (fun w' => At (v1.heap.size) [a.tg, a.pe, a.ty, a.mo, a.e, a.b, a.t, a.g, .int .u64 a.a] w' ∧ At (v3.heap.size) [b.tg, b.pe, b.ty, b.mo, b.e, b.b, b.t, b.g, .int .u64 b.a] w' ∧ At (x2.heap.size) [c.tg, c.pe, c.ty, c.mo, c.e, c.b, c.t, c.g, .int .u64 c.a] w' ∧ At (v4.heap.size) [d.tg, d.pe, d.ty, d.mo, d.e, d.b, d.t, d.g, .int .u64 d.a] w' ∧ Bl w0 (x4.heap.size) w')) (by kernel_rfl) ⟨At.drew (by with_reducible assumption), At.drew (by with_reducible assumption), At.drew (by with_reducible assumption), At.drew (by with_reducible assumption), Bl.drew (by with_reducible assumption)⟩ (fun hS => ?_)
              generalize hgw : x4.drew = g0 at hS ⊢
              clear hgw
              try simp only [Act.put, zA, zB, zC]
              clear A4 B4 C4 D4 L4
              (refine tk 0 ?_ rfl (Or.inl ⟨by rfl, ?_⟩) hS ?_; rotate_left; focus (intro w' hSw; obtain ⟨s0, s1, s2, s3, sb⟩ := hSw; obtain ⟨_, _, _, _, _, _, _, _, _⟩ := s0.out9; obtain ⟨_, _, _, _, _, _, _, _, _⟩ := s1.out9; obtain ⟨_, _, _, _, _, _, _, _, _⟩ := s2.out9; obtain ⟨_, _, _, _, _, _, _, _, _⟩ := s3.out9; go_simp <;> try with_reducible rfl))
              try simp only [Act.put, zA, zB, zC]
              (refine tk 1 ?_ rfl (Or.inl ⟨by rfl, ?_⟩) hS ?_; rotate_left; focus (intro w' hSw; obtain ⟨s0, s1, s2, s3, sb⟩ := hSw; obtain ⟨_, _, _, _, _, _, _, _, _⟩ := s0.out9; obtain ⟨_, _, _, _, _, _, _, _, _⟩ := s1.out9; obtain ⟨_, _, _, _, _, _, _, _, _⟩ := s2.out9; obtain ⟨_, _, _, _, _, _, _, _, _⟩ := s3.out9; go_simp <;> try with_reducible rfl))
              try simp only [Act.put, zA, zB, zC]
              refine rdy 2 rfl (fun K hK => ?_)
              refine take_if (by rfl) ?_
              obtain ⟨s0, s1, s2, s3, sb⟩ := hS
              go_simp
              (with_reducible refine (HNM.out g0).mono ?_)
              rintro e' g2 ⟨rfl, hb⟩
              have t0 := sb.at_ hb s0 (show v1.heap.size < x4.heap.size by omega)
              have t1 := sb.at_ hb s1 (show v3.heap.size < x4.heap.size by omega)
              have t2 := sb.at_ hb s2 (show x2.heap.size < x4.heap.size by omega)
              have t3 := sb.at_ hb s3 (show v4.heap.size < x4.heap.size by omega)
              refine hK.out _ _ ⟨t0, t1, t2, t3, (sb.step hb)⟩ (fun hS => ?_)
              clear hK K hb s0 t0 s1 t1 s2 t2 s3 t3 sb
              try simp only [Act.put, zA, zB, zC]
              refine rdy 3 rfl (fun K hK => ?_)
              refine take_if (by rfl) ?_
              obtain ⟨s0, s1, s2, s3, sb⟩ := hS
              go_simp
              refine hK.out _ _ ⟨(At.alloc s0 _), (At.alloc s1 _), (At.alloc s2 _), (At.alloc s3 _), (Bl.alloc sb _)⟩ (fun hS => ?_)
              clear hK K
              try simp only [Act.put, zA, zB, zC]
              have r3 : Rd (g2.alloc (.cells #[b.tg, b.pe, b.ty, b.mo, b.e, b.b, b.t, b.g, .int .u64 b.a, d.tg, d.pe, d.ty, d.mo, d.e, d.b, d.t, d.g, .int .u64 d.a, nm.tg, nm.pe, nm.ty, nm.mo, nm.e, nm.b, nm.t, nm.g, .int .u64 nm.a] 25)) (g2.alloc (.cells #[b.tg, b.pe, b.ty, b.mo, b.e, b.b, b.t, b.g, .int .u64 b.a, d.tg, d.pe, d.ty, d.mo, d.e, d.b, d.t, d.g, .int .u64 d.a, nm.tg, nm.pe, nm.ty, nm.mo, nm.e, nm.b, nm.t, nm.g, .int .u64 nm.a] 25)).heap.size (some ⟨g2.heap.size, 0, none⟩) [b, d, nm] := rd_new [b, d, nm] g2
              generalize hgw : (g2.alloc (.cells #[b.tg, b.pe, b.ty, b.mo, b.e, b.b, b.t, b.g, .int .u64 b.a, d.tg, d.pe, d.ty, d.mo, d.e, d.b, d.t, d.g, .int .u64 d.a, nm.tg, nm.pe, nm.ty, nm.mo, nm.e, nm.b, nm.t, nm.g, .int .u64 nm.a] 25)) = g3 at hS r3 ⊢
              clear hgw
              (refine tk 4 ?_ rfl (Or.inl ⟨by rfl, ?_⟩) hS ?_; rotate_left; focus (intro w' hSw; obtain ⟨s0, s1, s2, s3, sb⟩ := hSw; go_simp <;> try with_reducible rfl))
              try simp only [Act.put, zA, zB, zC]
              refine wpAnyH_done (by kernel_rfl) ?_ _
              obtain ⟨s0, s1, s2, s3, sb⟩ := hS
              have le4 := sb.le
              obtain ⟨_, _, _, _, _, _, _, _, _⟩ := s1.out9
              have HS := Lib.hid (And.intro s0 (And.intro s1 (And.intro s2 (And.intro s3 sb))))
              have HR3 := Lib.hid r3
              have ck := HTK.out g3 sb.bl
              have wl : w0.heap.size ≤ g3.heap.size := sb.bl.size
              clear s0 s1 s2 s3 sb r3
              have z0 : w.heap.size < g3.heap.size := (by omega); have z1 : ¬ w.heap.size = g3.heap.size := (by omega); have z2 : ¬ g3.heap.size = w.heap.size := (by omega)
              go_upto_region 20 with fail
              clear ck z0 z1 z2
              have E5 : At g3.heap.size [e.tg, e.pe, e.ty, e.mo, e.e, e.b, e.t, e.g, .int .u64 e.a] (g3.alloc (.cells #[b.tg, b.pe, tj, b.mo, b.e, b.b, b.t, b.g, .int .u64 b.a] 25)) := by
                have h := EE.out; subst h; exact At.new g3 [b.tg, b.pe, tj, b.mo, b.e, b.b, b.t, b.g, .int .u64 b.a] 25
              have A5 := HS.out.1.alloc (.cells #[b.tg, b.pe, tj, b.mo, b.e, b.b, b.t, b.g, .int .u64 b.a] 25)
              have B5 := HS.out.2.1.alloc (.cells #[b.tg, b.pe, tj, b.mo, b.e, b.b, b.t, b.g, .int .u64 b.a] 25)
              have C5 := HS.out.2.2.1.alloc (.cells #[b.tg, b.pe, tj, b.mo, b.e, b.b, b.t, b.g, .int .u64 b.a] 25)
              have D5 := HS.out.2.2.2.1.alloc (.cells #[b.tg, b.pe, tj, b.mo, b.e, b.b, b.t, b.g, .int .u64 b.a] 25)
              have N5 := (HS.out.2.2.2.2.alloc (.cells #[b.tg, b.pe, tj, b.mo, b.e, b.b, b.t, b.g, .int .u64 b.a] 25)).bl
              have R5 := HR3.out.up (.cells #[b.tg, b.pe, tj, b.mo, b.e, b.b, b.t, b.g, .int .u64 b.a] 25)
              have n5 : g3.heap.size < (g3.alloc (.cells #[b.tg, b.pe, tj, b.mo, b.e, b.b, b.t, b.g, .int .u64 b.a] 25)).heap.size := by simp
              generalize hx : (g3.alloc (.cells #[b.tg, b.pe, tj, b.mo, b.e, b.b, b.t, b.g, .int .u64 b.a] 25)) = x5 at A5 B5 C5 D5 E5 N5 R5 n5 ⊢
              clear hx HS HR3
              obtain ⟨_, _, _, _, _, _, _, _, _⟩ := B5.out9
              obtain ⟨_, _, _, _, _, _, _, _, _⟩ := D5.out9
              have HA5 := Lib.hid A5
              have HB5 := Lib.hid B5
              have HC5 := Lib.hid C5
              have HD5 := Lib.hid D5
              have HE5 := Lib.hid E5
              have HN5 := Lib.hid N5
              have HR5 := Lib.hid R5
              clear A5 B5 C5 D5 E5 N5 R5
              have HX0 := Lib.hid (Below.refl x5.heap.size x5)
              have HNEA : Hid (∀ u : World, Rd (u.alloc (.cells #[e.tg, e.pe, e.ty, e.mo, e.e, e.b, e.t, e.g, .int .u64 e.a, a.tg, a.pe, a.ty, a.mo, a.e, a.b, a.t, a.g, .int .u64 a.a] 25)) (u.alloc (.cells #[e.tg, e.pe, e.ty, e.mo, e.e, e.b, e.t, e.g, .int .u64 e.a, a.tg, a.pe, a.ty, a.mo, a.e, a.b, a.t, a.g, .int .u64 a.a] 25)).heap.size (some ⟨u.heap.size, 0, none⟩) [e, a]) := Lib.hid (fun u => rd_new [e, a] u)
              have HNBA : Hid (∀ u : World, Rd (u.alloc (.cells #[b.tg, b.pe, b.ty, b.mo, b.e, b.b, b.t, b.g, .int .u64 b.a, a.tg, a.pe, a.ty, a.mo, a.e, a.b, a.t, a.g, .int .u64 a.a] 25)) (u.alloc (.cells #[b.tg, b.pe, b.ty, b.mo, b.e, b.b, b.t, b.g, .int .u64 b.a, a.tg, a.pe, a.ty, a.mo, a.e, a.b, a.t, a.g, .int .u64 a.a] 25)).heap.size (some ⟨u.heap.size, 0, none⟩) [b, a]) := Lib.hid (fun u => rd_new [b, a] u)
              go_wp2_with (first
                | (go_at_call 7; (with_reducible refine (HT1.out _ _ (HR5.out.below HX0.out (Nat.le_refl _))).mono ?_); rintro e' u1 ⟨rfl, hb⟩; have HX1 := Lib.hid (HX0.out.trans (hb.mono HX0.out.size)); have lu1 := HX1.out.size; have oe1 := HE5.out.bel HX1.out (by omega); obtain ⟨_, _, _, _, _, _, _, _, _⟩ := oe1.out9; clear oe1; have oc1 := HC5.out.bel HX1.out (by omega); obtain ⟨_, _, _, _, _, _, _, _, _⟩ := oc1.out9; clear oc1; clear hb)
                | (go_at_call 7; (with_reducible refine (HT2.out _ _ (HR5.out.below HX1.out (Nat.le_refl _))).mono ?_); rintro e' u2 ⟨rfl, hb⟩; have HX2 := Lib.hid (HX1.out.trans (hb.mono HX1.out.size)); have lu2 := HX2.out.size; have oe2 := HE5.out.bel HX2.out (by omega); obtain ⟨_, _, _, _, _, _, _, _, _⟩ := oe2.out9; clear oe2; have oa2 := HA5.out.bel HX2.out (by omega); obtain ⟨_, _, _, _, _, _, _, _, _⟩ := oa2.out9; clear oa2; have ob2 := HB5.out.bel HX2.out (by omega); obtain ⟨_, _, _, _, _, _, _, _, _⟩ := ob2.out9; clear ob2; have z2a0 : v1.heap.size < u2.heap.size := (by omega); have z2a1 : ¬ v1.heap.size = u2.heap.size := (by omega); have z2a2 : ¬ u2.heap.size = v1.heap.size := (by omega); have z2b0 : v3.heap.size < u2.heap.size := (by omega); have z2b1 : ¬ v3.heap.size = u2.heap.size := (by omega); have z2b2 : ¬ u2.heap.size = v3.heap.size := (by omega); have z2e0 : g3.heap.size < u2.heap.size := (by omega); have z2e1 : ¬ g3.heap.size = u2.heap.size := (by omega); have z2e2 : ¬ u2.heap.size = g3.heap.size := (by omega); clear hb)
                | (go_at_call 7; (with_reducible refine (HT3.out _ _ (HNEA.out u2)).mono ?_); rintro e' u3 ⟨rfl, hb⟩; have HX3 := Lib.hid ((HX2.out.alloc HX2.out.size (.cells #[e.tg, e.pe, e.ty, e.mo, e.e, e.b, e.t, e.g, .int .u64 e.a, a.tg, a.pe, a.ty, a.mo, a.e, a.b, a.t, a.g, .int .u64 a.a] 25)).trans (hb.mono (HX2.out.alloc HX2.out.size (.cells #[e.tg, e.pe, e.ty, e.mo, e.e, e.b, e.t, e.g, .int .u64 e.a, a.tg, a.pe, a.ty, a.mo, a.e, a.b, a.t, a.g, .int .u64 a.a] 25)).size)); have lu3 := HX3.out.size; have ob3 := HB5.out.bel HX3.out (by omega); obtain ⟨_, _, _, _, _, _, _, _, _⟩ := ob3.out9; clear ob3; have od3 := HD5.out.bel HX3.out (by omega); obtain ⟨_, _, _, _, _, _, _, _, _⟩ := od3.out9; clear od3; have oe3 := HE5.out.bel HX3.out (by omega); obtain ⟨_, _, _, _, _, _, _, _, _⟩ := oe3.out9; clear oe3; clear hb)
                | (go_at_call 8; (with_reducible refine (HT4.out _ _ (HR5.out.below HX3.out (Nat.le_refl _))).mono ?_); rintro e' u4 ⟨rfl, hb⟩; have HX4 := Lib.hid (HX3.out.trans (hb.mono HX3.out.size)); have lu4 := HX4.out.size; have ob4 := HB5.out.bel HX4.out (by omega); obtain ⟨_, _, _, _, _, _, _, _, _⟩ := ob4.out9; clear ob4; have oa4 := HA5.out.bel HX4.out (by omega); obtain ⟨_, _, _, _, _, _, _, _, _⟩ := oa4.out9; clear oa4; have oe4 := HE5.out.bel HX4.out (by omega); obtain ⟨_, _, _, _, _, _, _, _, _⟩ := oe4.out9; clear oe4; have z4a0 : v1.heap.size < u4.heap.size := (by omega); have z4a1 : ¬ v1.heap.size = u4.heap.size := (by omega); have z4a2 : ¬ u4.heap.size = v1.heap.size := (by omega); have z4b0 : v3.heap.size < u4.heap.size := (by omega); have z4b1 : ¬ v3.heap.size = u4.heap.size := (by omega); have z4b2 : ¬ u4.heap.size = v3.heap.size := (by omega); have z4e0 : g3.heap.size < u4.heap.size := (by omega); have z4e1 : ¬ g3.heap.size = u4.heap.size := (by omega); have z4e2 : ¬ u4.heap.size = g3.heap.size := (by omega); clear hb)
                | (go_at_call 8; (with_reducible refine (HT5.out _ _ (HNBA.out u4)).mono ?_); rintro e' u5 ⟨rfl, hb⟩; have HX5 := Lib.hid ((HX4.out.alloc HX4.out.size (.cells #[b.tg, b.pe, b.ty, b.mo, b.e, b.b, b.t, b.g, .int .u64 b.a, a.tg, a.pe, a.ty, a.mo, a.e, a.b, a.t, a.g, .int .u64 a.a] 25)).trans (hb.mono (HX4.out.alloc HX4.out.size (.cells #[b.tg, b.pe, b.ty, b.mo, b.e, b.b, b.t, b.g, .int .u64 b.a, a.tg, a.pe, a.ty, a.mo, a.e, a.b, a.t, a.g, .int .u64 a.a] 25)).size)); have lu5 := HX5.out.size; have od5 := HD5.out.bel HX5.out (by omega); obtain ⟨_, _, _, _, _, _, _, _, _⟩ := od5.out9; clear od5; have oe5 := HE5.out.bel HX5.out (by omega); obtain ⟨_, _, _, _, _, _, _, _, _⟩ := oe5.out9; clear oe5; clear hb)
                | (go_at_call 9; (with_reducible refine (HT6.out _ _ (HR5.out.below HX5.out (Nat.le_refl _))).mono ?_); rintro e' u6 ⟨rfl, hb⟩; have HX6 := Lib.hid (HX5.out.trans (hb.mono HX5.out.size)); have lu6 := HX6.out.size; have oa6 := HA5.out.bel HX6.out (by omega); obtain ⟨_, _, _, _, _, _, _, _, _⟩ := oa6.out9; clear oa6; have oe6 := HE5.out.bel HX6.out (by omega); obtain ⟨_, _, _, _, _, _, _, _, _⟩ := oe6.out9; clear oe6; clear hb)
                | (go_at_call 9; (with_reducible refine (HT7.out _ _ (HR5.out.below HX6.out (Nat.le_refl _))).mono ?_); rintro e' u7 ⟨rfl, hb⟩; have HX7 := Lib.hid (HX6.out.trans (hb.mono HX6.out.size)); have lu7 := HX7.out.size; have oe7 := HE5.out.bel HX7.out (by omega); obtain ⟨_, _, _, _, _, _, _, _, _⟩ := oe7.out9; clear oe7; have ob7 := HB5.out.bel HX7.out (by omega); obtain ⟨_, _, _, _, _, _, _, _, _⟩ := ob7.out9; clear ob7; have oa7 := HA5.out.bel HX7.out (by omega); obtain ⟨_, _, _, _, _, _, _, _, _⟩ := oa7.out9; clear oa7; clear hb)
                | (go_at_call 10; (with_reducible refine (HT8.out _).mono ?_); rintro e' u8 ⟨rfl, hb⟩; have HX8 := Lib.hid (HX7.out.trans (hb.mono HX7.out.size)); have lu8 := HX8.out.size; have ob8 := HB5.out.bel HX8.out (by omega); obtain ⟨_, _, _, _, _, _, _, _, _⟩ := ob8.out9; clear ob8; clear hb)
                | (go_at_call 11; (with_reducible refine (HT9.out _).mono ?_); rintro e' u9 ⟨rfl, hb⟩; have HX9 := Lib.hid (HX8.out.trans (hb.mono HX8.out.size)); have lu9 := HX9.out.size; have od9 := HD5.out.bel HX9.out (by omega); obtain ⟨_, _, _, _, _, _, _, _, _⟩ := od9.out9; clear od9; clear hb)
                | (go_at_call 11; (with_reducible refine (HTA.out _).mono ?_); rintro e' u10 ⟨rfl, hb⟩; have HX10 := Lib.hid (HX9.out.trans (hb.mono HX9.out.size)); have lu10 := HX10.out.size; clear hb))
              go_roundw
              case rel => exact ⟨p + 1, by omega, by go_num, HN5.out.trans (HX10.out.mono HN5.out.size)⟩
              case measure => simp [intOf]; omega
            · go_wp2
              go_roundw
              case rel => exact ⟨k + 1, by omega, by go_num, HB.out⟩
              case measure => simp [intOf]; omega
        · go_wp2
          go_roundw
          case rel => exact ⟨i + 1, by omega, by go_num, HBK.out⟩
          case measure => simp [intOf]; omega
    · rename World => W1
      go_wp2
      go_loopw [11, 12] (fun s i wx => ∃ (m : Nat) (n : Int) (u : Value), m ≤ 10 ∧ n = 9 - (m : Int) ∧ i = .int .i64 n ∧ u = s ∧ OwnC wx W1.heap.size u (LK m) ∧ Below W1.heap.size W1 wx) (fun _ i _ => (intOf i + 1).toNat)
      case atStart => exact ⟨0, 9, _, by omega, by simp, rfl, rfl, OwnC.nil W1 W1.heap.size, Below.refl _ _⟩
      case round =>
        obtain ⟨m, n, u, hm, hn, rfl, rfl, hown, hbl⟩ := hrel
        have lw : W1.heap.size ≤ wr.heap.size := hbl.size
        have HO := Lib.hid hown
        have HB := Lib.hid hbl
        clear hown hbl
        by_cases hlt : m < 10
        · have n0 : 0 ≤ n := by omega
          have n1 : n ≤ 9 := by omega
          have HN := Lib.hid hn
          clear hn
          obtain ⟨a, ha⟩ : ∃ a, kRm 0 (n + 1) = a := ⟨_, rfl⟩
          have hra : RC a := by subst ha; exact rc_rm 0 (n + 1) (by omega) (by omega)
          obtain ⟨d, hd⟩ : ∃ d, boundK a 1 true = d := ⟨_, rfl⟩
          have hkc : kc n = (⟨d.tg, d.pe, n, d.mo, d.e, d.b, d.t, d.g, d.a⟩ : Cp) := by subst hd ha; rfl
          have HRA : Hid (∀ v : World, Calls Try.prog 4 #[(), .int .u64 (n + 1)] v fun e w' => e = .returned (.agg #[a.tg, a.pe, a.ty, a.mo, a.e, a.b, a.t, a.g, .int .u64 a.a]) ∧ Below v.heap.size v w') := Lib.hid (fun v => by subst ha; exact kb (root_m 0 (n + 1) v))
          have HBD : Hid (∀ v : World, Calls Try.prog 5 #[.agg #[a.tg, a.pe, a.ty, a.mo, a.e, a.b, a.t, a.g, .int .u64 a.a], .int .u64 1, .bool true] v fun e w' => e = .returned (.agg #[d.tg, d.pe, d.ty, d.mo, d.e, d.b, d.t, d.g, .int .u64 d.a]) ∧ Below v.heap.size v w') := Lib.hid (fun v => by rw [← hd]; exact boundk_w a 1 true hra (by omega) (by omega) v)
          have HK := Lib.hid hkc
          clear hkc ha hd hra
          go_wp2_with (first
            | (go_at_call 4; (with_reducible refine (HRA.out _).mono ?_); rintro e' v1 ⟨rfl, hb⟩; have HV1 := Lib.hid hb; have lv1 := hb.size; clear hb)
            | (go_at_call 5; (with_reducible refine (HBD.out _).mono ?_); rintro e' v2 ⟨rfl, hb⟩; have HV2 := Lib.hid (HV1.out.trans (hb.mono lv1)); have lv2 := hb.size; clear hb)
            | (at_builtin; refine app_c rfl (.tmp 145) (.tmp 147) rfl W1.heap.size _ (LK m) rfl (own_fr HO.out (((Fr.of_bl HV2.out (fun _ => False)).alloc (.cells #[d.tg, d.pe, n, d.mo, d.e, d.b, d.t, d.g, .int .u64 d.a] 25)).alloc (.cells #[d.tg, d.pe, n, d.mo, d.e, d.b, d.t, d.g, .int .u64 d.a] 25)) (fun _ _ h => h)) ⟨v2.heap.size + 1, 0, none⟩ 1 (⟨d.tg, d.pe, n, d.mo, d.e, d.b, d.t, d.g, d.a⟩ : Cp) rfl (World.news_of_block (by have h := heap_alloc_new (v2.alloc (.cells #[d.tg, d.pe, n, d.mo, d.e, d.b, d.t, d.g, .int .u64 d.a] 25)) (.cells #[d.tg, d.pe, n, d.mo, d.e, d.b, d.t, d.g, .int .u64 d.a] 25); rw [show (v2.alloc (.cells #[d.tg, d.pe, n, d.mo, d.e, d.b, d.t, d.g, .int .u64 d.a] 25)).heap.size = v2.heap.size + 1 by simp] at h; exact h)) (by rw [LK_len]; omega) (by simp; omega) (v2.heap.size + 1 + 1) (by simp) ?_; intro g cap' v3 hown3 hg3 hat3 hlt3; have HO3 := Lib.hid hown3; have HB3 := Lib.hid (below_grown (((HB.out.trans (HV2.out.mono lw)).alloc (by omega) (.cells #[d.tg, d.pe, n, d.mo, d.e, d.b, d.t, d.g, .int .u64 d.a] 25)).alloc (by simp; omega) (.cells #[d.tg, d.pe, n, d.mo, d.e, d.b, d.t, d.g, .int .u64 d.a] 25)) hg3 (by simp; omega) (own_fr HO.out (((Fr.of_bl HV2.out (fun _ => False)).alloc (.cells #[d.tg, d.pe, n, d.mo, d.e, d.b, d.t, d.g, .int .u64 d.a] 25)).alloc (.cells #[d.tg, d.pe, n, d.mo, d.e, d.b, d.t, d.g, .int .u64 d.a] 25)) (fun _ _ h => h))); clear hown3 hg3 hat3))
          go_roundw
          case rel => exact ⟨m + 1, n - 1, _, by omega, by have := HN.out; omega, rfl, rfl, by have := HO3.out; rw [LK_len] at this; rw [LK_succ, ← HN.out, HK.out, LK_len]; exact this, HB3.out⟩
          case measure => simp [intOf]; omega
        · have hm10 : m = 10 := by omega
          subst hm10
          obtain rfl : n = -1 := by omega
          clear hn
          obtain ⟨A', cap, rfl, hcap, hrd, -⟩ := HO.out.rd
          rw [LK_len] at HO
          simp only [LK_len]
          obtain ⟨a, ha⟩ : ∃ a, kRm 0 0 = a := ⟨_, rfl⟩
          have hra : RC a := by subst ha; exact rc_rm 0 0 (by omega) (by omega)
          obtain ⟨d, hd⟩ : ∃ d, boundK a 1 true = d := ⟨_, rfl⟩
          have hkl : kLast = d := by subst hd ha; rfl
          have HRA : Hid (∀ v : World, Calls Try.prog 4 #[(), .int .u64 0] v fun e w' => e = .returned (.agg #[a.tg, a.pe, a.ty, a.mo, a.e, a.b, a.t, a.g, .int .u64 a.a]) ∧ Below v.heap.size v w') := Lib.hid (fun v => by subst ha; exact kb (root_m 0 0 v))
          have HBD : Hid (∀ v : World, Calls Try.prog 5 #[.agg #[a.tg, a.pe, a.ty, a.mo, a.e, a.b, a.t, a.g, .int .u64 a.a], .int .u64 1, .bool true] v fun e w' => e = .returned (.agg #[d.tg, d.pe, d.ty, d.mo, d.e, d.b, d.t, d.g, .int .u64 d.a]) ∧ Below v.heap.size v w') := Lib.hid (fun v => by rw [← hd]; exact boundk_w a 1 true hra (by omega) (by omega) v)
          have HK := Lib.hid hkl
          clear hkl ha hd hra hcap hrd
          go_upto_region 30 with (first
            | (go_at_call 4; (with_reducible refine (HRA.out _).mono ?_); rintro e' v1 ⟨rfl, hb⟩; have HV1 := Lib.hid hb; have lv1 := hb.size; clear hb)
            | (go_at_call 5; (with_reducible refine (HBD.out _).mono ?_); rintro e' v2 ⟨rfl, hb⟩; have HV2 := Lib.hid (HV1.out.trans (hb.mono lv1)); have lv2 := hb.size; clear hb)
            | (at_builtin; refine app_c rfl (.tmp 149) (.tmp 152) rfl W1.heap.size _ (LK 10) rfl (own_fr HO.out ((Fr.of_bl HV2.out (fun _ => False)).alloc (.cells #[d.tg, d.pe, d.ty, d.mo, d.e, d.b, d.t, d.g, .int .u64 d.a] 25)) (fun _ _ h => h)) ⟨v2.heap.size, 0, none⟩ 1 d rfl (World.news_of_block (heap_alloc_new _ _)) (by rw [LK_len]; omega) (by simp; omega) (v2.heap.size + 1) (by simp) ?_; intro g cap' v3 hown3 hg3 hat3 hlt3; have HO3 := Lib.hid hown3; have HB3 := Lib.hid (below_grown ((HB.out.trans (HV2.out.mono lw)).alloc (by omega) (.cells #[d.tg, d.pe, d.ty, d.mo, d.e, d.b, d.t, d.g, .int .u64 d.a] 25)) hg3 (by simp; omega) (own_fr HO.out ((Fr.of_bl HV2.out (fun _ => False)).alloc (.cells #[d.tg, d.pe, d.ty, d.mo, d.e, d.b, d.t, d.g, .int .u64 d.a] 25)) (fun _ _ h => h))); rw [show (LK 10).length + 1 = 11 by rw [LK_len]] at HO3 ⊢; clear hown3 hg3 hat3))
          have HL : Hid (OwnC v3 W1.heap.size (.slice (some ⟨g, 0, none⟩) 11 cap') (LK 10 ++ [kLast])) := Lib.hid (by rw [HK.out]; exact HO3.out)
          clear HO HO3
          have len11 : (LK 10 ++ [kLast]).length = 11 := by rw [List.length_append, LK_len]; rfl
          obtain ⟨L, hL⟩ : ∃ L, LK 10 ++ [kLast] = L := ⟨_, rfl⟩
          have hrc : ∀ c ∈ L, RC c := by subst hL; exact rc_11
          have hT : L.take 10 = LK 10 := by subst hL; rw [List.take_append_of_le_length (by rw [LK_len]; omega), List.take_of_length_le (by rw [LK_len]; omega)]
          have h21 : (clo L).length = 21 := by subst hL; exact clo_11
          have RL : Rd v3 v3.heap.size (some ⟨g, 0, none⟩) L := by
            have h := HL.out
            obtain ⟨A2, cap2, e, -, h2, -⟩ := h.rd
            cases e
            rw [← hL]; exact h2
          have hcap : 11 ≤ cap' := by
            obtain ⟨A2, cap2, e, h1, -, -⟩ := HL.out.rd
            cases e
            rw [len11] at h1; exact h1
          rw [hL] at len11
          have RT : Rd v3 v3.heap.size (some ⟨g, 0, none⟩) (LK 10) := by rw [← hT]; exact RL.take 10
          obtain ⟨-, c0, -, mc0, rc0⟩ := RL.row (k := 0) (by rw [len11]; decide)
          have r0 := (hrc c0 mc0).raw
          obtain ⟨-, c3, -, mc3, rc3⟩ := RL.row (k := 3) (by rw [len11]; decide)
          have r3 := (hrc c3 mc3).raw
          obtain ⟨-, c4, -, mc4, rc4⟩ := RL.row (k := 4) (by rw [len11]; decide)
          have r4 := (hrc c4 mc4).raw
          obtain ⟨-, c9, -, mc9, rc9⟩ := RL.row (k := 9) (by rw [len11]; decide)
          have r9 := (hrc c9 mc9).raw
          obtain ⟨-, c2, -, mc2, rc2⟩ := RL.row (k := 2) (by rw [len11]; decide)
          have r2 := (hrc c2 mc2).raw
          have HC1 : Hid (∀ v : World, Rd v v.heap.size (some ⟨g, 0, none⟩) L → Calls Try.prog 12 #[.slice (some ⟨g, 0, none⟩) 11 cap'] v fun e' w' => ∃ A2 cap2, e' = .returned (.slice A2 21 cap2) ∧ Below v.heap.size v w') := Lib.hid (fun v h => by
            have := clo_w L (some ⟨g, 0, none⟩) cap' hrc (by omega) v h
            rw [len11, h21] at this
            exact this.mono (by rintro e' w' ⟨A2, cap2, h1, -, -, h2⟩; exact ⟨A2, cap2, h1, h2⟩))
          have HC2 : Hid (∀ v : World, Rd v v.heap.size (some ⟨g, 0, none⟩) (LK 10) → Calls Try.prog 12 #[.slice (some ⟨g, 0, none⟩) 10 cap'] v fun e' w' => ∃ A2 cap2, e' = .returned (.slice A2 10 cap2) ∧ Below v.heap.size v w') := Lib.hid (fun v h => by
            have := clo_w (LK 10) (some ⟨g, 0, none⟩) cap' rc_lk (by rw [LK_len]; omega) v h
            rw [LK_len, clo_10] at this
            exact this.mono (by rintro e' w' ⟨A2, cap2, h1, -, -, h2⟩; exact ⟨A2, cap2, h1, h2⟩))
          have HT : Hid (∀ v : World, Rd v v.heap.size (some ⟨g, 0, none⟩) L → Calls Try.prog 7 #[.slice (some ⟨g, 0, none⟩) 11 cap', .agg #[c0.tg, c0.pe, c0.ty, c0.mo, c0.e, c0.b, c0.t, c0.g, .int .u64 c0.a], .agg #[c3.tg, c3.pe, c3.ty, c3.mo, c3.e, c3.b, c3.t, c3.g, .int .u64 c3.a]] v fun e' w' => e' = .returned (.bool true) ∧ Below v.heap.size v w') := Lib.hid (fun v h => by
            have := tells_all L _ cap' c0 c3 v h (fun x hx => (hrc x hx).raw) (by omega) r0 r3
            rw [len11] at this; exact this)
          have HD : Hid (∀ v : World, Rd v v.heap.size (some ⟨g, 0, none⟩) L → Calls Try.prog 8 #[.slice (some ⟨g, 0, none⟩) 11 cap', .agg #[c4.tg, c4.pe, c4.ty, c4.mo, c4.e, c4.b, c4.t, c4.g, .int .u64 c4.a], .agg #[c9.tg, c9.pe, c9.ty, c9.mo, c9.e, c9.b, c9.t, c9.g, .int .u64 c9.a], .agg #[c2.tg, c2.pe, c2.ty, c2.mo, c2.e, c2.b, c2.t, c2.g, .int .u64 c2.a], .int .u64 6, .int .u64 7, .int .i64 65535] v fun e' w' => e' = .returned (.bool true) ∧ Below v.heap.size v w') := Lib.hid (fun v h => by
            have := closed_all L _ cap' c4 c9 c2 6 7 65535 v h (fun x hx => (hrc x hx).raw) (by omega) r4 r9 r2 (by omega) (by omega) (by omega) (by omega)
            rw [len11] at this; exact this)
          have hcapi : (10 : Int) ≤ (cap' : Int) := by omega
          have hcapn : 10 ≤ cap' := by omega
          have BW : Below w.heap.size w v3 := (HW0.out.trans (HBI.out.mono HW0.out.size)).trans (HB3.out.mono (Nat.le_trans HW0.out.size HBI.out.size))
          have LB : Bl w v3.heap.size v3 := ⟨BW, BW.size, Nat.le_refl _⟩
          clear HK HB HB3 HL hrc hT h21 hL len11 hcap BW HBI HW0 HTY mc0 mc3 mc4 mc9 mc2 r0 r3 r4 r9 r2 lw
          refine wp_region_held_drew (S := (fun w' => Row w' (g) (0 * 9) c0 ∧ Row w' (g) (3 * 9) c3 ∧ Row w' (g) (4 * 9) c4 ∧ Row w' (g) (9 * 9) c9 ∧ Row w' (g) (2 * 9) c2 ∧ Bl w (v3.heap.size) w')) (by kernel_rfl) ⟨Row.drew (by with_reducible assumption), Row.drew (by with_reducible assumption), Row.drew (by with_reducible assumption), Row.drew (by with_reducible assumption), Row.drew (by with_reducible assumption), Bl.drew (by with_reducible assumption)⟩ (fun hS => ?_)
          replace RL : Rd v3.drew v3.drew.heap.size (some ⟨g, 0, none⟩) L := RL.drew
          replace RT : Rd v3.drew v3.drew.heap.size (some ⟨g, 0, none⟩) (LK 10) := RT.drew
          generalize hgw : v3.drew = g0 at hS RL RT ⊢
          clear hgw
          try simp only [Act.put, zA, zB, zC]
          clear rc0 rc3 rc4 rc9 rc2 LB
          (refine tk 0 ?_ rfl (Or.inl ⟨by rfl, ?_⟩) hS ?_; rotate_left; focus (intro w' hSw; obtain ⟨s0, s1, s2, s3, s4, sb⟩ := hSw; go_simp <;> try with_reducible rfl))
          try simp only [Act.put, zA, zB, zC]
          refine rdy 1 rfl (fun K hK => ?_)
          refine take_if (by rfl) ?_
          obtain ⟨s0, s1, s2, s3, s4, sb⟩ := hS
          go_simp
          (with_reducible refine (HC1.out g0 RL).mono ?_)
          rintro e' g1 ⟨A2, cap2, rfl, hb⟩
          have t0 := s0.bl sb hb (show g < v3.heap.size by omega)
          have t1 := s1.bl sb hb (show g < v3.heap.size by omega)
          have t2 := s2.bl sb hb (show g < v3.heap.size by omega)
          have t3 := s3.bl sb hb (show g < v3.heap.size by omega)
          have t4 := s4.bl sb hb (show g < v3.heap.size by omega)
          have RL := RL.below hb (Nat.le_refl _)
          have RT := RT.below hb (Nat.le_refl _)
          refine hK.out _ _ ⟨t0, t1, t2, t3, t4, (sb.step hb)⟩ (fun hS => ?_)
          clear hK K hb s0 t0 s1 t1 s2 t2 s3 t3 s4 t4 sb
          try simp only [Act.put, zA, zB, zC]
          (refine tk 2 ?_ rfl (Or.inl ⟨by rfl, ?_⟩) hS ?_; rotate_left; focus (intro w' hSw; obtain ⟨s0, s1, s2, s3, s4, sb⟩ := hSw; go_simp <;> try with_reducible rfl))
          try simp only [Act.put, zA, zB, zC]
          (refine tk 3 ?_ rfl (Or.inl ⟨by rfl, ?_⟩) hS ?_; rotate_left; focus (intro w' hSw; obtain ⟨s0, s1, s2, s3, s4, sb⟩ := hSw; go_simp <;> try with_reducible rfl))
          try simp only [Act.put, zA, zB, zC]
          (refine tk 4 ?_ rfl (Or.inl ⟨by rfl, ?_⟩) hS ?_; rotate_left; focus (intro w' hSw; obtain ⟨s0, s1, s2, s3, s4, sb⟩ := hSw; go_simp <;> try with_reducible rfl))
          try simp only [Act.put, zA, zB, zC]
          (refine tk 5 ?_ rfl (Or.inl ⟨by rfl, ?_⟩) hS ?_; rotate_left; focus (intro w' hSw; obtain ⟨s0, s1, s2, s3, s4, sb⟩ := hSw; go_simp <;> try with_reducible rfl))
          try simp only [Act.put, zA, zB, zC]
          (refine tk 6 ?_ rfl (Or.inl ⟨by rfl, ?_⟩) hS ?_; rotate_left; focus (intro w' hSw; obtain ⟨s0, s1, s2, s3, s4, sb⟩ := hSw; go_simp <;> try with_reducible rfl))
          try simp only [Act.put, zA, zB, zC]
          (refine tk 7 ?_ rfl (Or.inl ⟨by rfl, ?_⟩) hS ?_; rotate_left; focus (intro w' hSw; obtain ⟨s0, s1, s2, s3, s4, sb⟩ := hSw; go_simp <;> try with_reducible rfl))
          try simp only [Act.put, zA, zB, zC]
          (refine tk 8 ?_ rfl (Or.inl ⟨by rfl, ?_⟩) hS ?_; rotate_left; focus (intro w' hSw; obtain ⟨s0, s1, s2, s3, s4, sb⟩ := hSw; obtain ⟨_, _, _, _, _, _, _, _, _⟩ := s0.out; obtain ⟨_, _, _, _, _, _, _, _, _⟩ := s1.out; obtain ⟨_, _, _, _, _, _, _, _, _⟩ := s2.out; obtain ⟨_, _, _, _, _, _, _, _, _⟩ := s3.out; obtain ⟨_, _, _, _, _, _, _, _, _⟩ := s4.out; go_simp <;> try with_reducible rfl))
          try simp only [Act.put, zA, zB, zC]
          (refine tk 9 ?_ rfl (Or.inl ⟨by rfl, ?_⟩) hS ?_; rotate_left; focus (intro w' hSw; obtain ⟨s0, s1, s2, s3, s4, sb⟩ := hSw; go_simp <;> try with_reducible rfl))
          try simp only [Act.put, zA, zB, zC]
          (refine tk 10 ?_ rfl (Or.inl ⟨by rfl, ?_⟩) hS ?_; rotate_left; focus (intro w' hSw; obtain ⟨s0, s1, s2, s3, s4, sb⟩ := hSw; go_simp <;> try with_reducible rfl))
          try simp only [Act.put, zA, zB, zC]
          (refine tk 11 ?_ rfl (Or.inl ⟨by rfl, ?_⟩) hS ?_; rotate_left; focus (intro w' hSw; obtain ⟨s0, s1, s2, s3, s4, sb⟩ := hSw; obtain ⟨_, _, _, _, _, _, _, _, _⟩ := s0.out; obtain ⟨_, _, _, _, _, _, _, _, _⟩ := s1.out; obtain ⟨_, _, _, _, _, _, _, _, _⟩ := s2.out; obtain ⟨_, _, _, _, _, _, _, _, _⟩ := s3.out; obtain ⟨_, _, _, _, _, _, _, _, _⟩ := s4.out; go_simp <;> try with_reducible rfl))
          try simp only [Act.put, zA, zB, zC]
          refine rdy 12 rfl (fun K hK => ?_)
          refine take_if (by rfl) ?_
          obtain ⟨s0, s1, s2, s3, s4, sb⟩ := hS
          go_simp
          (with_reducible refine (HT.out g1 RL).mono ?_)
          rintro e' g12 ⟨rfl, hb⟩
          have t0 := s0.bl sb hb (show g < v3.heap.size by omega)
          have t1 := s1.bl sb hb (show g < v3.heap.size by omega)
          have t2 := s2.bl sb hb (show g < v3.heap.size by omega)
          have t3 := s3.bl sb hb (show g < v3.heap.size by omega)
          have t4 := s4.bl sb hb (show g < v3.heap.size by omega)
          have RL := RL.below hb (Nat.le_refl _)
          have RT := RT.below hb (Nat.le_refl _)
          refine hK.out _ _ ⟨t0, t1, t2, t3, t4, (sb.step hb)⟩ (fun hS => ?_)
          clear hK K hb s0 t0 s1 t1 s2 t2 s3 t3 s4 t4 sb
          try simp only [Act.put, zA, zB, zC]
          (refine tk 13 ?_ rfl (Or.inl ⟨by rfl, ?_⟩) hS ?_; rotate_left; focus (intro w' hSw; obtain ⟨s0, s1, s2, s3, s4, sb⟩ := hSw; go_simp <;> try with_reducible rfl))
          try simp only [Act.put, zA, zB, zC]
          (refine tk 14 ?_ rfl (Or.inl ⟨by rfl, ?_⟩) hS ?_; rotate_left; focus (intro w' hSw; obtain ⟨s0, s1, s2, s3, s4, sb⟩ := hSw; go_simp <;> try with_reducible rfl))
          try simp only [Act.put, zA, zB, zC]
          (refine tk 15 ?_ rfl (Or.inl ⟨by rfl, ?_⟩) hS ?_; rotate_left; focus (intro w' hSw; obtain ⟨s0, s1, s2, s3, s4, sb⟩ := hSw; go_simp <;> try with_reducible rfl))
          try simp only [Act.put, zA, zB, zC]
          (refine tk 16 ?_ rfl (Or.inl ⟨by rfl, ?_⟩) hS ?_; rotate_left; focus (intro w' hSw; obtain ⟨s0, s1, s2, s3, s4, sb⟩ := hSw; go_simp <;> try with_reducible rfl))
          try simp only [Act.put, zA, zB, zC]
          (refine tk 17 ?_ rfl (Or.inl ⟨by rfl, ?_⟩) hS ?_; rotate_left; focus (intro w' hSw; obtain ⟨s0, s1, s2, s3, s4, sb⟩ := hSw; go_simp <;> try with_reducible rfl))
          try simp only [Act.put, zA, zB, zC]
          (refine tk 18 ?_ rfl (Or.inl ⟨by rfl, ?_⟩) hS ?_; rotate_left; focus (intro w' hSw; obtain ⟨s0, s1, s2, s3, s4, sb⟩ := hSw; obtain ⟨_, _, _, _, _, _, _, _, _⟩ := s0.out; obtain ⟨_, _, _, _, _, _, _, _, _⟩ := s1.out; obtain ⟨_, _, _, _, _, _, _, _, _⟩ := s2.out; obtain ⟨_, _, _, _, _, _, _, _, _⟩ := s3.out; obtain ⟨_, _, _, _, _, _, _, _, _⟩ := s4.out; go_simp <;> try with_reducible rfl))
          try simp only [Act.put, zA, zB, zC]
          (refine tk 19 ?_ rfl (Or.inl ⟨by rfl, ?_⟩) hS ?_; rotate_left; focus (intro w' hSw; obtain ⟨s0, s1, s2, s3, s4, sb⟩ := hSw; go_simp <;> try with_reducible rfl))
          try simp only [Act.put, zA, zB, zC]
          (refine tk 20 ?_ rfl (Or.inl ⟨by rfl, ?_⟩) hS ?_; rotate_left; focus (intro w' hSw; obtain ⟨s0, s1, s2, s3, s4, sb⟩ := hSw; go_simp <;> try with_reducible rfl))
          try simp only [Act.put, zA, zB, zC]
          (refine tk 21 ?_ rfl (Or.inl ⟨by rfl, ?_⟩) hS ?_; rotate_left; focus (intro w' hSw; obtain ⟨s0, s1, s2, s3, s4, sb⟩ := hSw; obtain ⟨_, _, _, _, _, _, _, _, _⟩ := s0.out; obtain ⟨_, _, _, _, _, _, _, _, _⟩ := s1.out; obtain ⟨_, _, _, _, _, _, _, _, _⟩ := s2.out; obtain ⟨_, _, _, _, _, _, _, _, _⟩ := s3.out; obtain ⟨_, _, _, _, _, _, _, _, _⟩ := s4.out; go_simp <;> try with_reducible rfl))
          try simp only [Act.put, zA, zB, zC]
          (refine tk 22 ?_ rfl (Or.inl ⟨by rfl, ?_⟩) hS ?_; rotate_left; focus (intro w' hSw; obtain ⟨s0, s1, s2, s3, s4, sb⟩ := hSw; go_simp <;> try with_reducible rfl))
          try simp only [Act.put, zA, zB, zC]
          (refine tk 23 ?_ rfl (Or.inl ⟨by rfl, ?_⟩) hS ?_; rotate_left; focus (intro w' hSw; obtain ⟨s0, s1, s2, s3, s4, sb⟩ := hSw; go_simp <;> try with_reducible rfl))
          try simp only [Act.put, zA, zB, zC]
          (refine tk 24 ?_ rfl (Or.inl ⟨by rfl, ?_⟩) hS ?_; rotate_left; focus (intro w' hSw; obtain ⟨s0, s1, s2, s3, s4, sb⟩ := hSw; obtain ⟨_, _, _, _, _, _, _, _, _⟩ := s0.out; obtain ⟨_, _, _, _, _, _, _, _, _⟩ := s1.out; obtain ⟨_, _, _, _, _, _, _, _, _⟩ := s2.out; obtain ⟨_, _, _, _, _, _, _, _, _⟩ := s3.out; obtain ⟨_, _, _, _, _, _, _, _, _⟩ := s4.out; go_simp <;> try with_reducible rfl))
          try simp only [Act.put, zA, zB, zC]
          refine rdy 25 rfl (fun K hK => ?_)
          refine take_if (by rfl) ?_
          obtain ⟨s0, s1, s2, s3, s4, sb⟩ := hS
          go_simp
          (with_reducible refine (HD.out g12 RL).mono ?_)
          rintro e' g25 ⟨rfl, hb⟩
          have t0 := s0.bl sb hb (show g < v3.heap.size by omega)
          have t1 := s1.bl sb hb (show g < v3.heap.size by omega)
          have t2 := s2.bl sb hb (show g < v3.heap.size by omega)
          have t3 := s3.bl sb hb (show g < v3.heap.size by omega)
          have t4 := s4.bl sb hb (show g < v3.heap.size by omega)
          have RL := RL.below hb (Nat.le_refl _)
          have RT := RT.below hb (Nat.le_refl _)
          refine hK.out _ _ ⟨t0, t1, t2, t3, t4, (sb.step hb)⟩ (fun hS => ?_)
          clear hK K hb s0 t0 s1 t1 s2 t2 s3 t3 s4 t4 sb
          try simp only [Act.put, zA, zB, zC]
          clear RL
          (refine tk 26 ?_ rfl (Or.inl ⟨by rfl, ?_⟩) hS ?_; rotate_left; focus (intro w' hSw; obtain ⟨s0, s1, s2, s3, s4, sb⟩ := hSw; go_simp <;> try with_reducible rfl))
          try simp only [Act.put, zA, zB, zC]
          (refine tk 27 ?_ rfl (Or.inl ⟨by rfl, ?_⟩) hS ?_; rotate_left; focus (intro w' hSw; obtain ⟨s0, s1, s2, s3, s4, sb⟩ := hSw; go_simp <;> try with_reducible rfl))
          try simp only [Act.put, zA, zB, zC]
          (refine tk 28 ?_ rfl (Or.inl ⟨by rfl, ?_⟩) hS ?_; rotate_left; focus (intro w' hSw; obtain ⟨s0, s1, s2, s3, s4, sb⟩ := hSw; go_simp <;> try with_reducible rfl))
          try simp only [Act.put, zA, zB, zC]
          (refine tk 29 ?_ rfl (Or.inl ⟨by rfl, ?_⟩) hS ?_; rotate_left; focus (intro w' hSw; obtain ⟨s0, s1, s2, s3, s4, sb⟩ := hSw; go_simp <;> try with_reducible rfl))
          try simp only [Act.put, zA, zB, zC]
          refine rdy 30 rfl (fun K hK => ?_)
          refine take_if (by rfl) ?_
          obtain ⟨s0, s1, s2, s3, s4, sb⟩ := hS
          go_simp
          (with_reducible refine (HC2.out g25 RT).mono ?_)
          rintro e' g30 ⟨A3, cap3, rfl, hb⟩
          have t0 := s0.bl sb hb (show g < v3.heap.size by omega)
          have t1 := s1.bl sb hb (show g < v3.heap.size by omega)
          have t2 := s2.bl sb hb (show g < v3.heap.size by omega)
          have t3 := s3.bl sb hb (show g < v3.heap.size by omega)
          have t4 := s4.bl sb hb (show g < v3.heap.size by omega)
          have RT := RT.below hb (Nat.le_refl _)
          refine hK.out _ _ ⟨t0, t1, t2, t3, t4, (sb.step hb)⟩ (fun hS => ?_)
          clear hK K hb s0 t0 s1 t1 s2 t2 s3 t3 s4 t4 sb
          try simp only [Act.put, zA, zB, zC]
          clear RT
          (refine tk 31 ?_ rfl (Or.inl ⟨by rfl, ?_⟩) hS ?_; rotate_left; focus (intro w' hSw; obtain ⟨s0, s1, s2, s3, s4, sb⟩ := hSw; go_simp <;> try with_reducible rfl))
          try simp only [Act.put, zA, zB, zC]
          (refine tk 32 ?_ rfl (Or.inl ⟨by rfl, ?_⟩) hS ?_; rotate_left; focus (intro w' hSw; obtain ⟨s0, s1, s2, s3, s4, sb⟩ := hSw; go_simp <;> try with_reducible rfl))
          try simp only [Act.put, zA, zB, zC]
          (refine tk 33 ?_ rfl (Or.inl ⟨by rfl, ?_⟩) hS ?_; rotate_left; focus (intro w' hSw; obtain ⟨s0, s1, s2, s3, s4, sb⟩ := hSw; go_simp <;> try with_reducible rfl))
          try simp only [Act.put, zA, zB, zC]
          (refine tk 34 ?_ rfl (Or.inl ⟨by rfl, ?_⟩) hS ?_; rotate_left; focus (intro w' hSw; obtain ⟨s0, s1, s2, s3, s4, sb⟩ := hSw; go_simp <;> try with_reducible rfl))
          try simp only [Act.put, zA, zB, zC]
          refine rdy 35 rfl (fun K hK => ?_)
          refine take_if (by rfl) ?_
          obtain ⟨s0, s1, s2, s3, s4, sb⟩ := hS
          go_simp
          (with_reducible refine (works_w g30).mono ?_)
          rintro e' g35 ⟨rfl, hb⟩
          have t0 := s0.bl sb hb (show g < v3.heap.size by omega)
          have t1 := s1.bl sb hb (show g < v3.heap.size by omega)
          have t2 := s2.bl sb hb (show g < v3.heap.size by omega)
          have t3 := s3.bl sb hb (show g < v3.heap.size by omega)
          have t4 := s4.bl sb hb (show g < v3.heap.size by omega)
          refine hK.out _ _ ⟨t0, t1, t2, t3, t4, (sb.step hb)⟩ (fun hS => ?_)
          clear hK K hb s0 t0 s1 t1 s2 t2 s3 t3 s4 t4 sb
          try simp only [Act.put, zA, zB, zC]
          (refine tk 36 ?_ rfl (Or.inl ⟨by rfl, ?_⟩) hS ?_; rotate_left; focus (intro w' hSw; obtain ⟨s0, s1, s2, s3, s4, sb⟩ := hSw; go_simp <;> try with_reducible rfl))
          try simp only [Act.put, zA, zB, zC]
          (refine tk 37 ?_ rfl (Or.inl ⟨by rfl, ?_⟩) hS ?_; rotate_left; focus (intro w' hSw; obtain ⟨s0, s1, s2, s3, s4, sb⟩ := hSw; go_simp <;> try with_reducible rfl))
          try simp only [Act.put, zA, zB, zC]
          refine wpAnyH_done (by kernel_rfl) ?_ _
          obtain ⟨s0, s1, s2, s3, s4, sb⟩ := hS
          go_wp2
          go_ret
          exact ⟨rfl, sb.bl⟩
end Go.Proofs.Ytkddgjaflcjhiaa
