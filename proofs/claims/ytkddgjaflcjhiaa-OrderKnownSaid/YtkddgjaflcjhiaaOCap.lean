/-
  Capabilities as one thing: their fields, their values, a list of them as a slice holds it. No condition.
-/
import Derived.Test.YtkddgjaflcjhiaaCapEq
import Derived.Test.YtkddgjaflcjhiaaCAt
import Derived.LoopTactic
import Derived.Deep.RegionLaw
namespace Go.Proofs.Ytkddgjaflcjhiaa
open Go.ChangeShapes Go.WideShapes Go.ChangeAt Go.RowKit
set_option linter.unusedVariables false
set_option linter.unusedSimpArgs false

/-- A capability's fields. -/
structure Cp where
  tg : Bool
  pe : Int
  ty : Int
  mo : Int
  e : Int
  b : Int
  t : Int
  g : Bool
  a : Int
theorem Cp.ext_iff' (x y : Cp) : x = y ↔ x.tg = y.tg ∧ x.pe = y.pe ∧ x.ty = y.ty ∧ x.mo = y.mo ∧ x.e = y.e ∧ x.b = y.b ∧ x.t = y.t ∧ x.g = y.g ∧ x.a = y.a := by
  cases x; cases y; simp
def Cp.eqB (x y : Cp) : Bool := capB x.tg x.pe x.ty x.mo x.e x.b x.t x.g x.a y.tg y.pe y.ty y.mo y.e y.b y.t y.g y.a
theorem Cp.eqB_iff (x y : Cp) : x.eqB y = true ↔ x = y := by
  rw [Cp.ext_iff']; simp [Cp.eqB, capB, and_assoc]
instance : DecidableEq Cp := fun x y => decidable_of_iff _ (Cp.eqB_iff x y)
theorem Cp.eqB_self (x : Cp) : x.eqB x = true := (Cp.eqB_iff x x).2 rfl
/-- Its nine values. -/
def Cp.vs (c : Cp) : List Value := [c.tg, c.pe, c.ty, c.mo, c.e, c.b, c.t, c.g, .int .u64 c.a]
theorem Cp.vs_len (c : Cp) : c.vs.length = 9 := rfl
/-- A capability lies in nine cells. -/
def Row (w : World) (b o : Nat) (c : Cp) : Prop := ∀ (i : Nat) (v : Value), c.vs[i]? = some v → w.cell? ⟨b, o + i, none⟩ = some v
theorem Row.out {w : World} {b o : Nat} {c : Cp} (h : Row w b o c) : w.cell? ⟨b, o, none⟩ = some (.bool c.tg) ∧ w.cell? ⟨b, o + 1, none⟩ = some (.int .i64 c.pe) ∧ w.cell? ⟨b, o + 2, none⟩ = some (.int .i64 c.ty) ∧ w.cell? ⟨b, o + 3, none⟩ = some (.int .i64 c.mo) ∧ w.cell? ⟨b, o + 4, none⟩ = some (.int .i64 c.e) ∧ w.cell? ⟨b, o + 5, none⟩ = some (.int .i64 c.b) ∧ w.cell? ⟨b, o + 6, none⟩ = some (.int .i64 c.t) ∧ w.cell? ⟨b, o + 7, none⟩ = some (.bool c.g) ∧ w.cell? ⟨b, o + 8, none⟩ = some (.int .u64 c.a) := ⟨h 0 _ rfl, h 1 _ rfl, h 2 _ rfl, h 3 _ rfl, h 4 _ rfl, h 5 _ rfl, h 6 _ rfl, h 7 _ rfl, h 8 _ rfl⟩
/-- A slice of so many elements at that address holds these capabilities, in a block below B. -/
def Rd (w : World) (B : Nat) (A : Option Addr) (L : List Cp) : Prop := 0 < L.length → ∃ b o, A = some ⟨b, o, none⟩ ∧ b < B ∧ ∀ (i : Nat) (c : Cp), L[i]? = some c → Row w b (o + i * 9) c
theorem At.of9 {B : Nat} {w : World} {v0 v1 v2 v3 v4 v5 v6 v7 v8 : Value} (h0 : w.cell? ⟨B, 0, none⟩ = some v0) (h1 : w.cell? ⟨B, 1, none⟩ = some v1) (h2 : w.cell? ⟨B, 2, none⟩ = some v2) (h3 : w.cell? ⟨B, 3, none⟩ = some v3) (h4 : w.cell? ⟨B, 4, none⟩ = some v4) (h5 : w.cell? ⟨B, 5, none⟩ = some v5) (h6 : w.cell? ⟨B, 6, none⟩ = some v6) (h7 : w.cell? ⟨B, 7, none⟩ = some v7) (h8 : w.cell? ⟨B, 8, none⟩ = some v8) : At B [v0, v1, v2, v3, v4, v5, v6, v7, v8] w := fun i v hi => by
  match i with
  | 0 => (simp at hi; subst hi; exact h0)
  | 1 => (simp at hi; subst hi; exact h1)
  | 2 => (simp at hi; subst hi; exact h2)
  | 3 => (simp at hi; subst hi; exact h3)
  | 4 => (simp at hi; subst hi; exact h4)
  | 5 => (simp at hi; subst hi; exact h5)
  | 6 => (simp at hi; subst hi; exact h6)
  | 7 => (simp at hi; subst hi; exact h7)
  | 8 => (simp at hi; subst hi; exact h8)  | n + 9 => simp at hi
theorem Rd.nil (w : World) (B : Nat) (A : Option Addr) : Rd w B A [] := fun h => absurd h (by simp)
theorem Row.keep {w w' : World} {b o : Nat} {c : Cp} (h : Row w b o c) (k : ∀ p : Addr, p.block = b → w'.cell? p = w.cell? p) : Row w' b o c := fun i v hi => (k _ rfl).trans (h i v hi)
theorem Rd.keep {w w' : World} {B : Nat} {A : Option Addr} {L : List Cp} (h : Rd w B A L) (k : ∀ p : Addr, p.block < B → w'.cell? p = w.cell? p) : Rd w' B A L := fun hn => by
  obtain ⟨b, o, rfl, hb, hr⟩ := h hn
  exact ⟨b, o, rfl, hb, fun i c hi => (hr i c hi).keep fun p hp => k p (hp ▸ hb)⟩
theorem Rd.more {w : World} {B B' : Nat} {A : Option Addr} {L : List Cp} (h : Rd w B A L) (hB : B ≤ B') : Rd w B' A L := fun hn => by
  obtain ⟨b, o, rfl, hb, hr⟩ := h hn
  exact ⟨b, o, rfl, by omega, hr⟩
theorem Rd.kp {w w' : World} {B : Nat} {A : Option Addr} {L : List Cp} (h : Rd w B A L) (k : Kp w w') (hB : B ≤ w.heap.size) : Rd w' B A L := h.keep fun p hp => k.cell (by omega)
theorem Rd.drew {w : World} {B : Nat} {A : Option Addr} {L : List Cp} (h : Rd w B A L) : Rd w.drew B A L := h
theorem Rd.alloc {w : World} {B : Nat} {A : Option Addr} {L : List Cp} (h : Rd w B A L) (hB : B ≤ w.heap.size) (o : Obj) : Rd (w.alloc o) B A L := h.keep fun p hp => World.cell?_alloc_lt w o p (by omega)
theorem Rd.at_ {w : World} {B : Nat} {A : Option Addr} {L : List Cp} (h : Rd w B A L) {k : Nat} (hk : k < L.length) : ∃ b o, A = some ⟨b, o, none⟩ ∧ b < B ∧ ∃ c, L[k]? = some c ∧ Row w b (o + k * 9) c := by
  obtain ⟨b, o, e, hb, hr⟩ := h (by omega)
  exact ⟨b, o, e, hb, L[k], List.getElem?_eq_getElem hk, hr k _ (List.getElem?_eq_getElem hk)⟩
theorem Rd.take {w : World} {B : Nat} {A : Option Addr} {L : List Cp} (h : Rd w B A L) (n : Nat) : Rd w B A (L.take n) := fun hn => by
  obtain ⟨b, o, e, hb, hr⟩ := h (by simp at hn; omega)
  refine ⟨b, o, e, hb, fun i c hi => hr i c ?_⟩
  rw [List.getElem?_take] at hi
  split at hi
  · exact hi
  · cases hi
end Go.Proofs.Ytkddgjaflcjhiaa
