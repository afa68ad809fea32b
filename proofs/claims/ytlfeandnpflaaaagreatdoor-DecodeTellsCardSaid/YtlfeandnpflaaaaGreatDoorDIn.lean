/-
  Contract of the document's 'in' for layer 9: is a number one of a list? No condition but the list's length.
-/
import Derived.Test.YtlfeandnpflaaaaGreatDoorMI
import Derived.Test.YtlfeandnpflaaaaGreatDoorMA
namespace Go.Proofs.YtlfeandnpflaaaaGreatDoor
open Go.ChangeShapes Go.WideShapes Go.ChangeAt Go.RowKit
set_option linter.unusedVariables false
set_option linter.unusedSimpArgs false

def inB (n : Int) (l : List Int) : Bool := l.contains n
theorem in9_w (n : Int) (l : List Int) (v : Bool) (hv : inB n l = v) (hl : l.length ≤ 1000) (B : Nat) (w : World) (h : At B (l.map (Value.int .i64)) w) :
    Calls Tryz.prog 96 #[.int .i64 n, .slice (some ⟨B, 0, none⟩) l.length l.length] w fun e w' => e = .returned (.bool v) ∧ Kp w w' := by
  have HA := Lib.hid h
  have HV := Lib.hid hv
  clear h hv
  go_enter Tryz.func96, Tryz.ntmps96
  go_wp2
  go_loopw [5] (fun i wr => ∃ k : Nat, k ≤ l.length ∧ i = .int .i64 k ∧ n ∉ l.take k ∧ w = wr) (fun i _ => l.length - (intOf i).toNat)
  case atStart => exact ⟨0, Nat.zero_le _, rfl, by simp, rfl⟩
  case round =>
    obtain ⟨k, hk, rfl, hx, rfl⟩ := hrel
    have HX := Lib.hid hx
    clear hx
    by_cases hlt : k < l.length
    · obtain ⟨c, hc⟩ : ∃ c, l[k]? = some c := ⟨l[k], by simp [hlt]⟩
      have hm : w.cell? ⟨B, k, none⟩ = some (.int .i64 c) := HA.out k (.int .i64 c) (by simp [hc])
      have HC := Lib.hid hc
      clear hc
      by_cases ev : c = n
      · have E : (c == n) = true := by simp [ev]
        have HE := Lib.hid ev
        clear ev
        go_wp2
        go_ret
        refine ⟨ret_bool ?_, Kp.refl _⟩
        rw [← HV.out, inB]
        symm
        rw [List.contains_iff_mem, ← HE.out]
        exact List.mem_of_getElem? HC.out
      · have E : (c == n) = false := by simp [ev]
        have HE := Lib.hid ev
        clear ev
        go_wp2
        go_roundw
        case rel => exact ⟨k + 1, by omega, by go_num, by
          rw [List.take_add_one, HC.out]; simp only [List.mem_append, not_or]; exact ⟨HX.out, by simpa using fun e => HE.out e.symm⟩, by first | rfl | trivial⟩
        case measure => simp [intOf]; omega
    · have hke : k = l.length := by omega
      go_wp2
      go_ret
      refine ⟨ret_bool ?_, Kp.refl _⟩
      rw [← HV.out, inB]
      have := HX.out
      rw [hke, List.take_length] at this
      simp [List.contains_iff_mem, this]
theorem in9_at (n : Int) (l : List Int) (v : Bool) (hv : inB n l = v) (L : List Value) (hL : l.map (Value.int .i64) = L) (N : Nat) (hN : l.length = N) (hl : N ≤ 1000) (B : Nat) (w : World) (h : At B L w) :
    Calls Tryz.prog 96 #[.int .i64 n, .slice (some ⟨B, 0, none⟩) N N] w fun e w' => e = .returned (.bool v) ∧ Kp w w' := by
  subst hN hL; exact in9_w n l v hv hl B w h
theorem sto_in (n : Int) (h0 : 0 ≤ n) (h1 : n < 32) : inB n [0, 1, 2, 3, 7, 8, 9, 10, 11, 15] = stoB n := by
  obtain ⟨k, rfl⟩ := Int.eq_ofNat_of_zero_le h0
  have h2 : k < 32 := by omega
  have key : ∀ k : Fin 32, inB (k.1 : Int) [0, 1, 2, 3, 7, 8, 9, 10, 11, 15] = stoB (k.1 : Int) := by decide
  exact key ⟨k, h2⟩
theorem two_in (n : Int) (h0 : 0 ≤ n) (h1 : n < 128) : inB n [8, 9, 11, 12, 13, 14, 15, 16, 17, 18, 19, 20, 29, 30, 32] = twoB n := by
  obtain ⟨k, rfl⟩ := Int.eq_ofNat_of_zero_le h0
  have h2 : k < 128 := by omega
  have key : ∀ k : Fin 128, inB (k.1 : Int) [8, 9, 11, 12, 13, 14, 15, 16, 17, 18, 19, 20, 29, 30, 32] = twoB (k.1 : Int) := by decide
  exact key ⟨k, h2⟩
theorem get_in (n : Int) (h0 : 0 ≤ n) (h1 : n < 32) : (decide (n ≤ 11) || inB n [15, 17, 24]) = getB n := by
  obtain ⟨k, rfl⟩ := Int.eq_ofNat_of_zero_le h0
  have h2 : k < 32 := by omega
  have key : ∀ k : Fin 32, (decide ((k.1 : Int) ≤ 11) || inB (k.1 : Int) [15, 17, 24]) = getB (k.1 : Int) := by decide
  exact key ⟨k, h2⟩
end Go.Proofs.YtlfeandnpflaaaaGreatDoor
