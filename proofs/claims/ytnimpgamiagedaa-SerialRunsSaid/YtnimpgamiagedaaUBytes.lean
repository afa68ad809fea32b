/-
  Lists of integers that are read, and made; the statements' SameBytes and Pick. No condition.
-/
import Derived.Test.YtnimpgamiagedaaQFr
namespace Go.Proofs.Ytnimpgamiagedaa
open Go.ChangeShapes Go.WideShapes Go.ChangeAt Go.RowKit
set_option linter.unusedVariables false
set_option linter.unusedSimpArgs false
/-- A slice's value that reads as a list of integers. -/
def RdB (w : World) (v : Value) (L : List Int) : Prop :=
  ∃ A cap, v = .slice A L.length cap ∧ L.length ≤ cap ∧ ∀ i x, L[i]? = some x → ∃ g, A = some ⟨g, 0, none⟩ ∧ g < w.heap.size ∧ w.cell? ⟨g, i, none⟩ = some (.int .u8 x)
theorem RdB.kp {w w' : World} {v : Value} {L : List Int} (h : RdB w v L) (k : Kp w w') : RdB w' v L := by
  obtain ⟨A, cap, e, hc, hr⟩ := h
  refine ⟨A, cap, e, hc, fun i x hx => ?_⟩
  obtain ⟨g, ea, hg, hcell⟩ := hr i x hx
  exact ⟨g, ea, Nat.lt_of_lt_of_le hg k.size, (k.cell (p := ⟨g, i, none⟩) hg).trans hcell⟩
theorem RdB.below {w w' : World} {v : Value} {L : List Int} (h : RdB w v L) (k : Below w.heap.size w w') : RdB w' v L := by
  obtain ⟨A, cap, e, hc, hr⟩ := h
  refine ⟨A, cap, e, hc, fun i x hx => ?_⟩
  obtain ⟨g, ea, hg, hcell⟩ := hr i x hx
  exact ⟨g, ea, Nat.lt_of_lt_of_le hg k.size, (k.cell (p := ⟨g, i, none⟩) hg).trans hcell⟩
/-- A row of integers that a call owns. -/
def OwnB (w : World) (B : Nat) (v : Value) (L : List Int) : Prop := w.ownsRow B 5 1 v L.length (L.map (.int .u8))
theorem OwnB.nil (w : World) (B : Nat) : OwnB w B (.slice none 0 0) [] := World.ownsRow_nil w B _ 1
theorem OwnB.len_v {w : World} {B : Nat} {v : Value} {L : List Int} (h : OwnB w B v L) : ∃ A n, v = .slice A L.length n := by
  obtain ⟨hx, ⟨rfl, h0⟩ | ⟨g, cap, cur, rfl, hb, hg, hc, hm, hs, ht⟩⟩ := h
  · exact ⟨none, 0, by rw [h0]⟩
  · exact ⟨_, _, rfl⟩
theorem OwnB.rd {w : World} {B : Nat} {v : Value} {L : List Int} (h : OwnB w B v L) : RdB w v L := by
  obtain ⟨hx, ⟨rfl, hn⟩ | ⟨g, cap, cur, rfl, hb, hg, hn, hcap, hs, ht⟩⟩ := h
  · have e : L = [] := List.eq_nil_of_length_eq_zero hn
    subst e
    exact ⟨none, 0, rfl, Nat.le_refl _, fun i x hx => by simp at hx⟩
  · refine ⟨some ⟨g, 0, none⟩, cap, rfl, hn, fun i x hi => ⟨g, rfl, ?_, ?_⟩⟩
    · rcases Nat.lt_or_ge g w.heap.size with l | l
      · exact l
      · rw [Array.getElem?_eq_none l] at hg; cases hg
    · rw [cell_of_row w g i _ _ (0, 0) hg, ← Array.getElem?_toList]
      have e : (cur.toList.take (L.length * 1))[i]? = some (.int .u8 x) := by rw [ht, List.getElem?_map, hi]; rfl
      have hlt : i < L.length := by
        rcases Nat.lt_or_ge i L.length with l | l
        · exact l
        · rw [List.getElem?_eq_none l] at hi; cases hi
      rwa [List.getElem?_take_of_lt (by omega)] at e
theorem OwnB.below {w w' : World} {B : Nat} {v : Value} {L : List Int} (h : OwnB w B v L) (k : Below w.heap.size w w') : OwnB w' B v L := by
  obtain ⟨hx, ⟨rfl, h0⟩ | ⟨g, cap, cur, rfl, hb, hg, hc, hm, hs, ht⟩⟩ := h
  · exact ⟨hx, .inl ⟨rfl, h0⟩⟩
  · refine ⟨hx, .inr ⟨g, cap, cur, rfl, hb, ?_, hc, hm, hs, ht⟩⟩
    have hlt : g < w.heap.size := by
      rcases Nat.lt_or_ge g w.heap.size with l | l
      · exact l
      · rw [Array.getElem?_eq_none l] at hg; cases hg
    rw [k.block g hlt]; exact hg
/-- Through what turns other blocks. -/
theorem OwnB.fr {w w' : World} {B : Nat} {v : Value} {L : List Int} {S : Nat → Prop} (h : OwnB w B v L) (k : Fr w w' S) (hS : ∀ g, v.ownBlock = some g → ¬ S g) : OwnB w' B v L := by
  obtain ⟨hx, ⟨rfl, h0⟩ | ⟨g, cap, cur, rfl, hb, hg, hc, hm, hs, ht⟩⟩ := h
  · exact ⟨hx, .inl ⟨rfl, h0⟩⟩
  · refine ⟨hx, .inr ⟨g, cap, cur, rfl, hb, ?_, hc, hm, hs, ht⟩⟩
    have hlt : g < w.heap.size := by
      rcases Nat.lt_or_ge g w.heap.size with l | l
      · exact l
      · rw [Array.getElem?_eq_none l] at hg; cases hg
    rw [k.block g hlt (hS g rfl)]; exact hg
theorem OwnB.blk {w : World} {B : Nat} {v : Value} {L : List Int} (h : OwnB w B v L) {g : Nat} (e : v.ownBlock = some g) : B ≤ g ∧ g < w.heap.size := by
  obtain ⟨hx, ⟨rfl, h0⟩ | ⟨g', cap, cur, rfl, hb, hg, hc, hm, hs, ht⟩⟩ := h
  · cases e
  · have : g' = g := by simpa [Value.ownBlock] using e
    subst this
    refine ⟨hb, ?_⟩
    rcases Nat.lt_or_ge g' w.heap.size with l | l
    · exact l
    · rw [Array.getElem?_eq_none l] at hg; cases hg
theorem OwnB.mono {w : World} {B B' : Nat} {v : Value} {L : List Int} (h : OwnB w B v L) (hB : B' ≤ B) : OwnB w B' v L := by
  obtain ⟨hx, ⟨rfl, h0⟩ | ⟨g', cap, cur, rfl, hb, hg, hc, hm, hs, ht⟩⟩ := h
  · exact ⟨hx, .inl ⟨rfl, h0⟩⟩
  · exact ⟨hx, .inr ⟨g', cap, cur, rfl, by omega, hg, hc, hm, hs, ht⟩⟩
theorem OwnB.shape {w : World} {B : Nat} {v : Value} {L : List Int} (h : OwnB w B v L) : ∃ A cap, v = .slice A L.length cap ∧ L.length ≤ cap := by
  obtain ⟨A, cap, e, hc, _⟩ := h.rd
  exact ⟨A, cap, e, hc⟩
theorem byte_info : (Try.prog.info? 5).map (fun i => (i.zero, i.size, i.bytes)) = some (some (.int .u8 0), 1, 1) := by kernel_rfl
/-- append of one integer to a row of the call's own. -/
theorem app_b {w : World} {ops : Array Oper} {rest : List Oper} {o : Oper} {a : Act} {Q : Exit → Act → World → Prop} (hgd : o.guard = none) (s x : Operand)
    (ho : o.op = .call { callee := .builtin .append, args := #[s, x], argTypes := #[46, 46] }) (B : Nat) (v : Value) (L : List Int) (hs : a.eval s = v) (hown : OwnB w B v L)
    (ad : Addr) (c : Nat) (d : Int) (hx : a.eval x = .slice (some ad) 1 c) (hnews : w.cell? ad = some (.int .u8 d)) (hl : L.length < 1000000) (hbase : B ≤ w.heap.size) (H : Nat) (hH : w.heap.size = H)
    (h : ∀ g cap w', OwnB w' B (.slice (some ⟨g, 0, none⟩) (L.length + 1) cap) (L ++ [d]) → w.grownBy w' v.ownBlock → (v.ownBlock = some g ∨ g = H) → g < w'.heap.size → wpList Try.prog ops Q rest (a.put o.dst (.slice (some ⟨g, 0, none⟩) (L.length + 1) cap)) w') :
    wpList Try.prog ops Q (o :: rest) a w := by
  obtain ⟨i0, hi, hz0, hz1, hz2⟩ := info_parts byte_info
  refine wpList_append_lies w hgd s x _ ho B _ i0 _ 1 1 Try.underlying46 hi hz0 hz1 hz2 rfl (by omega) v L.length (L.map (.int .u8)) hs hown ad 1 c [.int .u8 d] hx rfl (fun j u hj => ?_) (fun u hu => ?_) (by omega) (by unfold maxLen; omega) (by omega) hbase H hH ?_
  · cases j with
    | zero => simp at hj; subst hj; rw [show ad.add 0 = ad by unfold Addr.add; split <;> simp_all]; exact hnews
    | succ j => simp at hj
  · simp at hu; subst hu; rfl
  · intro g cap w1 hown1 hg h1 h2
    exact h g cap w1 (by unfold OwnB; rw [List.map_append, List.length_append]; exact hown1) hg h1 h2
set_option maxHeartbeats 4000000 in
theorem sameB_w (L M : List Int) (v v' : Value) (w : World) (h : RdB w v L) (h' : RdB w v' M) (hl : L.length ≤ 1000000) (hm : M.length ≤ 1000000) (b : Bool) (hb : decide (L = M) = b) :
    Calls Try.prog 31 #[v, v'] w fun e w' => e = .returned (.bool b) ∧ Kp w w' := by
  obtain ⟨A, cap, rfl, hc, hr⟩ := h
  obtain ⟨A', cap', rfl, hc', hr'⟩ := h'
  have HR := Lib.hid hr
  have HR' := Lib.hid hr'
  have HB := Lib.hid hb
  clear hr hr' hb
  by_cases hlen : L.length = M.length
  · have e1 : ((L.length : Int) == (M.length : Int)) = true := by rw [hlen]; simp
    have e2 : ((L.length : Int) != (M.length : Int)) = false := by rw [hlen]; simp
    go_enter Try.func31, Try.ntmps31
    go_wp2
    clear e1 e2
    go_loopw [5] (fun i wr => ∃ k : Nat, k ≤ L.length ∧ i = .int .i64 k ∧ L.take k = M.take k ∧ Kp w wr) (fun i _ => L.length - (intOf i).toNat)
    case atStart => exact ⟨0, Nat.zero_le _, rfl, by simp, Kp.refl w⟩
    case round =>
      obtain ⟨k, hk, rfl, hx, hkp⟩ := hrel
      have HX := Lib.hid hx
      have HKP := Lib.hid hkp
      clear hx hkp
      by_cases hlt : k < L.length
      · obtain ⟨c, hc⟩ : ∃ c, L[k]? = some c := ⟨_, List.getElem?_eq_getElem hlt⟩
        obtain ⟨d, hd⟩ : ∃ d, M[k]? = some d := ⟨_, List.getElem?_eq_getElem (by omega)⟩
        obtain ⟨g, rfl, hg, r0⟩ := HR.out k c hc
        obtain ⟨g', rfl, hg', r1⟩ := HR'.out k d hd
        have s0 := (HKP.out.cell (p := ⟨g, k, none⟩) hg).trans r0
        have s1 := (HKP.out.cell (p := ⟨g', k, none⟩) hg').trans r1
        have hlt' : k < M.length := by omega
        have HC := Lib.hid hc
        have HD := Lib.hid hd
        clear hc hd r0 r1
        by_cases ev : c = d
        · have E : (c != d) = false := by simpa using ev
          have HV := Lib.hid ev
          clear ev
          go_wp2
          go_quiet (fail)
          go_wp2
          go_roundw
          case rel => exact ⟨k + 1, by omega, by go_num, by rw [List.take_add_one, List.take_add_one, HC.out, HD.out, HX.out, HV.out], HKP.out.drewN _⟩
          case measure => simp [intOf]; omega
        · have E : (c != d) = true := by simpa using ev
          have HV := Lib.hid ev
          clear ev
          go_wp2
          go_quiet (fail)
          go_wp2
          go_ret
          exact ⟨ret_bool (by
            rw [← HB.out, eq_comm, decide_eq_false_iff_not]
            rintro rfl
            exact HV.out (Option.some.inj (HC.out.symm.trans HD.out))), HKP.out.drewN _⟩
      · go_wp2
        go_ret
        exact ⟨ret_bool (by
          rw [← HB.out, eq_comm, decide_eq_true_eq]
          have e := HX.out
          rwa [List.take_of_length_le (by omega), List.take_of_length_le (by omega)] at e), HKP.out⟩
  · have e1 : ((L.length : Int) == (M.length : Int)) = false := by simp; omega
    have e2 : ((L.length : Int) != (M.length : Int)) = true := by simp; omega
    go_enter Try.func31, Try.ntmps31
    go_wp2
    go_ret
    exact ⟨ret_bool (by
      rw [← HB.out, eq_comm, decide_eq_false_iff_not]
      rintro rfl
      exact hlen rfl), Kp.refl w⟩
end Go.Proofs.Ytnimpgamiagedaa
