/-
  OrderAgain: what can come of some, and of something that can come of them, can come of them; what can come of some can come of more: the walk of the law. No condition.
-/
import Derived.Test.YtkddgjaflcjhiaaOWorks
import Derived.Test.YtkddgjaflcjhiaaOHasL
namespace Go.Proofs.Ytkddgjaflcjhiaa
open Go.ChangeShapes Go.WideShapes Go.ChangeAt Go.RowKit Go.Maps
set_option linter.unusedVariables false
set_option linter.unusedSimpArgs false
set_option maxHeartbeats 2000000 in
set_option maxRecDepth 100000 in
theorem again_long (l : List Cp) (A : Option Addr) (n : Nat) (d c : Cp) (w : World) (h : Rd w w.heap.size A l) (hraw : ∀ x ∈ l, Raw x) (hlen : l.length ≤ 9223372036854775807) (rd : Raw d) (rc : Raw c) (hg : 39 < l.length) :
    Calls Try.prog 9 #[.slice A l.length n, .agg #[d.tg, d.pe, d.ty, d.mo, d.e, d.b, d.t, d.g, .int .u64 d.a], .agg #[c.tg, c.pe, c.ty, c.mo, c.e, c.b, c.t, c.g, .int .u64 c.a]] w fun e' w' => e' = .returned (.bool true) ∧ Below w.heap.size w w' := by
  have D2 : At (w.heap.size) [d.tg, d.pe, d.ty, d.mo, d.e, d.b, d.t, d.g, .int .u64 d.a] ((w.alloc (.cells #[d.tg, d.pe, d.ty, d.mo, d.e, d.b, d.t, d.g, .int .u64 d.a] 25)).alloc (.cells #[c.tg, c.pe, c.ty, c.mo, c.e, c.b, c.t, c.g, .int .u64 c.a] 25)) := (At.new w [d.tg, d.pe, d.ty, d.mo, d.e, d.b, d.t, d.g, .int .u64 d.a] 25).alloc _
  have C2 : At (w.heap.size + 1) [c.tg, c.pe, c.ty, c.mo, c.e, c.b, c.t, c.g, .int .u64 c.a] ((w.alloc (.cells #[d.tg, d.pe, d.ty, d.mo, d.e, d.b, d.t, d.g, .int .u64 d.a] 25)).alloc (.cells #[c.tg, c.pe, c.ty, c.mo, c.e, c.b, c.t, c.g, .int .u64 c.a] 25)) := At.new' (w.alloc (.cells #[d.tg, d.pe, d.ty, d.mo, d.e, d.b, d.t, d.g, .int .u64 d.a] 25)) [c.tg, c.pe, c.ty, c.mo, c.e, c.b, c.t, c.g, .int .u64 c.a] 25 (by simp)
  have L2 : Bl w (w.heap.size + 1 + 1) ((w.alloc (.cells #[d.tg, d.pe, d.ty, d.mo, d.e, d.b, d.t, d.g, .int .u64 d.a] 25)).alloc (.cells #[c.tg, c.pe, c.ty, c.mo, c.e, c.b, c.t, c.g, .int .u64 c.a] 25)) := ⟨((Below.refl _ _).alloc (Nat.le_refl _) _).alloc (by simp) _, by omega, by simp⟩
  go_enter Try.func9, Try.ntmps9
  go_upto_region 1 with fail
  generalize hw0 : ((w.alloc (.cells #[d.tg, d.pe, d.ty, d.mo, d.e, d.b, d.t, d.g, .int .u64 d.a] 25)).alloc (.cells #[c.tg, c.pe, c.ty, c.mo, c.e, c.b, c.t, c.g, .int .u64 c.a] 25)) = w0 at D2 C2 L2 ⊢
  clear hw0
  have le0 := L2.le
  obtain ⟨_, _, _, _, _, _, _, _, _⟩ := D2.out9
  obtain ⟨_, _, _, _, _, _, _, _, _⟩ := C2.out9
  have HD2 := Lib.hid D2
  have HC2 := Lib.hid C2
  have HL2 := Lib.hid L2
  clear D2 C2 L2
  go_wp2_with (go_at_call 13; (with_reducible refine (works_w _).mono ?_); rintro e' wz ⟨rfl, hbz⟩; have BZ := Lib.hid (HL2.out.step hbz).bl; clear hbz)
  go_ret
  exact ⟨rfl, BZ.out⟩
set_option maxHeartbeats 2000000 in
set_option maxRecDepth 100000 in
theorem again_r1 (l : List Cp) (A : Option Addr) (n : Nat) (d c : Cp) (w : World) (h : Rd w w.heap.size A l) (hraw : ∀ x ∈ l, Raw x) (hlen : l.length ≤ 9223372036854775807) (rd : Raw d) (rc : Raw c) (hg : ¬ 39 < l.length) (hr1 : rightL l = false) :
    Calls Try.prog 9 #[.slice A l.length n, .agg #[d.tg, d.pe, d.ty, d.mo, d.e, d.b, d.t, d.g, .int .u64 d.a], .agg #[c.tg, c.pe, c.ty, c.mo, c.e, c.b, c.t, c.g, .int .u64 c.a]] w fun e' w' => e' = .returned (.bool true) ∧ Below w.heap.size w w' := by
  have HRL : Hid (∀ wx : World, Below w.heap.size w wx → Calls Try.prog 20 #[.slice A l.length n] wx fun e' w' => e' = .returned (.bool false) ∧ Kp wx w') := Lib.hid (fun wx hb => rightl_b l A n wx ((h.keep (w' := wx) fun p hp => hb.cell hp).more hb.size) hlen hraw false hr1)
  have D2 : At (w.heap.size) [d.tg, d.pe, d.ty, d.mo, d.e, d.b, d.t, d.g, .int .u64 d.a] ((w.alloc (.cells #[d.tg, d.pe, d.ty, d.mo, d.e, d.b, d.t, d.g, .int .u64 d.a] 25)).alloc (.cells #[c.tg, c.pe, c.ty, c.mo, c.e, c.b, c.t, c.g, .int .u64 c.a] 25)) := (At.new w [d.tg, d.pe, d.ty, d.mo, d.e, d.b, d.t, d.g, .int .u64 d.a] 25).alloc _
  have C2 : At (w.heap.size + 1) [c.tg, c.pe, c.ty, c.mo, c.e, c.b, c.t, c.g, .int .u64 c.a] ((w.alloc (.cells #[d.tg, d.pe, d.ty, d.mo, d.e, d.b, d.t, d.g, .int .u64 d.a] 25)).alloc (.cells #[c.tg, c.pe, c.ty, c.mo, c.e, c.b, c.t, c.g, .int .u64 c.a] 25)) := At.new' (w.alloc (.cells #[d.tg, d.pe, d.ty, d.mo, d.e, d.b, d.t, d.g, .int .u64 d.a] 25)) [c.tg, c.pe, c.ty, c.mo, c.e, c.b, c.t, c.g, .int .u64 c.a] 25 (by simp)
  have L2 : Bl w (w.heap.size + 1 + 1) ((w.alloc (.cells #[d.tg, d.pe, d.ty, d.mo, d.e, d.b, d.t, d.g, .int .u64 d.a] 25)).alloc (.cells #[c.tg, c.pe, c.ty, c.mo, c.e, c.b, c.t, c.g, .int .u64 c.a] 25)) := ⟨((Below.refl _ _).alloc (Nat.le_refl _) _).alloc (by simp) _, by omega, by simp⟩
  clear hr1 hraw
  go_enter Try.func9, Try.ntmps9
  go_upto_region 1 with fail
  generalize hw0 : ((w.alloc (.cells #[d.tg, d.pe, d.ty, d.mo, d.e, d.b, d.t, d.g, .int .u64 d.a] 25)).alloc (.cells #[c.tg, c.pe, c.ty, c.mo, c.e, c.b, c.t, c.g, .int .u64 c.a] 25)) = w0 at D2 C2 L2 ⊢
  clear hw0
  have le0 := L2.le
  obtain ⟨_, _, _, _, _, _, _, _, _⟩ := D2.out9
  obtain ⟨_, _, _, _, _, _, _, _, _⟩ := C2.out9
  have HD2 := Lib.hid D2
  have HC2 := Lib.hid C2
  have HL2 := Lib.hid L2
  clear D2 C2 L2
  go_wp2_with (first | (go_at_call 20; (with_reducible refine (HRL.out _ HL2.out.bl).mono ?_); rintro e' w1 ⟨rfl, qk⟩; have D3 := HD2.out.kp qk (by omega); have C3 := HC2.out.kp qk (by omega); have L3 := HL2.out.step qk.1; obtain ⟨_, _, _, _, _, _, _, _, _⟩ := D3.out9; obtain ⟨_, _, _, _, _, _, _, _, _⟩ := C3.out9; have le1 := L3.le; have HD3 := Lib.hid D3; have HC3 := Lib.hid C3; have HL3 := Lib.hid L3; clear qk D3 C3 L3) | (go_at_call 13; (with_reducible refine (works_w _).mono ?_); rintro e' wz ⟨rfl, hbz⟩; have BZ := Lib.hid (HL3.out.step hbz).bl; clear hbz))
  go_ret
  exact ⟨rfl, BZ.out⟩
set_option maxHeartbeats 2000000 in
set_option maxRecDepth 100000 in
theorem again_r2 (l : List Cp) (A : Option Addr) (n : Nat) (d c : Cp) (w : World) (h : Rd w w.heap.size A l) (hraw : ∀ x ∈ l, Raw x) (hlen : l.length ≤ 9223372036854775807) (rd : Raw d) (rc : Raw c) (hg : ¬ 39 < l.length) (hr1 : rightL l = true) (hr2 : rightL [c, d] = false) :
    Calls Try.prog 9 #[.slice A l.length n, .agg #[d.tg, d.pe, d.ty, d.mo, d.e, d.b, d.t, d.g, .int .u64 d.a], .agg #[c.tg, c.pe, c.ty, c.mo, c.e, c.b, c.t, c.g, .int .u64 c.a]] w fun e' w' => e' = .returned (.bool true) ∧ Below w.heap.size w w' := by
  have HRL : Hid (∀ wx : World, Below w.heap.size w wx → Calls Try.prog 20 #[.slice A l.length n] wx fun e' w' => e' = .returned (.bool true) ∧ Kp wx w') := Lib.hid (fun wx hb => rightl_b l A n wx ((h.keep (w' := wx) fun p hp => hb.cell hp).more hb.size) hlen hraw true hr1)
  have HR2 : Hid (∀ (A : Option Addr) (n : Nat) (wx : World), Rd wx wx.heap.size A [c, d] → Calls Try.prog 20 #[.slice A 2 n] wx fun e' w' => e' = .returned (.bool false) ∧ Kp wx w') := Lib.hid (fun A n wx h => rightl_w [c, d] A n wx h (by simp) (by intro x hx; simp at hx; rcases hx with rfl | rfl; exact rc; exact rd) false hr2)
  have HN2 : Hid (∀ wx : World, Rd (wx.alloc (.cells #[c.tg, c.pe, c.ty, c.mo, c.e, c.b, c.t, c.g, .int .u64 c.a, d.tg, d.pe, d.ty, d.mo, d.e, d.b, d.t, d.g, .int .u64 d.a] 25)) (wx.alloc (.cells #[c.tg, c.pe, c.ty, c.mo, c.e, c.b, c.t, c.g, .int .u64 c.a, d.tg, d.pe, d.ty, d.mo, d.e, d.b, d.t, d.g, .int .u64 d.a] 25)).heap.size (some ⟨wx.heap.size, 0, none⟩) [c, d]) := Lib.hid (fun wx => rd_new [c, d] wx)
  have D2 : At (w.heap.size) [d.tg, d.pe, d.ty, d.mo, d.e, d.b, d.t, d.g, .int .u64 d.a] ((w.alloc (.cells #[d.tg, d.pe, d.ty, d.mo, d.e, d.b, d.t, d.g, .int .u64 d.a] 25)).alloc (.cells #[c.tg, c.pe, c.ty, c.mo, c.e, c.b, c.t, c.g, .int .u64 c.a] 25)) := (At.new w [d.tg, d.pe, d.ty, d.mo, d.e, d.b, d.t, d.g, .int .u64 d.a] 25).alloc _
  have C2 : At (w.heap.size + 1) [c.tg, c.pe, c.ty, c.mo, c.e, c.b, c.t, c.g, .int .u64 c.a] ((w.alloc (.cells #[d.tg, d.pe, d.ty, d.mo, d.e, d.b, d.t, d.g, .int .u64 d.a] 25)).alloc (.cells #[c.tg, c.pe, c.ty, c.mo, c.e, c.b, c.t, c.g, .int .u64 c.a] 25)) := At.new' (w.alloc (.cells #[d.tg, d.pe, d.ty, d.mo, d.e, d.b, d.t, d.g, .int .u64 d.a] 25)) [c.tg, c.pe, c.ty, c.mo, c.e, c.b, c.t, c.g, .int .u64 c.a] 25 (by simp)
  have L2 : Bl w (w.heap.size + 1 + 1) ((w.alloc (.cells #[d.tg, d.pe, d.ty, d.mo, d.e, d.b, d.t, d.g, .int .u64 d.a] 25)).alloc (.cells #[c.tg, c.pe, c.ty, c.mo, c.e, c.b, c.t, c.g, .int .u64 c.a] 25)) := ⟨((Below.refl _ _).alloc (Nat.le_refl _) _).alloc (by simp) _, by omega, by simp⟩
  clear hr1 hr2 hraw
  go_enter Try.func9, Try.ntmps9
  go_upto_region 1 with fail
  generalize hw0 : ((w.alloc (.cells #[d.tg, d.pe, d.ty, d.mo, d.e, d.b, d.t, d.g, .int .u64 d.a] 25)).alloc (.cells #[c.tg, c.pe, c.ty, c.mo, c.e, c.b, c.t, c.g, .int .u64 c.a] 25)) = w0 at D2 C2 L2 ⊢
  clear hw0
  have le0 := L2.le
  obtain ⟨_, _, _, _, _, _, _, _, _⟩ := D2.out9
  obtain ⟨_, _, _, _, _, _, _, _, _⟩ := C2.out9
  have HD2 := Lib.hid D2
  have HC2 := Lib.hid C2
  have HL2 := Lib.hid L2
  clear D2 C2 L2
  go_wp2_with (first | (go_at_call 20; (with_reducible refine (HRL.out _ HL2.out.bl).mono ?_); rintro e' w1 ⟨rfl, qk⟩; have D3 := HD2.out.kp qk (by omega); have C3 := HC2.out.kp qk (by omega); have L3 := HL2.out.step qk.1; obtain ⟨_, _, _, _, _, _, _, _, _⟩ := D3.out9; obtain ⟨_, _, _, _, _, _, _, _, _⟩ := C3.out9; have le1 := L3.le; have HD3 := Lib.hid D3; have HC3 := Lib.hid C3; have HL3 := Lib.hid L3; clear qk D3 C3 L3) | (go_at_call 20; (with_reducible refine (HR2.out _ _ _ (HN2.out w1)).mono ?_); rintro e' w2 ⟨rfl, qk⟩; have D4 := (HD3.out.alloc _).kp qk (by simp; omega); have C4 := (HC3.out.alloc _).kp qk (by simp; omega); have L4 := (HL3.out.alloc _).step qk.1; obtain ⟨_, _, _, _, _, _, _, _, _⟩ := D4.out9; obtain ⟨_, _, _, _, _, _, _, _, _⟩ := C4.out9; have le2 := L4.le; have HD4 := Lib.hid D4; have HC4 := Lib.hid C4; have HL4 := Lib.hid L4; clear qk D4 C4 L4) | (go_at_call 13; (with_reducible refine (works_w _).mono ?_); rintro e' wz ⟨rfl, hbz⟩; have BZ := Lib.hid (HL4.out.step hbz).bl; clear hbz))
  go_ret
  exact ⟨rfl, BZ.out⟩
set_option maxHeartbeats 16000000 in
set_option maxRecDepth 100000 in
theorem again_core (l : List Cp) (A : Option Addr) (n : Nat) (d c : Cp) (w : World) (h : Rd w w.heap.size A l) (hraw : ∀ x ∈ l, Raw x) (hlen : l.length ≤ 9223372036854775807) (rd : Raw d) (rc : Raw c) (hg : ¬ 39 < l.length) (hr1 : rightL l = true) (hr2 : rightL [c, d] = true) :
    Calls Try.prog 9 #[.slice A l.length n, .agg #[d.tg, d.pe, d.ty, d.mo, d.e, d.b, d.t, d.g, .int .u64 d.a], .agg #[c.tg, c.pe, c.ty, c.mo, c.e, c.b, c.t, c.g, .int .u64 c.a]] w fun e' w' => e' = .returned (.bool true) ∧ Below w.heap.size w w' := by
  have hr1' := hr1
  rw [rightL, Bool.and_eq_true, List.all_eq_true] at hr1'
  have hr2' := hr2
  rw [rightL, Bool.and_eq_true, List.all_eq_true] at hr2'
  have hL : ∀ x ∈ l, RC x := fun x hx => RC.of_right (hraw x hx) (hr1'.1 x hx)
  have hc := RC.of_right rc (hr2'.1 c (by simp))
  have hd := RC.of_right rd (hr2'.1 d (by simp))
  have hM : ∀ x ∈ l ++ [d], RC x := fun x hx => by
    rcases List.mem_append.1 hx with hx | hx
    · exact hL x hx
    · have : x = d := by simpa using hx
      subst this; exact hd
  obtain ⟨h1, eHLC⟩ : ∃ h1, hasB l c = h1 := ⟨_, rfl⟩
  obtain ⟨h2, eHLD⟩ : ∃ h2, hasB l d = h2 := ⟨_, rfl⟩
  obtain ⟨h3, eHMC⟩ : ∃ h3, hasB (l ++ [d]) c = h3 := ⟨_, rfl⟩
  have eHMD : hasB (l ++ [d]) d = true := has_mem (by simp)
  have way : (h1 = true → h3 = true) ∧ (h2 = true → h3 = h1) := ⟨fun e => by rw [← eHMC]; exact has_more (fun x hx => List.mem_append.2 (.inl hx)) (by rw [eHLC]; exact e), fun e => by rw [← eHMC, ← eHLC]; exact has_again (by rw [eHLD]; exact e)⟩
  have way2 : (h1 = false ∧ h2 = false ∧ h3 = false) ∨ (h1 = false ∧ h2 = false ∧ h3 = true) ∨ (h1 = true ∧ h2 = false ∧ h3 = true) ∨ (h1 = false ∧ h2 = true ∧ h3 = false) ∨ (h1 = true ∧ h2 = true ∧ h3 = true) := by
    obtain ⟨w1, w2⟩ := way
    cases h1 <;> cases h2 <;> cases h3 <;> simp_all
  have HRL : Hid (∀ wx : World, Below w.heap.size w wx → Calls Try.prog 20 #[.slice A l.length n] wx fun e' w' => e' = .returned (.bool true) ∧ Kp wx w') := Lib.hid (fun wx hb => rightl_b l A n wx ((h.keep (w' := wx) fun p hp => hb.cell hp).more hb.size) hlen hraw true hr1)
  have HR2 : Hid (∀ (A : Option Addr) (n : Nat) (wx : World), Rd wx wx.heap.size A [c, d] → Calls Try.prog 20 #[.slice A 2 n] wx fun e' w' => e' = .returned (.bool true) ∧ Kp wx w') := Lib.hid (fun A n wx h => rightl_w [c, d] A n wx h (by simp) (by intro x hx; simp at hx; rcases hx with rfl | rfl; exact rc; exact rd) true hr2)
  have HN2 : Hid (∀ wx : World, Rd (wx.alloc (.cells #[c.tg, c.pe, c.ty, c.mo, c.e, c.b, c.t, c.g, .int .u64 c.a, d.tg, d.pe, d.ty, d.mo, d.e, d.b, d.t, d.g, .int .u64 d.a] 25)) (wx.alloc (.cells #[c.tg, c.pe, c.ty, c.mo, c.e, c.b, c.t, c.g, .int .u64 c.a, d.tg, d.pe, d.ty, d.mo, d.e, d.b, d.t, d.g, .int .u64 d.a] 25)).heap.size (some ⟨wx.heap.size, 0, none⟩) [c, d]) := Lib.hid (fun wx => rd_new [c, d] wx)
  have HLC : Hid (∀ wx : World, Below w.heap.size w wx → Calls Try.prog 27 #[.slice A l.length n, .agg #[c.tg, c.pe, c.ty, c.mo, c.e, c.b, c.t, c.g, .int .u64 c.a]] wx fun e' w' => e' = .returned (.bool h1) ∧ Below wx.heap.size wx w') := Lib.hid (fun wx hb => has_w l A n c hL (by omega) hc h1 eHLC wx ((h.keep (w' := wx) fun p hp => hb.cell hp).more hb.size))
  have HLD : Hid (∀ wx : World, Below w.heap.size w wx → Calls Try.prog 27 #[.slice A l.length n, .agg #[d.tg, d.pe, d.ty, d.mo, d.e, d.b, d.t, d.g, .int .u64 d.a]] wx fun e' w' => e' = .returned (.bool h2) ∧ Below wx.heap.size wx w') := Lib.hid (fun wx hb => has_w l A n d hL (by omega) hd h2 eHLD wx ((h.keep (w' := wx) fun p hp => hb.cell hp).more hb.size))
  have HMC : Hid (∀ (A' : Option Addr) (cap : Nat) (wx : World), OwnC wx w.heap.size (.slice A' (l.length + 1) cap) (l ++ [d]) → Calls Try.prog 27 #[.slice A' (l.length + 1) cap, .agg #[c.tg, c.pe, c.ty, c.mo, c.e, c.b, c.t, c.g, .int .u64 c.a]] wx fun e' w' => e' = .returned (.bool h3) ∧ Below wx.heap.size wx w') := Lib.hid (fun A' cap wx ho => by
    obtain ⟨A2, cap2, e2, _, hr2, _⟩ := ho.rd
    have e3 : (l ++ [d]).length = l.length + 1 := by simp
    rw [e3] at e2
    cases e2
    have := has_w (l ++ [d]) A' cap c hM (by simp; omega) hc h3 eHMC wx hr2
    rw [e3] at this; exact this)
  have HMD : Hid (∀ (A' : Option Addr) (cap : Nat) (wx : World), OwnC wx w.heap.size (.slice A' (l.length + 1) cap) (l ++ [d]) → Calls Try.prog 27 #[.slice A' (l.length + 1) cap, .agg #[d.tg, d.pe, d.ty, d.mo, d.e, d.b, d.t, d.g, .int .u64 d.a]] wx fun e' w' => e' = .returned (.bool true) ∧ Below wx.heap.size wx w') := Lib.hid (fun A' cap wx ho => by
    obtain ⟨A2, cap2, e2, _, hr2, _⟩ := ho.rd
    have e3 : (l ++ [d]).length = l.length + 1 := by simp
    rw [e3] at e2
    cases e2
    have := has_w (l ++ [d]) A' cap d hM (by simp; omega) hd true eHMD wx hr2
    rw [e3] at this; exact this)
  have HCP : Hid (∀ wx : World, Below w.heap.size w wx → Calls Try.prog 33 #[.slice A l.length n] wx fun e w' => ∃ v, e = .returned v ∧ OwnC w' wx.heap.size v l ∧ Below wx.heap.size wx w') := Lib.hid (fun wx hb => copy_w l A n (by omega) wx ((h.keep (w' := wx) fun p hp => hb.cell hp).more hb.size))
  have D2 : At (w.heap.size) [d.tg, d.pe, d.ty, d.mo, d.e, d.b, d.t, d.g, .int .u64 d.a] ((w.alloc (.cells #[d.tg, d.pe, d.ty, d.mo, d.e, d.b, d.t, d.g, .int .u64 d.a] 25)).alloc (.cells #[c.tg, c.pe, c.ty, c.mo, c.e, c.b, c.t, c.g, .int .u64 c.a] 25)) := (At.new w [d.tg, d.pe, d.ty, d.mo, d.e, d.b, d.t, d.g, .int .u64 d.a] 25).alloc _
  have C2 : At (w.heap.size + 1) [c.tg, c.pe, c.ty, c.mo, c.e, c.b, c.t, c.g, .int .u64 c.a] ((w.alloc (.cells #[d.tg, d.pe, d.ty, d.mo, d.e, d.b, d.t, d.g, .int .u64 d.a] 25)).alloc (.cells #[c.tg, c.pe, c.ty, c.mo, c.e, c.b, c.t, c.g, .int .u64 c.a] 25)) := At.new' (w.alloc (.cells #[d.tg, d.pe, d.ty, d.mo, d.e, d.b, d.t, d.g, .int .u64 d.a] 25)) [c.tg, c.pe, c.ty, c.mo, c.e, c.b, c.t, c.g, .int .u64 c.a] 25 (by simp)
  have L2 : Bl w (w.heap.size + 1 + 1) ((w.alloc (.cells #[d.tg, d.pe, d.ty, d.mo, d.e, d.b, d.t, d.g, .int .u64 d.a] 25)).alloc (.cells #[c.tg, c.pe, c.ty, c.mo, c.e, c.b, c.t, c.g, .int .u64 c.a] 25)) := ⟨((Below.refl _ _).alloc (Nat.le_refl _) _).alloc (by simp) _, by omega, by simp⟩
  clear h hr1 hr2 hr1' hr2' hraw hL hM hc hd rd rc eHLC eHLD eHMC eHMD way
  go_enter Try.func9, Try.ntmps9
  go_upto_region 1 with fail
  generalize hw0 : ((w.alloc (.cells #[d.tg, d.pe, d.ty, d.mo, d.e, d.b, d.t, d.g, .int .u64 d.a] 25)).alloc (.cells #[c.tg, c.pe, c.ty, c.mo, c.e, c.b, c.t, c.g, .int .u64 c.a] 25)) = w0 at D2 C2 L2 ⊢
  clear hw0
  have le0 := L2.le
  obtain ⟨_, _, _, _, _, _, _, _, _⟩ := D2.out9
  obtain ⟨_, _, _, _, _, _, _, _, _⟩ := C2.out9
  have HD2 := Lib.hid D2
  have HC2 := Lib.hid C2
  have HL2 := Lib.hid L2
  clear D2 C2 L2
  go_upto_region 3 with (first | (go_at_call 20; (with_reducible refine (HRL.out _ HL2.out.bl).mono ?_); rintro e' w1 ⟨rfl, qk⟩; have D3 := HD2.out.kp qk (by omega); have C3 := HC2.out.kp qk (by omega); have L3 := HL2.out.step qk.1; obtain ⟨_, _, _, _, _, _, _, _, _⟩ := D3.out9; obtain ⟨_, _, _, _, _, _, _, _, _⟩ := C3.out9; have le1 := L3.le; have HD3 := Lib.hid D3; have HC3 := Lib.hid C3; have HL3 := Lib.hid L3; clear qk D3 C3 L3) | (go_at_call 20; (with_reducible refine (HR2.out _ _ _ (HN2.out w1)).mono ?_); rintro e' w2 ⟨rfl, qk⟩; have D4 := (HD3.out.alloc _).kp qk (by simp; omega); have C4 := (HC3.out.alloc _).kp qk (by simp; omega); have L4 := (HL3.out.alloc _).step qk.1; obtain ⟨_, _, _, _, _, _, _, _, _⟩ := D4.out9; obtain ⟨_, _, _, _, _, _, _, _, _⟩ := C4.out9; have le2 := L4.le; have HD4 := Lib.hid D4; have HC4 := Lib.hid C4; have HL4 := Lib.hid L4; clear qk D4 C4 L4))
  go_cut [7] (fun s wx => ∃ (A' : Option Addr) (cap : Nat), s = .slice A' (l.length + 1) cap ∧ OwnC wx w.heap.size (.slice A' (l.length + 1) cap) (l ++ [d]) ∧ At (w.heap.size) [d.tg, d.pe, d.ty, d.mo, d.e, d.b, d.t, d.g, .int .u64 d.a] wx ∧ At (w.heap.size + 1) [c.tg, c.pe, c.ty, c.mo, c.e, c.b, c.t, c.g, .int .u64 c.a] wx ∧ Bl w (w.heap.size + 1 + 1) wx)
  case first =>
    have HQ : Hid (w.heap.size ≤ w2.heap.size) := Lib.hid (by omega)
    have hll : l.length < 1000000 := by omega
    go_region_law (first
      | (refine app_cs rfl (.tmp 27) (.tmp 29) rfl w2.heap.size _ l rfl (own_fr HO3.out ((Fr.refl w3 (fun _ => False)).alloc _) (fun _ _ h => h)) ⟨w3.heap.size, 0, none⟩ 1 d rfl (World.news_of_block (heap_alloc_new w3 _)) hll (hsx _) _ rfl ?_; intro g cap' w4 hown4 hg4 hat4 hlt4; have HO4 := Lib.hid (own_base hown4 HQ.out); have HB4 := Lib.hid (below_grown (HB3.out.alloc HB3.out.size _) hg4 (hsx _) (own_fr HO3.out ((Fr.refl w3 (fun _ => False)).alloc _) (fun _ _ h => h))); clear hown4 hg4 hat4 hlt4)
      | (refine app_cs rfl (.tmp 27) (.tmp 29) rfl w2.heap.size _ l rfl HO3.out ⟨w2.heap.size, 0, none⟩ 1 d rfl (World.news_of_block HBK.out) hll hs3 _ rfl ?_; intro g cap' w4 hown4 hg4 hat4 hlt4; have HO4 := Lib.hid (own_base hown4 HQ.out); have HB4 := Lib.hid (below_grown HB3.out hg4 hs3 HO3.out); clear hown4 hg4 hat4 hlt4)
      | (go_simp; go_at_call 33; (with_reducible refine (HCP.out _ HL4.out.drew.bl).mono ?_); rintro e' w3 ⟨v, rfl, ho3, hb3⟩; have HO3 : Hid (OwnC w3 w2.heap.size v l) := Lib.hid ho3; have HB3 : Hid (Below w2.heap.size w2 w3) := Lib.hid (((Below.refl _ w2).drew).trans hb3); have hs3 := HB3.out.size; have hsx : ∀ o : Obj, w2.heap.size ≤ (w3.alloc o).heap.size := fun o => (HB3.out.alloc HB3.out.size o).size; have DX := HL4.out.at_ HB3.out HD4.out (show w.heap.size < _ by omega); obtain ⟨_, _, _, _, _, _, _, _, _⟩ := DX.out9; clear ho3 hb3)
      | (go_simp; go_at_call 33; (with_reducible refine (HCP.out _ (HL4.out.alloc _).drew.bl).mono ?_); rintro e' w3 ⟨v, rfl, ho3, hb3⟩; have HO3 : Hid (OwnC w3 w2.heap.size v l) := Lib.hid (own_base ho3 (by simp)); have HB3 : Hid (Below w2.heap.size w2 w3) := Lib.hid ((((Below.refl _ w2).alloc (Nat.le_refl _) _).drew).trans (hb3.mono (by simp))); have hs3 := HB3.out.size; have hsx : ∀ o : Obj, w2.heap.size ≤ (w3.alloc o).heap.size := fun o => (HB3.out.alloc HB3.out.size o).size; have HBK := Lib.hid ((hb3.block w2.heap.size (by simp)).trans (heap_alloc_new w2 _)); clear ho3 hb3))
    all_goals
      go_wp2
      go_meet
      exact ⟨_, _, rfl, HO4.out, HL4.out.at_ HB4.out HD4.out (by omega), HL4.out.at_ HB4.out HC4.out (by omega), HL4.out.step HB4.out⟩
  case rest =>
    obtain ⟨A', cap, rfl, ho, D5, C5, L5⟩ := hcut
    obtain ⟨_, _, _, _, _, _, _, _, _⟩ := D5.out9
    obtain ⟨_, _, _, _, _, _, _, _, _⟩ := C5.out9
    have le5 := L5.le
    have HO5 := Lib.hid ho
    have HD5 := Lib.hid D5
    have HC5 := Lib.hid C5
    have HL5 := Lib.hid L5
    clear ho D5 C5 L5
    rcases way2 with ⟨rfl, rfl, rfl⟩ | ⟨rfl, rfl, rfl⟩ | ⟨rfl, rfl, rfl⟩ | ⟨rfl, rfl, rfl⟩ | ⟨rfl, rfl, rfl⟩
    all_goals
      go_wp2_with (first
        | (go_at_call 27; (with_reducible refine (HLC.out _ HL5.out.bl).mono ?_); rintro e' w6 ⟨rfl, hb⟩; have D6 := HL5.out.at_ hb HD5.out (show w.heap.size < _ by omega); have C6 := HL5.out.at_ hb HC5.out (show w.heap.size + 1 < _ by omega); have HO6 := Lib.hid (own_fr HO5.out ((Fr.refl wc (fun _ => False)).below hb (fun _ hi _ => hi)) (fun _ _ h => h)); obtain ⟨_, _, _, _, _, _, _, _, _⟩ := D6.out9; obtain ⟨_, _, _, _, _, _, _, _, _⟩ := C6.out9; have HL6 := Lib.hid (HL5.out.step hb); have le6 := HL6.out.le; have HD6 := Lib.hid D6; have HC6 := Lib.hid C6; clear hb D6 C6)
        | (go_at_call 27; (with_reducible refine (HMC.out _ _ _ HO6.out).mono ?_); rintro e' w7 ⟨rfl, hb⟩; have D7 := HL6.out.at_ hb HD6.out (show w.heap.size < _ by omega); have C7 := HL6.out.at_ hb HC6.out (show w.heap.size + 1 < _ by omega); have HO7 := Lib.hid (own_fr HO6.out ((Fr.refl w6 (fun _ => False)).below hb (fun _ hi _ => hi)) (fun _ _ h => h)); obtain ⟨_, _, _, _, _, _, _, _, _⟩ := D7.out9; obtain ⟨_, _, _, _, _, _, _, _, _⟩ := C7.out9; have HL7 := Lib.hid (HL6.out.step hb); have le7 := HL7.out.le; have HD7 := Lib.hid D7; have HC7 := Lib.hid C7; clear hb D7 C7)
        | (go_at_call 27; (with_reducible refine (HLD.out _ HL7.out.bl).mono ?_); rintro e' w8 ⟨rfl, hb⟩; have D8 := HL7.out.at_ hb HD7.out (show w.heap.size < _ by omega); have C8 := HL7.out.at_ hb HC7.out (show w.heap.size + 1 < _ by omega); have HO8 := Lib.hid (own_fr HO7.out ((Fr.refl w7 (fun _ => False)).below hb (fun _ hi _ => hi)) (fun _ _ h => h)); obtain ⟨_, _, _, _, _, _, _, _, _⟩ := D8.out9; obtain ⟨_, _, _, _, _, _, _, _, _⟩ := C8.out9; have HL8 := Lib.hid (HL7.out.step hb); have le8 := HL8.out.le; have HD8 := Lib.hid D8; have HC8 := Lib.hid C8; clear hb D8 C8)
        | (go_at_call 27; (with_reducible refine (HMD.out _ _ _ HO8.out).mono ?_); rintro e' w9 ⟨rfl, hb⟩; have D9 := HL8.out.at_ hb HD8.out (show w.heap.size < _ by omega); have C9 := HL8.out.at_ hb HC8.out (show w.heap.size + 1 < _ by omega); have HO9 := Lib.hid (own_fr HO8.out ((Fr.refl w8 (fun _ => False)).below hb (fun _ hi _ => hi)) (fun _ _ h => h)); obtain ⟨_, _, _, _, _, _, _, _, _⟩ := D9.out9; obtain ⟨_, _, _, _, _, _, _, _, _⟩ := C9.out9; have HL9 := Lib.hid (HL8.out.step hb); have le9 := HL9.out.le; have HD9 := Lib.hid D9; have HC9 := Lib.hid C9; clear hb D9 C9)
        | (go_at_call 13; (with_reducible refine (works_w _).mono ?_); rintro e' wz ⟨rfl, hbz⟩; have BZ := Lib.hid (HL9.out.step hbz).bl; clear hbz))
      go_ret
      exact ⟨rfl, BZ.out⟩
end Go.Proofs.Ytkddgjaflcjhiaa
namespace Go.Proofs.Ytkddgjaflcjhiaa.orderAgain
open Go.ChangeShapes Go.WideShapes Go.ChangeAt Go.RowKit
theorem own : ownKnob Try.prog.godebug = none := by kernel_rfl
theorem again_all (l : List Cp) (A : Option Addr) (n : Nat) (d c : Cp) (w : World) (h : Rd w w.heap.size A l) (hraw : ∀ x ∈ l, Raw x) (hlen : l.length ≤ 9223372036854775807) (rd : Raw d) (rc : Raw c) :
    Calls Try.prog 9 #[.slice A l.length n, .agg #[d.tg, d.pe, d.ty, d.mo, d.e, d.b, d.t, d.g, .int .u64 d.a], .agg #[c.tg, c.pe, c.ty, c.mo, c.e, c.b, c.t, c.g, .int .u64 c.a]] w fun e' w' => e' = .returned (.bool true) ∧ Below w.heap.size w w' := by
  by_cases hg : 39 < l.length
  · exact again_long l A n d c w h hraw hlen rd rc hg
  · cases hr1 : rightL l
    · exact again_r1 l A n d c w h hraw hlen rd rc hg hr1
    · cases hr2 : rightL [c, d]
      · exact again_r2 l A n d c w h hraw hlen rd rc hg hr1 hr2
      · exact again_core l A n d c w h hraw hlen rd rc hg hr1 hr2
set_option maxHeartbeats 8000000 in
set_option maxRecDepth 100000 in
theorem walk (L : List Cp) (A : Option Addr) (n : Nat) (a0 : Bool) (a1 : Int) (a2 : Int) (a3 : Int) (a4 : Int) (a5 : Int) (a6 : Int) (a7 : Bool) (a8 : Int) (a9 : Bool) (a10 : Int) (a11 : Int) (a12 : Int) (a13 : Int) (a14 : Int) (a15 : Int) (a16 : Bool) (a17 : Int) (w1 : (Lit.int .i64 a1).wf = true) (w2 : (Lit.int .i64 a2).wf = true) (w3 : (Lit.int .i64 a3).wf = true) (w4 : (Lit.int .i64 a4).wf = true) (w5 : (Lit.int .i64 a5).wf = true) (w6 : (Lit.int .i64 a6).wf = true) (w8 : (Lit.int .u64 a8).wf = true) (w10 : (Lit.int .i64 a10).wf = true) (w11 : (Lit.int .i64 a11).wf = true) (w12 : (Lit.int .i64 a12).wf = true) (w13 : (Lit.int .i64 a13).wf = true) (w14 : (Lit.int .i64 a14).wf = true) (w15 : (Lit.int .i64 a15).wf = true) (w17 : (Lit.int .u64 a17).wf = true) (w : World) (hrd : Rd w w.heap.size A L) (hraw : ∀ x ∈ L, Raw x) (hlen : L.length ≤ 9223372036854775807) :
    Calls Try.prog 9 #[.slice A L.length n, .agg #[a0, a1, a2, a3, a4, a5, a6, a7, .int .u64 a8], .agg #[a9, a10, a11, a12, a13, a14, a15, a16, .int .u64 a17]] w fun e w' => e = .returned (.bool true) ∧ Below w.heap.size w w' :=
  again_all L A n ⟨a0, a1, a2, a3, a4, a5, a6, a7, a8⟩ ⟨a9, a10, a11, a12, a13, a14, a15, a16, a17⟩  w hrd hraw hlen ⟨(i64_bd w1).1, (i64_bd w1).2, (i64_bd w2).1, (i64_bd w2).2, (i64_bd w3).1, (i64_bd w3).2, (i64_bd w4).1, (i64_bd w4).2, (i64_bd w5).1, (i64_bd w5).2, (i64_bd w6).1, (i64_bd w6).2, (u64_bd w8).1, (u64_bd w8).2⟩ ⟨(i64_bd w10).1, (i64_bd w10).2, (i64_bd w11).1, (i64_bd w11).2, (i64_bd w12).1, (i64_bd w12).2, (i64_bd w13).1, (i64_bd w13).2, (i64_bd w14).1, (i64_bd w14).2, (i64_bd w15).1, (i64_bd w15).2, (u64_bd w17).1, (u64_bd w17).2⟩ 
end Go.Proofs.Ytkddgjaflcjhiaa.orderAgain
