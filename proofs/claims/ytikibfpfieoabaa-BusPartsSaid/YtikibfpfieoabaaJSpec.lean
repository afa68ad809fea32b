/-
  The bus: its state, what its calls answer and leave. No condition.
-/
import Derived.Test.YtikibfpfieoabaaQCom
import Derived.Test.YtikibfpfieoabaaTSpec
import Derived.Test.YtikibfpfieoabaaPSpec
import Derived.Test.YtikibfpfieoabaaUSpec
import Derived.Test.YtikibfpfieoabaaECapM
namespace Go.Proofs.Ytikibfpfieoabaa
set_option linter.unusedVariables false
set_option linter.unusedSimpArgs false
/-- Memory's bytes and tags; the time; the controller; the UART; whether all is off. -/
structure BS where
  B : List Int
  T : List Bool
  t : TS
  p : PS
  u : US
  w : Bool
structure BS.Ok (S : BS) : Prop where
  byb : ByB S.B
  len : S.B.length = 16 * S.T.length
  lim : S.B.length ≤ 65536
  t : S.t.Ok
  p : S.p.Ok
  u : S.u.Ok
def BS.new (n : Nat) : BS := ⟨List.replicate n 0, List.replicate (n / 16) false, TS.new, PS.new, US.new, false⟩
theorem BS.new_ok (n : Nat) (h : nwO n = true) : (BS.new n).Ok := by
  simp only [nwO, Bool.and_eq_true, decide_eq_true_eq, beq_iff_eq] at h
  exact ⟨ByB.zero n, by simp [BS.new]; omega, by simp [BS.new]; omega, TS.new_ok, PS.new_ok, US.new_ok⟩
/-- Are so many bytes in a region? (Of none, all are.) -/
def inJ (pa n b s : Int) : Bool := decide (0 ≤ n) && (n == 0 || (decide (b ≤ pa) && decide (pa + n ≤ b + s)))
/-- Where an access goes: memory, the time, the controller, the UART, the switch; nowhere. -/
def dvJ (len : Nat) (pa size : Int) : Nat :=
  if szB size = true then (if inJ pa size 2147483648 len = true then 1 else if inJ pa size 33554432 65536 = true then 2 else if inJ pa size 201326592 4194304 = true then 3 else if inJ pa size 268435456 256 = true then 4 else if inJ pa size 1048576 4096 = true then 5 else 0) else 0
def BS.ldV (S : BS) (pa size : Int) : Int := match dvJ S.B.length pa size with
  | 1 => ldN S.B (pa - 2147483648) size
  | 2 => S.t.ldV (pa - 33554432) size
  | 3 => S.p.ldV (pa - 201326592) size
  | 4 => S.u.ldV (pa - 268435456) size
  | _ => 0
def BS.ldO (S : BS) (pa size : Int) : Bool := match dvJ S.B.length pa size with
  | 1 => Go.Proofs.Ytikibfpfieoabaa.ldO S.B.length (pa - 2147483648) size
  | 2 => rgT (pa - 33554432) size
  | 3 => rgO (pa - 201326592) size
  | 4 => rgU (pa - 268435456) size
  | 5 => pwO (pa - 1048576) size
  | _ => false
def BS.ldS (S : BS) (pa size : Int) : BS := match dvJ S.B.length pa size with
  | 3 => { S with p := S.p.ldS (pa - 201326592) size }
  | 4 => { S with u := S.u.ldS (pa - 268435456) size }
  | _ => S
def BS.stS (S : BS) (pa size v : Int) : BS := match dvJ S.B.length pa size with
  | 1 => { S with B := sB S.B (pa - 2147483648) size v, T := sT S.B.length S.T (pa - 2147483648) size }
  | 2 => { S with t := S.t.stS (pa - 33554432) size v }
  | 3 => { S with p := S.p.stS (pa - 201326592) size v }
  | 4 => { S with u := S.u.stS (pa - 268435456) size v }
  | 5 => { S with w := pwS S.w (pa - 1048576) size v }
  | _ => S
def BS.lines (S : BS) : Int := (if S.t.be = true then 8 else 0) + (if S.t.timer = true then 128 else 0) + (if S.p.pend 1 = true then 512 else 0) + (if S.p.pend 0 = true then 2048 else 0)
/-- A capability of a tag and two numbers. -/
def unV (tg : Bool) (a m : Int) : Value := .agg #[.bool tg, .int .i64 (fP (xk m)), .int .i64 (fY (xk m)), .int .i64 (fM (xk m)), .int .i64 (fE (xk m)), .int .i64 (fB (xk m)), .int .i64 (fT (xk m)), .bool (fG (xk m)), .int .u64 a]
def zeV : Value := .agg #[.bool false, .int .i64 0, .int .i64 0, .int .i64 0, .int .i64 0, .int .i64 0, .int .i64 0, .bool false, .int .u64 0]
def BS.lcO (S : BS) (pa : Int) : Bool := inJ pa 16 2147483648 S.B.length && cpO S.B.length (pa - 2147483648)
def BS.lcV (S : BS) (pa : Int) : Value := if S.lcO pa = true then unV (cpT S.T S.B.length (pa - 2147483648)) (cpA S.B (pa - 2147483648)) (cpM S.B (pa - 2147483648)) else zeV
def BS.scS (S : BS) (pa : Int) (tg : Bool) (a m : Int) : BS := if S.lcO pa = true then { S with B := cB S.B (pa - 2147483648) a m, T := cT S.B.length S.T (pa - 2147483648) tg } else S
theorem sB_by {B : List Int} (h : ByB B) (off size v : Int) : ByB (sB B off size v) := by unfold sB; split; exact h.lay _ _ _; exact h
theorem sB_len' (B : List Int) (off size v : Int) : (sB B off size v).length = B.length := by unfold sB; split; exact layB_len _ _ _ _; rfl
theorem sT_len' (len : Nat) (T : List Bool) (off size : Int) : (sT len T off size).length = T.length := by unfold sT; split; exact unT_len _ _ _; rfl
theorem cB_by {B : List Int} (h : ByB B) (off a m : Int) : ByB (cB B off a m) := by unfold cB; split; exact (h.lay _ _ _).lay _ _ _; exact h
theorem cT_len' (len : Nat) (T : List Bool) (off : Int) (b : Bool) : (cT len T off b).length = T.length := by unfold cT; split; simp; rfl
theorem BS.Ok.ldS {S : BS} (h : S.Ok) (pa size : Int) : (S.ldS pa size).Ok := by
  unfold BS.ldS
  split
  · exact ⟨h.byb, h.len, h.lim, h.t, h.p.ldS _ _, h.u⟩
  · exact ⟨h.byb, h.len, h.lim, h.t, h.p, h.u.ldS _ _⟩
  · exact h
theorem BS.Ok.stS {S : BS} (h : S.Ok) (pa size v : Int) (v0 : 0 ≤ v) (v1 : v < 18446744073709551616) : (S.stS pa size v).Ok := by
  unfold BS.stS
  split
  · exact ⟨sB_by h.byb _ _ _, by show (sB _ _ _ _).length = 16 * (sT _ _ _ _).length; rw [sB_len', sT_len']; exact h.len, by show (sB _ _ _ _).length ≤ _; rw [sB_len']; exact h.lim, h.t, h.p, h.u⟩
  · exact ⟨h.byb, h.len, h.lim, h.t.stS _ _ _ v0 v1, h.p, h.u⟩
  · exact ⟨h.byb, h.len, h.lim, h.t, h.p.stS _ _ _, h.u⟩
  · exact ⟨h.byb, h.len, h.lim, h.t, h.p, h.u.stS _ _ _⟩
  · exact ⟨h.byb, h.len, h.lim, h.t, h.p, h.u⟩
  · exact h
theorem BS.Ok.scS {S : BS} (h : S.Ok) (pa : Int) (tg : Bool) (a m : Int) : (S.scS pa tg a m).Ok := by
  unfold BS.scS
  split
  · exact ⟨cB_by h.byb _ _ _, by show (cB _ _ _ _).length = 16 * (cT _ _ _ _).length; rw [cB_len, cT_len']; exact h.len, by show (cB _ _ _ _).length ≤ _; rw [cB_len]; exact h.lim, h.t, h.p, h.u⟩
  · exact h
end Go.Proofs.Ytikibfpfieoabaa
