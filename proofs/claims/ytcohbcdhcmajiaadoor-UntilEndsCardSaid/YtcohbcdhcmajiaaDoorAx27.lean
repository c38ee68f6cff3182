/-
  The small abstract machine: facts for the use of functions of plain data.
-/
import Derived.Test.YtcohbcdhcmajiaaDoorAx26
import Derived.IntWalk
namespace Go.Ax
open Go.RowKit
set_option linter.unusedVariables false

def noJ : Jd := ⟨[], [], []⟩
def noR : Nat → Option Rule := fun _ => none
def i8 (x : Int) : Int := IntKind.wrap .i8 x
def i16 (x : Int) : Int := IntKind.wrap .i16 x
def i32 (x : Int) : Int := IntKind.wrap .i32 x
def i64 (x : Int) : Int := IntKind.wrap .i64 x
def u8 (x : Int) : Int := IntKind.wrap .u8 x
def u16 (x : Int) : Int := IntKind.wrap .u16 x
def u32 (x : Int) : Int := IntKind.wrap .u32 x
def u64 (x : Int) : Int := IntKind.wrap .u64 x
theorem i8_in (x : Int) (h : -128 ≤ x ∧ x ≤ 127) : i8 x = x := IntWalk.i8_in x h
theorem i16_in (x : Int) (h : -32768 ≤ x ∧ x ≤ 32767) : i16 x = x := IntWalk.i16_in x h
theorem i32_in (x : Int) (h : -2147483648 ≤ x ∧ x ≤ 2147483647) : i32 x = x := IntWalk.i32_in x h
theorem i64_in (x : Int) (h : -9223372036854775808 ≤ x ∧ x ≤ 9223372036854775807) : i64 x = x := IntWalk.i64_in x h
theorem u8_in (x : Int) (h : 0 ≤ x ∧ x ≤ 255) : u8 x = x := IntWalk.u8_in x h
theorem u16_in (x : Int) (h : 0 ≤ x ∧ x ≤ 65535) : u16 x = x := IntWalk.u16_in x h
theorem u32_in (x : Int) (h : 0 ≤ x ∧ x ≤ 4294967295) : u32 x = x := IntWalk.u32_in x h
theorem u64_in (x : Int) (h : 0 ≤ x ∧ x ≤ 18446744073709551615) : u64 x = x := IntWalk.u64_in x h
theorem i64_eq (x : Int) : i64 x = (x + 9223372036854775808) % 18446744073709551616 - 9223372036854775808 := by unfold i64; rw [IntKind.wrap_i64]
theorem i32_eq (x : Int) : i32 x = (x + 2147483648) % 4294967296 - 2147483648 := by unfold i32; rw [IntKind.wrap_i32]
theorem u8_eq (x : Int) : u8 x = x % 256 := by unfold u8; rw [IntKind.wrap_u8]
theorem u16_eq (x : Int) : u16 x = x % 65536 := by unfold u16; simp [IntKind.wrap, IntKind.bits, IntKind.signed]
theorem u32_eq (x : Int) : u32 x = x % 4294967296 := by unfold u32; rw [IntKind.wrap_u32]
theorem u64_eq (x : Int) : u64 x = x % 18446744073709551616 := by unfold u64; simp [IntKind.wrap, IntKind.bits, IntKind.signed]

section
variable {P : Program} {G : Nat → Option (List AV)}
def fixN (b : (List Dat → Option (List Dat)) → List Dat → Option (List Dat)) : Nat → List Dat → Option (List Dat)
  | 0 => fun _ => none
  | n + 1 => b (fixN b n)
theorem fixN_ok {f : Nat} {args : List Sh} {res : Sh} {b : (List Dat → Option (List Dat)) → List Dat → Option (List Dat)} (h : ∀ self, FnOk P G f ⟨args, res, self⟩ → FnOk P G f ⟨args, res, b self⟩) (m : List Dat → Nat) :
    FnOk P G f ⟨args, res, fun ds => fixN b (m ds) ds⟩ := by
  have key : ∀ n, FnOk P G f ⟨args, res, fixN b n⟩ := by
    intro n
    induction n with
    | zero => exact ⟨fun _ _ _ _ q => by cases q⟩
    | succ n ih => exact h _ ih
  exact ⟨fun vs ds r h1 h2 => (key (m ds)).out vs ds r h1 h2⟩
theorem works_ok {f : Nat} (h : FnA P G f [] (.bool true)) : FnOk P G f ⟨[], .bool, fun _ => some [.b true]⟩ := by
  constructor
  intro args ds r h1 h2
  cases args with
  | nil =>
    cases h2
    exact ⟨_, h, fun β K y q => q⟩
  | cons => cases h1
theorem noR_ok : RulesOk P G noR := fun f r h => by cases h
theorem rules_nil : RulesOk P G (look []) := fun f r h => by cases h
theorem rules_cons {f : Nat} {r : Rule} {l : List (Nat × Rule)} (h : ∀ args H n Q, T.prop P G n (resQ Q) (r args H n) → CallA P G f args H n Q) (hl : RulesOk P G (look l)) : RulesOk P G (look ((f, r) :: l)) := fun f' r' q => by
  rw [look] at q
  split at q
  · rename_i e; subst e; cases q; exact h
  · exact hl f' r' q
theorem eok_nil : EOk P G (look []) := fun f fn h => by cases h
theorem eok_cons {f : Nat} {fn : Fn} {l : List (Nat × Fn)} (h : FnOk P G f fn) (hl : EOk P G (look l)) : EOk P G (look ((f, fn) :: l)) := fun f' fn' q => by
  rw [look] at q
  split at q
  · rename_i e; subst e; cases q; exact h
  · exact hl f' fn' q
end
end Go.Ax
