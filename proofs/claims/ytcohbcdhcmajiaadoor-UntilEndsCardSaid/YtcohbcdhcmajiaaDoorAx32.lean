/-
  The small abstract machine: reckoning with functions of plain data, from the head on.
-/
import Derived.Test.YtcohbcdhcmajiaaDoorAx30
namespace Go.Ax
set_option linter.unusedVariables false

theorem cond_cong {α : Type} {p q : Bool} (h : p = q) (a b : α) : cond p a b = cond q a b := by rw [h]
theorem bind_cong {α β : Type} {m k : Option α} (h : m = k) (f : α → Option β) : Option.bind m f = Option.bind k f := by rw [h]
theorem onI_cong {β : Type} {x y : List Dat} (h : x = y) (f : Int → List Dat → Option β) : onI x f = onI y f := by rw [h]
theorem onB_cong {β : Type} {x y : List Dat} (h : x = y) (f : Bool → List Dat → Option β) : onB x f = onB y f := by rw [h]
theorem onS_cong {β : Type} {x y : List Dat} (h : x = y) (f : List UInt8 → List Dat → Option β) : onS x f = onS y f := by rw [h]
theorem onN_cong {β : Type} {x y : List Dat} (h : x = y) (f : Nat → List Dat → Option β) : onN x f = onN y f := by rw [h]
theorem onL_cong {β : Type} {x y : List Dat} (h : x = y) (f : List AV → List Dat → Option β) : onL x f = onL y f := by rw [h]
theorem onI_c {β : Type} (a : Int) (ds : List Dat) (f : Int → List Dat → Option β) : onI (.i a :: ds) f = f a ds := rfl
theorem onB_c {β : Type} (a : Bool) (ds : List Dat) (f : Bool → List Dat → Option β) : onB (.b a :: ds) f = f a ds := rfl
theorem onS_c {β : Type} (a : List UInt8) (ds : List Dat) (f : List UInt8 → List Dat → Option β) : onS (.s a :: ds) f = f a ds := rfl
theorem onN_c {β : Type} (a : Nat) (ds : List Dat) (f : Nat → List Dat → Option β) : onN (.n a :: ds) f = f a ds := rfl
theorem onL_c {β : Type} (a : List AV) (ds : List Dat) (f : List AV → List Dat → Option β) : onL (.l a :: ds) f = f a ds := rfl
theorem tdiv_nn {a b : Int} (h : 0 ≤ a) : Int.tdiv a b = a / b := Int.tdiv_eq_ediv_of_nonneg h
theorem tmod_nn {a b : Int} (h : 0 ≤ a) : Int.tmod a b = a % b := Int.tmod_eq_emod_of_nonneg h
theorem beq_t {α : Type} [BEq α] [LawfulBEq α] {a b : α} (h : a = b) : (a == b) = true := by rw [h]; exact beq_self_eq_true _
theorem beq_f {α : Type} [BEq α] [LawfulBEq α] {a b : α} (h : a ≠ b) : (a == b) = false := by
  cases hx : a == b with
  | false => rfl
  | true => exact absurd (eq_of_beq hx) h
theorem decT (h : Decidable True) : @decide True h = true := by cases h with | isTrue _ => rfl | isFalse h => exact absurd trivial h
theorem decF (h : Decidable False) : @decide False h = false := by cases h with | isFalse _ => rfl | isTrue h => exact absurd h id
theorem bneI_t {a b : Int} (h : a ≠ b) : (a != b) = true := by simp [h]
theorem bneI_f {a b : Int} (h : a = b) : (a != b) = false := by simp [h]
theorem bytesOf_nil : bytesOf [] = some [] := rfl
theorem bytesOf_cons (n : I) (l : List AV) : bytesOf (.int .u8 n :: l) = (bytesOf l).map (UInt8.ofNat n.v.toNat :: ·) := rfl
theorem Isym_v (x : Int) : I.v (.sym x) = x := rfl
theorem Ilit_v (x : Int) : I.v (.lit x) = x := rfl
theorem wf_u32 {x : Int} (h : (Lit.int .u32 x).wf = true) : 0 ≤ x ∧ x ≤ 4294967295 := by
  simp [Lit.wf, IntKind.min, IntKind.max, IntKind.bits, IntKind.signed] at h; omega
theorem wf_u8 {x : Int} (h : (Lit.int .u8 x).wf = true) : 0 ≤ x ∧ x ≤ 255 := by
  simp [Lit.wf, IntKind.min, IntKind.max, IntKind.bits, IntKind.signed] at h; omega
theorem wf_u16 {x : Int} (h : (Lit.int .u16 x).wf = true) : 0 ≤ x ∧ x ≤ 65535 := by
  simp [Lit.wf, IntKind.min, IntKind.max, IntKind.bits, IntKind.signed] at h; omega
theorem wf_u64 {x : Int} (h : (Lit.int .u64 x).wf = true) : 0 ≤ x ∧ x ≤ 18446744073709551615 := by
  simp [Lit.wf, IntKind.min, IntKind.max, IntKind.bits, IntKind.signed] at h; omega
theorem wf_i64 {x : Int} (h : (Lit.int .i64 x).wf = true) : -9223372036854775808 ≤ x ∧ x ≤ 9223372036854775807 := by
  simp [Lit.wf, IntKind.min, IntKind.max, IntKind.bits, IntKind.signed] at h; omega
theorem wf_i32 {x : Int} (h : (Lit.int .i32 x).wf = true) : -2147483648 ≤ x ∧ x ≤ 2147483647 := by
  simp [Lit.wf, IntKind.min, IntKind.max, IntKind.bits, IntKind.signed] at h; omega
theorem wf_i16 {x : Int} (h : (Lit.int .i16 x).wf = true) : -32768 ≤ x ∧ x ≤ 32767 := by
  simp [Lit.wf, IntKind.min, IntKind.max, IntKind.bits, IntKind.signed] at h; omega
end Go.Ax
