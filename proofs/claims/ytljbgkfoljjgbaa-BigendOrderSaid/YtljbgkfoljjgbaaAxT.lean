/-
  The types and the functions of this seat, for the small abstract machine.
-/
import Derived.Test.YtljbgkfoljjgbaaAx27
import Derived.Test.YtljbgkfoljjgbaaProg
import Derived.KernelRfl
namespace Go.Proofs.Ytljbgkfoljjgbaa
open Go.Ax
set_option linter.unusedVariables false
set_option maxRecDepth 100000

def tyList : List (Nat × TI) := [(1, ⟨.func, 1, 8, [.nilFunc]⟩),
  (2, ⟨.int .i64, 1, 8, [.int .i64 (.lit 0)]⟩),
  (3, ⟨.int .i64, 1, 8, [.int .i64 (.lit 0)]⟩),
  (4, ⟨.bool, 1, 1, [.bool false]⟩),
  (5, ⟨.int .u8, 1, 1, [.int .u8 (.lit 0)]⟩),
  (6, ⟨.int .u8, 1, 1, [.int .u8 (.lit 0)]⟩),
  (7, ⟨.struct [(0, 2), (1, 3), (2, 4), (3, 6)], 4, 24, [.int .i64 (.lit 0), .int .i64 (.lit 0), .bool false, .int .u8 (.lit 0)]⟩),
  (8, ⟨.struct [(0, 2), (1, 3), (2, 4), (3, 6)], 4, 24, [.int .i64 (.lit 0), .int .i64 (.lit 0), .bool false, .int .u8 (.lit 0)]⟩),
  (9, ⟨.string, 1, 16, [.str (.lit [])]⟩),
  (10, ⟨.string, 1, 16, [.str (.lit [])]⟩),
  (11, ⟨.string, 1, 16, [.str (.lit [])]⟩),
  (12, ⟨.int .u64, 1, 8, [.int .u64 (.lit 0)]⟩),
  (13, ⟨.struct [(0, 9), (1, 12)], 2, 24, [.str (.lit []), .int .u64 (.lit 0)]⟩),
  (14, ⟨.struct [(0, 9), (1, 12)], 2, 24, [.str (.lit []), .int .u64 (.lit 0)]⟩),
  (15, ⟨.ptr 53, 1, 8, [.nilptr]⟩),
  (16, ⟨.ptr 56, 1, 8, [.nilptr]⟩),
  (17, ⟨.ptr 65, 1, 8, [.nilptr]⟩),
  (18, ⟨.struct [(0, 17)], 1, 8, [.nilptr]⟩),
  (19, ⟨.struct [(0, 17)], 1, 8, [.nilptr]⟩),
  (20, ⟨.iface, 1, 16, [.nilIface]⟩),
  (21, ⟨.int .i32, 1, 4, [.int .i32 (.lit 0)]⟩),
  (22, ⟨.slice 5, 1, 24, [.nil]⟩),
  (23, ⟨.func, 1, 8, [.nilFunc]⟩),
  (24, ⟨.func, 1, 8, [.nilFunc]⟩),
  (25, ⟨.int .i64, 1, 8, [.int .i64 (.lit 0)]⟩),
  (27, ⟨.func, 1, 8, [.nilFunc]⟩),
  (29, ⟨.func, 1, 8, [.nilFunc]⟩),
  (30, ⟨.func, 1, 8, [.nilFunc]⟩),
  (31, ⟨.func, 1, 8, [.nilFunc]⟩),
  (32, ⟨.func, 1, 8, [.nilFunc]⟩),
  (33, ⟨.slice 3, 1, 24, [.nil]⟩),
  (34, ⟨.func, 1, 8, [.nilFunc]⟩),
  (35, ⟨.func, 1, 8, [.nilFunc]⟩),
  (36, ⟨.int .u64, 1, 8, [.int .u64 (.lit 0)]⟩),
  (37, ⟨.int .u32, 1, 4, [.int .u32 (.lit 0)]⟩),
  (38, ⟨.func, 1, 8, [.nilFunc]⟩),
  (39, ⟨.func, 1, 8, [.nilFunc]⟩),
  (40, ⟨.func, 1, 8, [.nilFunc]⟩),
  (41, ⟨.func, 1, 8, [.nilFunc]⟩),
  (42, ⟨.struct [(0, 3), (1, 2), (2, 22), (3, 25)], 4, 48, [.int .i64 (.lit 0), .int .i64 (.lit 0), .nil, .int .i64 (.lit 0)]⟩),
  (43, ⟨.slice 42, 1, 24, [.nil]⟩),
  (44, ⟨.struct [(0, 3), (1, 3), (2, 2), (3, 25)], 4, 32, [.int .i64 (.lit 0), .int .i64 (.lit 0), .int .i64 (.lit 0), .int .i64 (.lit 0)]⟩),
  (45, ⟨.slice 44, 1, 24, [.nil]⟩),
  (46, ⟨.struct [(0, 3), (1, 3), (2, 22), (3, 25)], 4, 48, [.int .i64 (.lit 0), .int .i64 (.lit 0), .nil, .int .i64 (.lit 0)]⟩),
  (47, ⟨.slice 46, 1, 24, [.nil]⟩),
  (48, ⟨.func, 1, 8, [.nilFunc]⟩),
  (49, ⟨.func, 1, 8, [.nilFunc]⟩),
  (50, ⟨.int .i8, 1, 1, [.int .i8 (.lit 0)]⟩),
  (51, ⟨.func, 1, 8, [.nilFunc]⟩),
  (52, ⟨.struct [(0, 17), (1, 17), (2, 17), (3, 9)], 4, 40, [.nilptr, .nilptr, .nilptr, .str (.lit [])]⟩),
  (53, ⟨.struct [(0, 17), (1, 17), (2, 17), (3, 9)], 4, 40, [.nilptr, .nilptr, .nilptr, .str (.lit [])]⟩),
  (54, ⟨.array 0 16, 0, 0, []⟩),
  (55, ⟨.struct [(0, 54)], 0, 0, []⟩),
  (56, ⟨.struct [(0, 54)], 0, 0, []⟩),
  (57, ⟨.func, 1, 8, [.nilFunc]⟩),
  (58, ⟨.int .u8, 1, 1, [.int .u8 (.lit 0)]⟩),
  (59, ⟨.int .u8, 1, 1, [.int .u8 (.lit 0)]⟩),
  (60, ⟨.func, 1, 8, [.nilFunc]⟩),
  (61, ⟨.ptr 5, 1, 8, [.nilptr]⟩),
  (62, ⟨.int .i32, 1, 4, [.int .i32 (.lit 0)]⟩),
  (63, ⟨.int .i32, 1, 4, [.int .i32 (.lit 0)]⟩),
  (64, ⟨.struct [(0, 12), (1, 12), (2, 37), (3, 58), (4, 5), (5, 5), (6, 59), (7, 60), (8, 61), (9, 62), (10, 63)], 11, 48, [.int .u64 (.lit 0), .int .u64 (.lit 0), .int .u32 (.lit 0), .int .u8 (.lit 0), .int .u8 (.lit 0), .int .u8 (.lit 0), .int .u8 (.lit 0), .nilFunc, .nilptr, .int .i32 (.lit 0), .int .i32 (.lit 0)]⟩),
  (65, ⟨.struct [(0, 12), (1, 12), (2, 37), (3, 58), (4, 5), (5, 5), (6, 59), (7, 60), (8, 61), (9, 62), (10, 63)], 11, 48, [.int .u64 (.lit 0), .int .u64 (.lit 0), .int .u32 (.lit 0), .int .u8 (.lit 0), .int .u8 (.lit 0), .int .u8 (.lit 0), .int .u8 (.lit 0), .nilFunc, .nilptr, .int .i32 (.lit 0), .int .i32 (.lit 0)]⟩)]

theorem tyList_ok : ∀ p ∈ tyList, TIok Try.prog p.1 p.2 :=
  (tys_cons (.of (i := Try.t1) (by kernel_rfl) Try.underlying1 rfl rfl rfl ⟨_, _, _, rfl⟩ (fun _ e => by cases e) rfl rfl) 
  (tys_cons (.of (i := Try.t2) (by kernel_rfl) Try.underlying2 rfl rfl rfl rfl (fun _ e => by cases e) rfl rfl) 
  (tys_cons (.of (i := Try.t3) (by kernel_rfl) Try.underlying3 rfl rfl rfl rfl (fun _ e => by cases e) rfl rfl) 
  (tys_cons (.of (i := Try.t4) (by kernel_rfl) Try.underlying4 rfl rfl rfl rfl (fun _ e => by cases e) rfl rfl) 
  (tys_cons (.of (i := Try.t5) (by kernel_rfl) Try.underlying5 rfl rfl rfl rfl (fun _ e => by cases e) rfl rfl) 
  (tys_cons (.of (i := Try.t6) (by kernel_rfl) Try.underlying6 rfl rfl rfl rfl (fun _ e => by cases e) rfl rfl) 
  (tys_cons (.of (i := Try.t7) (by kernel_rfl) Try.underlying7 rfl rfl rfl ⟨_, rfl, rfl⟩ (fun _ e => by cases e) rfl rfl) 
  (tys_cons (.of (i := Try.t8) (by kernel_rfl) Try.underlying8 rfl rfl rfl ⟨_, rfl, rfl⟩ (fun _ e => by cases e) rfl rfl) 
  (tys_cons (.of (i := Try.t9) (by kernel_rfl) Try.underlying9 rfl rfl rfl rfl (fun _ e => by cases e) rfl rfl) 
  (tys_cons (.of (i := Try.t10) (by kernel_rfl) Try.underlying10 rfl rfl rfl rfl (fun _ e => by cases e) rfl rfl) 
  (tys_cons (.of (i := Try.t11) (by kernel_rfl) Try.underlying11 rfl rfl rfl rfl (fun _ e => by cases e) rfl rfl) 
  (tys_cons (.of (i := Try.t12) (by kernel_rfl) Try.underlying12 rfl rfl rfl rfl (fun _ e => by cases e) rfl rfl) 
  (tys_cons (.of (i := Try.t13) (by kernel_rfl) Try.underlying13 rfl rfl rfl ⟨_, rfl, rfl⟩ (fun _ e => by cases e) rfl rfl) 
  (tys_cons (.of (i := Try.t14) (by kernel_rfl) Try.underlying14 rfl rfl rfl ⟨_, rfl, rfl⟩ (fun _ e => by cases e) rfl rfl) 
  (tys_cons (.of (i := Try.t15) (by kernel_rfl) Try.underlying15 rfl rfl rfl rfl (fun _ e => by cases e) rfl rfl) 
  (tys_cons (.of (i := Try.t16) (by kernel_rfl) Try.underlying16 rfl rfl rfl rfl (fun _ e => by cases e) rfl rfl) 
  (tys_cons (.of (i := Try.t17) (by kernel_rfl) Try.underlying17 rfl rfl rfl rfl (fun _ e => by cases e) rfl rfl) 
  (tys_cons (.of (i := Try.t18) (by kernel_rfl) Try.underlying18 rfl rfl rfl ⟨_, rfl, rfl⟩ (fun _ e => by cases e) rfl rfl) 
  (tys_cons (.of (i := Try.t19) (by kernel_rfl) Try.underlying19 rfl rfl rfl ⟨_, rfl, rfl⟩ (fun _ e => by cases e) rfl rfl) 
  (tys_cons (.of (i := Try.t20) (by kernel_rfl) Try.underlying20 rfl rfl rfl ⟨_, rfl⟩ (fun _ _ => rfl) rfl rfl) 
  (tys_cons (.of (i := Try.t21) (by kernel_rfl) Try.underlying21 rfl rfl rfl rfl (fun _ e => by cases e) rfl rfl) 
  (tys_cons (.of (i := Try.t22) (by kernel_rfl) Try.underlying22 rfl rfl rfl rfl (fun _ e => by cases e) rfl rfl) 
  (tys_cons (.of (i := Try.t23) (by kernel_rfl) Try.underlying23 rfl rfl rfl ⟨_, _, _, rfl⟩ (fun _ e => by cases e) rfl rfl) 
  (tys_cons (.of (i := Try.t24) (by kernel_rfl) Try.underlying24 rfl rfl rfl ⟨_, _, _, rfl⟩ (fun _ e => by cases e) rfl rfl) 
  (tys_cons (.of (i := Try.t25) (by kernel_rfl) Try.underlying25 rfl rfl rfl rfl (fun _ e => by cases e) rfl rfl) 
  (tys_cons (.of (i := Try.t27) (by kernel_rfl) Try.underlying27 rfl rfl rfl ⟨_, _, _, rfl⟩ (fun _ e => by cases e) rfl rfl) 
  (tys_cons (.of (i := Try.t29) (by kernel_rfl) Try.underlying29 rfl rfl rfl ⟨_, _, _, rfl⟩ (fun _ e => by cases e) rfl rfl) 
  (tys_cons (.of (i := Try.t30) (by kernel_rfl) Try.underlying30 rfl rfl rfl ⟨_, _, _, rfl⟩ (fun _ e => by cases e) rfl rfl) 
  (tys_cons (.of (i := Try.t31) (by kernel_rfl) Try.underlying31 rfl rfl rfl ⟨_, _, _, rfl⟩ (fun _ e => by cases e) rfl rfl) 
  (tys_cons (.of (i := Try.t32) (by kernel_rfl) Try.underlying32 rfl rfl rfl ⟨_, _, _, rfl⟩ (fun _ e => by cases e) rfl rfl) 
  (tys_cons (.of (i := Try.t33) (by kernel_rfl) Try.underlying33 rfl rfl rfl rfl (fun _ e => by cases e) rfl rfl) 
  (tys_cons (.of (i := Try.t34) (by kernel_rfl) Try.underlying34 rfl rfl rfl ⟨_, _, _, rfl⟩ (fun _ e => by cases e) rfl rfl) 
  (tys_cons (.of (i := Try.t35) (by kernel_rfl) Try.underlying35 rfl rfl rfl ⟨_, _, _, rfl⟩ (fun _ e => by cases e) rfl rfl) 
  (tys_cons (.of (i := Try.t36) (by kernel_rfl) Try.underlying36 rfl rfl rfl rfl (fun _ e => by cases e) rfl rfl) 
  (tys_cons (.of (i := Try.t37) (by kernel_rfl) Try.underlying37 rfl rfl rfl rfl (fun _ e => by cases e) rfl rfl) 
  (tys_cons (.of (i := Try.t38) (by kernel_rfl) Try.underlying38 rfl rfl rfl ⟨_, _, _, rfl⟩ (fun _ e => by cases e) rfl rfl) 
  (tys_cons (.of (i := Try.t39) (by kernel_rfl) Try.underlying39 rfl rfl rfl ⟨_, _, _, rfl⟩ (fun _ e => by cases e) rfl rfl) 
  (tys_cons (.of (i := Try.t40) (by kernel_rfl) Try.underlying40 rfl rfl rfl ⟨_, _, _, rfl⟩ (fun _ e => by cases e) rfl rfl) 
  (tys_cons (.of (i := Try.t41) (by kernel_rfl) Try.underlying41 rfl rfl rfl ⟨_, _, _, rfl⟩ (fun _ e => by cases e) rfl rfl) 
  (tys_cons (.of (i := Try.t42) (by kernel_rfl) Try.underlying42 rfl rfl rfl ⟨_, rfl, rfl⟩ (fun _ e => by cases e) rfl rfl) 
  (tys_cons (.of (i := Try.t43) (by kernel_rfl) Try.underlying43 rfl rfl rfl rfl (fun _ e => by cases e) rfl rfl) 
  (tys_cons (.of (i := Try.t44) (by kernel_rfl) Try.underlying44 rfl rfl rfl ⟨_, rfl, rfl⟩ (fun _ e => by cases e) rfl rfl) 
  (tys_cons (.of (i := Try.t45) (by kernel_rfl) Try.underlying45 rfl rfl rfl rfl (fun _ e => by cases e) rfl rfl) 
  (tys_cons (.of (i := Try.t46) (by kernel_rfl) Try.underlying46 rfl rfl rfl ⟨_, rfl, rfl⟩ (fun _ e => by cases e) rfl rfl) 
  (tys_cons (.of (i := Try.t47) (by kernel_rfl) Try.underlying47 rfl rfl rfl rfl (fun _ e => by cases e) rfl rfl) 
  (tys_cons (.of (i := Try.t48) (by kernel_rfl) Try.underlying48 rfl rfl rfl ⟨_, _, _, rfl⟩ (fun _ e => by cases e) rfl rfl) 
  (tys_cons (.of (i := Try.t49) (by kernel_rfl) Try.underlying49 rfl rfl rfl ⟨_, _, _, rfl⟩ (fun _ e => by cases e) rfl rfl) 
  (tys_cons (.of (i := Try.t50) (by kernel_rfl) Try.underlying50 rfl rfl rfl rfl (fun _ e => by cases e) rfl rfl) 
  (tys_cons (.of (i := Try.t51) (by kernel_rfl) Try.underlying51 rfl rfl rfl ⟨_, _, _, rfl⟩ (fun _ e => by cases e) rfl rfl) 
  (tys_cons (.of (i := Try.t52) (by kernel_rfl) Try.underlying52 rfl rfl rfl ⟨_, rfl, rfl⟩ (fun _ e => by cases e) rfl rfl) 
  (tys_cons (.of (i := Try.t53) (by kernel_rfl) Try.underlying53 rfl rfl rfl ⟨_, rfl, rfl⟩ (fun _ e => by cases e) rfl rfl) 
  (tys_cons (.of (i := Try.t54) (by kernel_rfl) Try.underlying54 rfl rfl rfl rfl (fun _ e => by cases e) rfl rfl) 
  (tys_cons (.of (i := Try.t55) (by kernel_rfl) Try.underlying55 rfl rfl rfl ⟨_, rfl, rfl⟩ (fun _ e => by cases e) rfl rfl) 
  (tys_cons (.of (i := Try.t56) (by kernel_rfl) Try.underlying56 rfl rfl rfl ⟨_, rfl, rfl⟩ (fun _ e => by cases e) rfl rfl) 
  (tys_cons (.of (i := Try.t57) (by kernel_rfl) Try.underlying57 rfl rfl rfl ⟨_, _, _, rfl⟩ (fun _ e => by cases e) rfl rfl) 
  (tys_cons (.of (i := Try.t58) (by kernel_rfl) Try.underlying58 rfl rfl rfl rfl (fun _ e => by cases e) rfl rfl) 
  (tys_cons (.of (i := Try.t59) (by kernel_rfl) Try.underlying59 rfl rfl rfl rfl (fun _ e => by cases e) rfl rfl) 
  (tys_cons (.of (i := Try.t60) (by kernel_rfl) Try.underlying60 rfl rfl rfl ⟨_, _, _, rfl⟩ (fun _ e => by cases e) rfl rfl) 
  (tys_cons (.of (i := Try.t61) (by kernel_rfl) Try.underlying61 rfl rfl rfl rfl (fun _ e => by cases e) rfl rfl) 
  (tys_cons (.of (i := Try.t62) (by kernel_rfl) Try.underlying62 rfl rfl rfl rfl (fun _ e => by cases e) rfl rfl) 
  (tys_cons (.of (i := Try.t63) (by kernel_rfl) Try.underlying63 rfl rfl rfl rfl (fun _ e => by cases e) rfl rfl) 
  (tys_cons (.of (i := Try.t64) (by kernel_rfl) Try.underlying64 rfl rfl rfl ⟨_, rfl, rfl⟩ (fun _ e => by cases e) rfl rfl) 
  (tys_cons (.of (i := Try.t65) (by kernel_rfl) Try.underlying65 rfl rfl rfl ⟨_, rfl, rfl⟩ (fun _ e => by cases e) rfl rfl) tys_nil)))))))))))))))))))))))))))))))))))))))))))))))))))))))))))))))

/-- The program, behind a name. -/
class IsProg (P : Program) : Prop where
  eq : P = Try.prog
instance : IsProg Try.prog := ⟨rfl⟩
variable {P : Program} [IsProg P]
def tau : Tys := Ax.look tyList
theorem tau_ok0 : ∀ t ti, tau t = some ti → TIok Try.prog t ti := tys_ok tyList_ok
theorem tau_ok : ∀ t ti, tau t = some ti → TIok P t ti := by
  have h := IsProg.eq (P := P)
  subst h
  exact tau_ok0
theorem mix0 : Try.prog.follows .mixedOrders = true := by kernel_rfl
theorem mix : P.follows .mixedOrders = true := by
  have h := IsProg.eq (P := P)
  subst h
  exact mix0

variable {gl : Nat → Option (List AV)}

/- analemma/analemmalaw41.BigendNumbers -/
noncomputable def code3 : Code := Try.f3.body.getD .skip
theorem inl3 {J : Jd} {args : List AV} {H : Heap} {n : Nat} {R : AV → Heap → Nat → Prop} (hargs : args.length ≤ 106) (h : T.prop P gl n (resQ R) (bodyT tau gl J code3 106 [.tmp 8] args H n)) : CallA P gl 3 args H n R :=
  CallA.inlineE IsProg.eq tau_ok0 mix0 Try.func3 (by kernel_rfl) (by kernel_rfl) (by kernel_rfl) (by kernel_rfl) hargs h

/- analemma/analemmalaw41.BigendBack -/
noncomputable def code4 : Code := Try.f4.body.getD .skip
theorem inl4 {J : Jd} {args : List AV} {H : Heap} {n : Nat} {R : AV → Heap → Nat → Prop} (hargs : args.length ≤ 99) (h : T.prop P gl n (resQ R) (bodyT tau gl J code4 99 [.tmp 6] args H n)) : CallA P gl 4 args H n R :=
  CallA.inlineE IsProg.eq tau_ok0 mix0 Try.func4 (by kernel_rfl) (by kernel_rfl) (by kernel_rfl) (by kernel_rfl) hargs h

/- analemma/analemmalaw41.BigendParts -/
noncomputable def code5 : Code := Try.f5.body.getD .skip
theorem inl5 {J : Jd} {args : List AV} {H : Heap} {n : Nat} {R : AV → Heap → Nat → Prop} (hargs : args.length ≤ 103) (h : T.prop P gl n (resQ R) (bodyT tau gl J code5 103 [.tmp 2] args H n)) : CallA P gl 5 args H n R :=
  CallA.inlineE IsProg.eq tau_ok0 mix0 Try.func5 (by kernel_rfl) (by kernel_rfl) (by kernel_rfl) (by kernel_rfl) hargs h

/- analemma/analemmalaw41.BigendOrder -/
noncomputable def code6 : Code := Try.f6.body.getD .skip
theorem inl6 {J : Jd} {args : List AV} {H : Heap} {n : Nat} {R : AV → Heap → Nat → Prop} (hargs : args.length ≤ 49) (h : T.prop P gl n (resQ R) (bodyT tau gl J code6 49 [.tmp 4] args H n)) : CallA P gl 6 args H n R :=
  CallA.inlineE IsProg.eq tau_ok0 mix0 Try.func6 (by kernel_rfl) (by kernel_rfl) (by kernel_rfl) (by kernel_rfl) hargs h

/- analemma/analemmalaw41.BigendRefuses -/
noncomputable def code7 : Code := Try.f7.body.getD .skip
theorem inl7 {J : Jd} {args : List AV} {H : Heap} {n : Nat} {R : AV → Heap → Nat → Prop} (hargs : args.length ≤ 228) (h : T.prop P gl n (resQ R) (bodyT tau gl J code7 228 [.tmp 6] args H n)) : CallA P gl 7 args H n R :=
  CallA.inlineE IsProg.eq tau_ok0 mix0 Try.func7 (by kernel_rfl) (by kernel_rfl) (by kernel_rfl) (by kernel_rfl) hargs h

/- analemma/analemmalaw41.works -/
noncomputable def code8 : Code := Try.f8.body.getD .skip
theorem inl8 {J : Jd} {args : List AV} {H : Heap} {n : Nat} {R : AV → Heap → Nat → Prop} (hargs : args.length ≤ 125) (h : T.prop P gl n (resQ R) (bodyT tau gl J code8 125 [.tmp 0] args H n)) : CallA P gl 8 args H n R :=
  CallA.inlineE IsProg.eq tau_ok0 mix0 Try.func8 (by kernel_rfl) (by kernel_rfl) (by kernel_rfl) (by kernel_rfl) hargs h

/- bytes.Clone -/
noncomputable def code9 : Code := Try.f9.body.getD .skip
theorem inl9 {J : Jd} {args : List AV} {H : Heap} {n : Nat} {R : AV → Heap → Nat → Prop} (hargs : args.length ≤ 8) (h : T.prop P gl n (resQ R) (bodyT tau gl J code9 8 [.tmp 2] args H n)) : CallA P gl 9 args H n R :=
  CallA.inlineE IsProg.eq tau_ok0 mix0 Try.func9 (by kernel_rfl) (by kernel_rfl) (by kernel_rfl) (by kernel_rfl) hargs h

/- analemma/bigend.Put -/
noncomputable def code10 : Code := Try.f10.body.getD .skip
theorem inl10 {J : Jd} {args : List AV} {H : Heap} {n : Nat} {R : AV → Heap → Nat → Prop} (hargs : args.length ≤ 50) (h : T.prop P gl n (resQ R) (bodyT tau gl J code10 50 [.tmp 6, .tmp 7] args H n)) : CallA P gl 10 args H n R :=
  CallA.inlineE IsProg.eq tau_ok0 mix0 Try.func10 (by kernel_rfl) (by kernel_rfl) (by kernel_rfl) (by kernel_rfl) hargs h

/- analemma/analemmaref41.Put -/
noncomputable def code11 : Code := Try.f11.body.getD .skip
theorem inl11 {J : Jd} {args : List AV} {H : Heap} {n : Nat} {R : AV → Heap → Nat → Prop} (hargs : args.length ≤ 58) (h : T.prop P gl n (resQ R) (bodyT tau gl J code11 58 [.tmp 6, .tmp 7] args H n)) : CallA P gl 11 args H n R :=
  CallA.inlineE IsProg.eq tau_ok0 mix0 Try.func11 (by kernel_rfl) (by kernel_rfl) (by kernel_rfl) (by kernel_rfl) hargs h

/- analemma/bigend.Get -/
noncomputable def code12 : Code := Try.f12.body.getD .skip
theorem inl12 {J : Jd} {args : List AV} {H : Heap} {n : Nat} {R : AV → Heap → Nat → Prop} (hargs : args.length ≤ 40) (h : T.prop P gl n (resQ R) (bodyT tau gl J code12 40 [.tmp 6, .tmp 7] args H n)) : CallA P gl 12 args H n R :=
  CallA.inlineE IsProg.eq tau_ok0 mix0 Try.func12 (by kernel_rfl) (by kernel_rfl) (by kernel_rfl) (by kernel_rfl) hargs h

/- analemma/analemmaref41.Get -/
noncomputable def code13 : Code := Try.f13.body.getD .skip
theorem inl13 {J : Jd} {args : List AV} {H : Heap} {n : Nat} {R : AV → Heap → Nat → Prop} (hargs : args.length ≤ 49) (h : T.prop P gl n (resQ R) (bodyT tau gl J code13 49 [.tmp 6, .tmp 7] args H n)) : CallA P gl 13 args H n R :=
  CallA.inlineE IsProg.eq tau_ok0 mix0 Try.func13 (by kernel_rfl) (by kernel_rfl) (by kernel_rfl) (by kernel_rfl) hargs h

/- analemma/bigend.Bytes -/
noncomputable def code14 : Code := Try.f14.body.getD .skip
theorem inl14 {J : Jd} {args : List AV} {H : Heap} {n : Nat} {R : AV → Heap → Nat → Prop} (hargs : args.length ≤ 22) (h : T.prop P gl n (resQ R) (bodyT tau gl J code14 22 [.tmp 6, .tmp 7] args H n)) : CallA P gl 14 args H n R :=
  CallA.inlineE IsProg.eq tau_ok0 mix0 Try.func14 (by kernel_rfl) (by kernel_rfl) (by kernel_rfl) (by kernel_rfl) hargs h

/- analemma/analemmaref41.Bytes -/
noncomputable def code15 : Code := Try.f15.body.getD .skip
theorem inl15 {J : Jd} {args : List AV} {H : Heap} {n : Nat} {R : AV → Heap → Nat → Prop} (hargs : args.length ≤ 34) (h : T.prop P gl n (resQ R) (bodyT tau gl J code15 34 [.tmp 6, .tmp 7] args H n)) : CallA P gl 15 args H n R :=
  CallA.inlineE IsProg.eq tau_ok0 mix0 Try.func15 (by kernel_rfl) (by kernel_rfl) (by kernel_rfl) (by kernel_rfl) hargs h

/- bytes.Equal -/
noncomputable def code16 : Code := Try.f16.body.getD .skip
theorem inl16 {J : Jd} {args : List AV} {H : Heap} {n : Nat} {R : AV → Heap → Nat → Prop} (hargs : args.length ≤ 10) (h : T.prop P gl n (resQ R) (bodyT tau gl J code16 10 [.tmp 4] args H n)) : CallA P gl 16 args H n R :=
  CallA.inlineE IsProg.eq tau_ok0 mix0 Try.func16 (by kernel_rfl) (by kernel_rfl) (by kernel_rfl) (by kernel_rfl) hargs h

/- analemma/analemmalaw41.sizes -/
noncomputable def code17 : Code := Try.f17.body.getD .skip
theorem inl17 {J : Jd} {args : List AV} {H : Heap} {n : Nat} {R : AV → Heap → Nat → Prop} (hargs : args.length ≤ 2) (h : T.prop P gl n (resQ R) (bodyT tau gl J code17 2 [.tmp 0] args H n)) : CallA P gl 17 args H n R :=
  CallA.inlineE IsProg.eq tau_ok0 mix0 Try.func17 (by kernel_rfl) (by kernel_rfl) (by kernel_rfl) (by kernel_rfl) hargs h

/- bytes.Compare -/
noncomputable def code18 : Code := Try.f18.body.getD .skip
theorem inl18 {J : Jd} {args : List AV} {H : Heap} {n : Nat} {R : AV → Heap → Nat → Prop} (hargs : args.length ≤ 8) (h : T.prop P gl n (resQ R) (bodyT tau gl J code18 8 [.tmp 4] args H n)) : CallA P gl 18 args H n R :=
  CallA.inlineE IsProg.eq tau_ok0 mix0 Try.func18 (by kernel_rfl) (by kernel_rfl) (by kernel_rfl) (by kernel_rfl) hargs h

/- analemma/bigend.isSize -/
noncomputable def code19 : Code := Try.f19.body.getD .skip
theorem inl19 {J : Jd} {args : List AV} {H : Heap} {n : Nat} {R : AV → Heap → Nat → Prop} (hargs : args.length ≤ 8) (h : T.prop P gl n (resQ R) (bodyT tau gl J code19 8 [.tmp 2] args H n)) : CallA P gl 19 args H n R :=
  CallA.inlineE IsProg.eq tau_ok0 mix0 Try.func19 (by kernel_rfl) (by kernel_rfl) (by kernel_rfl) (by kernel_rfl) hargs h

/- analemma/analemmaref41.size -/
noncomputable def code20 : Code := Try.f20.body.getD .skip
theorem inl20 {J : Jd} {args : List AV} {H : Heap} {n : Nat} {R : AV → Heap → Nat → Prop} (hargs : args.length ≤ 13) (h : T.prop P gl n (resQ R) (bodyT tau gl J code20 13 [.tmp 2] args H n)) : CallA P gl 20 args H n R :=
  CallA.inlineE IsProg.eq tau_ok0 mix0 Try.func20 (by kernel_rfl) (by kernel_rfl) (by kernel_rfl) (by kernel_rfl) hargs h

/- analemma/bigend.inside -/
noncomputable def code21 : Code := Try.f21.body.getD .skip
theorem inl21 {J : Jd} {args : List AV} {H : Heap} {n : Nat} {R : AV → Heap → Nat → Prop} (hargs : args.length ≤ 23) (h : T.prop P gl n (resQ R) (bodyT tau gl J code21 23 [.tmp 6] args H n)) : CallA P gl 21 args H n R :=
  CallA.inlineE IsProg.eq tau_ok0 mix0 Try.func21 (by kernel_rfl) (by kernel_rfl) (by kernel_rfl) (by kernel_rfl) hargs h

/- slices.Clone[[]byte,byte] -/
noncomputable def code22 : Code := Try.f22.body.getD .skip
theorem inl22 {J : Jd} {args : List AV} {H : Heap} {n : Nat} {R : AV → Heap → Nat → Prop} (hargs : args.length ≤ 8) (h : T.prop P gl n (resQ R) (bodyT tau gl J code22 8 [.tmp 2] args H n)) : CallA P gl 22 args H n R :=
  CallA.inlineE IsProg.eq tau_ok0 mix0 Try.func22 (by kernel_rfl) (by kernel_rfl) (by kernel_rfl) (by kernel_rfl) hargs h

noncomputable def fnList : List (Nat × FDesc) := [(3, code3, 106, [.tmp 8]),
  (4, code4, 99, [.tmp 6]),
  (5, code5, 103, [.tmp 2]),
  (6, code6, 49, [.tmp 4]),
  (7, code7, 228, [.tmp 6]),
  (8, code8, 125, [.tmp 0]),
  (9, code9, 8, [.tmp 2]),
  (10, code10, 50, [.tmp 6, .tmp 7]),
  (11, code11, 58, [.tmp 6, .tmp 7]),
  (12, code12, 40, [.tmp 6, .tmp 7]),
  (13, code13, 49, [.tmp 6, .tmp 7]),
  (14, code14, 22, [.tmp 6, .tmp 7]),
  (15, code15, 34, [.tmp 6, .tmp 7]),
  (16, code16, 10, [.tmp 4]),
  (17, code17, 2, [.tmp 0]),
  (18, code18, 8, [.tmp 4]),
  (19, code19, 8, [.tmp 2]),
  (20, code20, 13, [.tmp 2]),
  (21, code21, 23, [.tmp 6]),
  (22, code22, 8, [.tmp 2])]
theorem fnD_ok : DOk P gl tau (Ax.look fnList) := dok
  (dok_cons (fun _ _ _ _ _ => inl3) 
  (dok_cons (fun _ _ _ _ _ => inl4) 
  (dok_cons (fun _ _ _ _ _ => inl5) 
  (dok_cons (fun _ _ _ _ _ => inl6) 
  (dok_cons (fun _ _ _ _ _ => inl7) 
  (dok_cons (fun _ _ _ _ _ => inl8) 
  (dok_cons (fun _ _ _ _ _ => inl9) 
  (dok_cons (fun _ _ _ _ _ => inl10) 
  (dok_cons (fun _ _ _ _ _ => inl11) 
  (dok_cons (fun _ _ _ _ _ => inl12) 
  (dok_cons (fun _ _ _ _ _ => inl13) 
  (dok_cons (fun _ _ _ _ _ => inl14) 
  (dok_cons (fun _ _ _ _ _ => inl15) 
  (dok_cons (fun _ _ _ _ _ => inl16) 
  (dok_cons (fun _ _ _ _ _ => inl17) 
  (dok_cons (fun _ _ _ _ _ => inl18) 
  (dok_cons (fun _ _ _ _ _ => inl19) 
  (dok_cons (fun _ _ _ _ _ => inl20) 
  (dok_cons (fun _ _ _ _ _ => inl21) 
  (dok_cons (fun _ _ _ _ _ => inl22) dok_nil))))))))))))))))))))
def jList : List (Nat × Jd) := [(3, ⟨[], [], [(10, [8]), (9, [0, 9, 10, 11, 12, 13, 14, 15, 16, 17, 18, 19, 20, 21]), (8, [0, 1, 2, 9, 10, 11, 12, 13, 14, 15, 16, 17, 18, 19]), (7, [0, 1, 2, 9, 10, 11, 12, 13, 14, 15, 16, 17]), (6, [0, 1, 2, 9, 10, 11, 12, 13, 14, 15]), (5, [0, 1, 2, 9, 10, 11, 12, 13]), (4, [0, 1, 2, 3, 9, 10, 11]), (3, [0, 1, 2, 3, 9]), (2, [8]), (1, [0, 1, 2, 3, 24]), (0, [0, 1, 2, 3])]⟩), (4, ⟨[(4, 10), (5, 51)], [], [(10, [6]), (9, [0, 1, 7, 8, 11, 12]), (8, [6]), (7, [0, 1, 7, 8, 9, 53]), (6, [6]), (5, [0, 1, 7, 8, 9, 10, 51]), (4, [0, 1, 7, 8, 9, 10]), (3, [0, 1, 7, 8, 9]), (2, [0, 1, 7]), (1, [0, 1, 2]), (0, [0, 1, 2])]⟩), (5, ⟨[(2, 25), (6, 54)], [], [(16, [2]), (15, [0, 3, 55]), (14, [2]), (13, [0, 3, 55, 100]), (12, [0, 3, 9, 10, 11, 12, 13, 55]), (11, [0, 3, 9, 10, 11, 55]), (10, [0, 3, 9, 55]), (9, [0, 3, 55, 56]), (8, [0, 3, 55]), (7, [2]), (6, [0, 3, 54]), (5, [0, 3, 5, 6, 7, 8]), (4, [0, 3, 5, 6]), (3, [2]), (2, [0, 3, 25]), (1, [0, 3, 4]), (0, [0])]⟩), (6, ⟨[(3, 25), (5, 30)], [6], [(12, [4]), (9, [5, 7, 9]), (11, [5, 7, 9]), (10, [5, 7, 9, 37]), (8, [0, 1, 5, 7, 9, 33]), (7, [0, 1, 5, 7, 9]), (6, [0, 1, 5, 7]), (5, [0, 1, 5, 7, 30]), (4, [4]), (3, [0, 1, 5, 7, 25]), (2, [0, 1, 5, 6, 7, 8]), (1, [0, 1, 5, 6]), (0, [0, 1])]⟩), (7, ⟨[(8, 76), (16, 117)], [], [(32, [6]), (31, [0, 21, 31]), (30, [0, 20, 200, 201]), (29, [0, 20, 200, 201]), (28, [0, 20, 30, 200, 201]), (27, [0, 20, 200, 201, 202]), (26, [0, 20, 200, 201]), (25, [6]), (24, [0, 20, 198]), (23, [0, 20, 21, 22, 23, 24, 25, 26, 27, 28, 29]), (22, [0, 7, 20, 21, 22, 23, 24, 25, 26, 27]), (21, [0, 7, 20, 21, 22, 23, 24, 25]), (20, [0, 7, 20, 21, 22, 23]), (19, [0, 7, 20, 21]), (18, [0, 7, 85, 86, 87]), (17, [6]), (16, [0, 7, 85, 86, 87, 117]), (15, [0, 7, 16, 17, 18, 19, 85, 86, 87]), (14, [0, 7, 15, 16, 17, 85, 86, 87]), (13, [0, 7, 15, 85, 86, 87]), (12, [0, 7, 85, 86, 87, 88]), (11, [0, 7, 85, 86, 87]), (10, [0, 2, 7, 43, 44, 45]), (9, [6]), (8, [0, 2, 7, 43, 44, 45, 76]), (7, [0, 2, 7, 10, 11, 12, 13, 43, 44, 45]), (6, [0, 2, 7, 9, 10, 11, 43, 44, 45]), (5, [0, 2, 7, 9, 43, 44, 45]), (4, [0, 2, 7, 43, 44, 45, 46]), (3, [0, 2, 7, 43, 44, 45]), (2, [0, 2, 7]), (1, [0, 1, 2]), (0, [0, 1, 2])]⟩), (8, ⟨[(12, 79), (23, 0)], [], [(23, [0]), (22, [13, 14]), (21, [87, 88, 89]), (20, [0]), (19, [87, 88, 89, 112]), (18, [10, 11, 12, 87, 88, 89]), (17, [10, 87, 88, 89]), (16, [87, 88, 89, 90]), (15, [87, 88, 89]), (14, [55, 56, 57]), (13, [0]), (12, [55, 56, 57, 79]), (11, [6, 7, 8, 55, 56, 57]), (10, [6, 55, 56, 57]), (9, [55, 56, 57, 58]), (8, [55, 56, 57]), (7, [24, 25, 26]), (6, [0]), (5, [24, 25, 26, 49]), (4, [2, 3, 4, 24, 25, 26]), (3, [2, 24, 25, 26]), (2, [24, 25, 26, 27]), (1, [24, 25, 26]), (0, [])]⟩), (9, ⟨[], [], [(3, [2]), (2, [2]), (1, [0, 4]), (0, [0])]⟩), (10, ⟨[(4, 24)], [], [(13, [6, 7]), (12, [1, 2, 9, 33, 34]), (11, [1, 2, 9, 33, 34]), (10, [1, 2, 9, 10, 33, 34]), (9, [1, 2, 9, 33, 34, 35]), (8, [1, 2, 9, 33, 34]), (7, [1, 2, 9]), (6, [0, 1, 2, 9]), (5, [6, 7]), (4, [0, 1, 2, 24]), (3, [0, 1, 2, 8]), (2, [6, 7]), (1, [0, 1, 2, 13]), (0, [0, 1, 2])]⟩), (11, ⟨[(10, 11), (11, 52)], [], [(13, [6, 7]), (12, [6, 7]), (11, [0, 9, 52]), (10, [0, 1, 8, 9, 11]), (7, [0, 1, 8, 9, 10]), (9, [0, 1, 8, 9, 10]), (8, [0, 1, 8, 9, 10]), (6, [0, 1, 8, 9, 10, 21]), (5, [0, 1, 8, 9, 10]), (4, [0, 1, 8, 9]), (3, [0, 1, 8]), (2, [6, 7]), (1, [0, 1, 2, 14]), (0, [0, 1, 2])]⟩), (12, ⟨[], [], [(10, [6, 7]), (8, [0, 1, 2, 8, 9]), (9, [0, 1, 2, 8, 9]), (7, [0, 1, 2, 8, 9, 26]), (6, [0, 1, 2, 8, 9]), (5, [0, 1, 2, 8]), (4, [6, 7]), (3, [0, 1, 2, 17]), (2, [6, 7]), (1, [0, 1, 2, 12]), (0, [0, 1, 2])]⟩), (13, ⟨[], [8], [(13, [6, 7]), (11, [2, 8, 10, 11]), (12, [2, 8, 10, 11]), (10, [2, 8, 10, 11, 37]), (9, [2, 8, 10, 11]), (8, [2, 8, 10]), (7, [2, 8, 10, 32]), (6, [2, 8, 10]), (5, [6, 7]), (4, [2, 8, 9, 23]), (3, [2, 8, 9]), (2, [6, 7]), (1, [0, 1, 2, 14]), (0, [0, 1, 2])]⟩), (14, ⟨[], [], [(5, [6, 7]), (4, [6, 7]), (3, [0, 1, 2, 14]), (2, [6, 7]), (1, [0, 1, 2, 9]), (0, [0, 1, 2])]⟩), (15, ⟨[(3, 25)], [], [(5, [6, 7]), (4, [6, 7]), (3, [0, 1, 2, 25]), (2, [6, 7]), (1, [0, 1, 2, 9]), (0, [0, 1, 2])]⟩), (16, ⟨[(1, 4)], [], [(1, [4]), (0, [0, 1])]⟩), (17, ⟨[], [], [(1, [0]), (0, [])]⟩), (18, ⟨[], [], [(1, [4]), (0, [0, 1])]⟩), (19, ⟨[(4, 4)], [], [(6, [2]), (5, [2]), (4, [4]), (3, [3, 4]), (2, [3, 4]), (1, [3]), (0, [0])]⟩), (20, ⟨[(1, 2)], [], [(1, [2]), (0, [0])]⟩), (21, ⟨[(1, 6)], [], [(1, [6]), (0, [0, 1, 2])]⟩), (22, ⟨[], [], [(3, [2]), (2, [2]), (1, [0, 4]), (0, [0])]⟩)]
/-- The functions, each with the tests of its regions and the shapes of its loops. -/
noncomputable def xd (tms : List (Nat × List (Nat × Nat × Tm))) (f : Nat) : Option XDesc :=
  match Ax.look fnList f with
  | some (c, nt, rs) => some (c, nt, rs, ⟨(Ax.look jList f).getD noJ, (Ax.look tms f).getD []⟩)
  | none => none

theorem xd_ok (tms : List (Nat × List (Nat × Nat × Tm))) : DXOk P gl tau (xd tms) := by
  intro f c nt res cx h J args H n R ha hp
  unfold xd at h
  split at h
  · rename_i c' nt' rs' hf
    cases h
    exact fnD_ok f c nt res hf J args H n R ha hp
  · cases h
end Go.Proofs.Ytljbgkfoljjgbaa
