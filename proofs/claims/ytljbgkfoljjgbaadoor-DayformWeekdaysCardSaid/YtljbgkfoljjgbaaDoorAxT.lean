/-
  The types and the functions of this seat, for the small abstract machine.
-/
import Derived.Test.YtljbgkfoljjgbaaDoorAx27
import Derived.Test.YtljbgkfoljjgbaaDoorProg
import Derived.KernelRfl
namespace Go.Proofs.YtljbgkfoljjgbaaDoor
open Go.Ax
set_option linter.unusedVariables false
set_option maxRecDepth 100000

def tyList : List (Nat × TI) := [(1, ⟨.func, 1, 8, [.nilFunc]⟩),
  (2, ⟨.int .i64, 1, 8, [.int .i64 (.lit 0)]⟩),
  (3, ⟨.int .i64, 1, 8, [.int .i64 (.lit 0)]⟩),
  (4, ⟨.bool, 1, 1, [.bool false]⟩),
  (5, ⟨.int .u8, 1, 1, [.int .u8 (.lit 0)]⟩),
  (6, ⟨.int .u8, 1, 1, [.int .u8 (.lit 0)]⟩),
  (7, ⟨.struct [(0, 2), (1, 3), (2, 4), (3, 6)], 4, 24, [.int .i64 (.lit 0), .int .i64 (.lit 0), .bool false, .int .u8 (.lit 0)]⟩),
  (8, ⟨.struct [(0, 2), (1, 3), (2, 4), (3, 6)], 4, 24, [.int .i64 (.lit 0), .int .i64 (.lit 0), .bool false, .int .u8 (.lit 0)]⟩),
  (9, ⟨.string, 1, 16, [.str (.lit [])]⟩),
  (10, ⟨.string, 1, 16, [.str (.lit [])]⟩),
  (11, ⟨.string, 1, 16, [.str (.lit [])]⟩),
  (12, ⟨.int .u64, 1, 8, [.int .u64 (.lit 0)]⟩),
  (13, ⟨.struct [(0, 9), (1, 12)], 2, 24, [.str (.lit []), .int .u64 (.lit 0)]⟩),
  (14, ⟨.struct [(0, 9), (1, 12)], 2, 24, [.str (.lit []), .int .u64 (.lit 0)]⟩),
  (15, ⟨.ptr 66, 1, 8, [.nilptr]⟩),
  (16, ⟨.ptr 69, 1, 8, [.nilptr]⟩),
  (17, ⟨.ptr 78, 1, 8, [.nilptr]⟩),
  (18, ⟨.struct [(0, 17)], 1, 8, [.nilptr]⟩),
  (19, ⟨.struct [(0, 17)], 1, 8, [.nilptr]⟩),
  (20, ⟨.iface, 1, 16, [.nilIface]⟩),
  (21, ⟨.int .i32, 1, 4, [.int .i32 (.lit 0)]⟩),
  (22, ⟨.struct [(0, 3), (1, 3), (2, 3)], 3, 24, [.int .i64 (.lit 0), .int .i64 (.lit 0), .int .i64 (.lit 0)]⟩),
  (23, ⟨.struct [(0, 3), (1, 3), (2, 3)], 3, 24, [.int .i64 (.lit 0), .int .i64 (.lit 0), .int .i64 (.lit 0)]⟩),
  (24, ⟨.int .i64, 1, 8, [.int .i64 (.lit 0)]⟩),
  (26, ⟨.func, 1, 8, [.nilFunc]⟩),
  (27, ⟨.func, 1, 8, [.nilFunc]⟩),
  (28, ⟨.func, 1, 8, [.nilFunc]⟩),
  (29, ⟨.func, 1, 8, [.nilFunc]⟩),
  (30, ⟨.func, 1, 8, [.nilFunc]⟩),
  (31, ⟨.struct [(0, 5), (1, 5), (2, 5)], 3, 3, [.int .u8 (.lit 0), .int .u8 (.lit 0), .int .u8 (.lit 0)]⟩),
  (32, ⟨.struct [(0, 5), (1, 5), (2, 5)], 3, 3, [.int .u8 (.lit 0), .int .u8 (.lit 0), .int .u8 (.lit 0)]⟩),
  (33, ⟨.func, 1, 8, [.nilFunc]⟩),
  (34, ⟨.func, 1, 8, [.nilFunc]⟩),
  (35, ⟨.func, 1, 8, [.nilFunc]⟩),
  (36, ⟨.func, 1, 8, [.nilFunc]⟩),
  (37, ⟨.func, 1, 8, [.nilFunc]⟩),
  (38, ⟨.func, 1, 8, [.nilFunc]⟩),
  (39, ⟨.func, 1, 8, [.nilFunc]⟩),
  (40, ⟨.slice 2, 1, 24, [.nil]⟩),
  (41, ⟨.func, 1, 8, [.nilFunc]⟩),
  (42, ⟨.func, 1, 8, [.nilFunc]⟩),
  (43, ⟨.func, 1, 8, [.nilFunc]⟩),
  (44, ⟨.int .u32, 1, 4, [.int .u32 (.lit 0)]⟩),
  (45, ⟨.func, 1, 8, [.nilFunc]⟩),
  (46, ⟨.slice 3, 1, 24, [.nil]⟩),
  (47, ⟨.func, 1, 8, [.nilFunc]⟩),
  (48, ⟨.func, 1, 8, [.nilFunc]⟩),
  (49, ⟨.struct [(0, 4), (1, 4), (2, 48)], 3, 16, [.bool false, .bool false, .nilFunc]⟩),
  (50, ⟨.struct [(0, 4), (1, 4), (2, 48)], 3, 16, [.bool false, .bool false, .nilFunc]⟩),
  (52, ⟨.func, 1, 8, [.nilFunc]⟩),
  (53, ⟨.func, 1, 8, [.nilFunc]⟩),
  (54, ⟨.func, 1, 8, [.nilFunc]⟩),
  (55, ⟨.func, 1, 8, [.nilFunc]⟩),
  (56, ⟨.func, 1, 8, [.nilFunc]⟩),
  (57, ⟨.func, 1, 8, [.nilFunc]⟩),
  (58, ⟨.array 13 3, 13, 104, [.int .i64 (.lit 0), .int .i64 (.lit 0), .int .i64 (.lit 0), .int .i64 (.lit 0), .int .i64 (.lit 0), .int .i64 (.lit 0), .int .i64 (.lit 0), .int .i64 (.lit 0), .int .i64 (.lit 0), .int .i64 (.lit 0), .int .i64 (.lit 0), .int .i64 (.lit 0), .int .i64 (.lit 0)]⟩),
  (59, ⟨.array 5 50, 15, 80, [.bool false, .bool false, .nilFunc, .bool false, .bool false, .nilFunc, .bool false, .bool false, .nilFunc, .bool false, .bool false, .nilFunc, .bool false, .bool false, .nilFunc]⟩),
  (60, ⟨.func, 1, 8, [.nilFunc]⟩),
  (61, ⟨.func, 1, 8, [.nilFunc]⟩),
  (62, ⟨.func, 1, 8, [.nilFunc]⟩),
  (63, ⟨.func, 1, 8, [.nilFunc]⟩),
  (64, ⟨.func, 1, 8, [.nilFunc]⟩),
  (65, ⟨.struct [(0, 17), (1, 17), (2, 17), (3, 9)], 4, 40, [.nilptr, .nilptr, .nilptr, .str (.lit [])]⟩),
  (66, ⟨.struct [(0, 17), (1, 17), (2, 17), (3, 9)], 4, 40, [.nilptr, .nilptr, .nilptr, .str (.lit [])]⟩),
  (67, ⟨.array 0 16, 0, 0, []⟩),
  (68, ⟨.struct [(0, 67)], 0, 0, []⟩),
  (69, ⟨.struct [(0, 67)], 0, 0, []⟩),
  (70, ⟨.func, 1, 8, [.nilFunc]⟩),
  (71, ⟨.int .u8, 1, 1, [.int .u8 (.lit 0)]⟩),
  (72, ⟨.int .u8, 1, 1, [.int .u8 (.lit 0)]⟩),
  (73, ⟨.func, 1, 8, [.nilFunc]⟩),
  (74, ⟨.ptr 5, 1, 8, [.nilptr]⟩),
  (75, ⟨.int .i32, 1, 4, [.int .i32 (.lit 0)]⟩),
  (76, ⟨.int .i32, 1, 4, [.int .i32 (.lit 0)]⟩),
  (77, ⟨.struct [(0, 12), (1, 12), (2, 44), (3, 71), (4, 5), (5, 5), (6, 72), (7, 73), (8, 74), (9, 75), (10, 76)], 11, 48, [.int .u64 (.lit 0), .int .u64 (.lit 0), .int .u32 (.lit 0), .int .u8 (.lit 0), .int .u8 (.lit 0), .int .u8 (.lit 0), .int .u8 (.lit 0), .nilFunc, .nilptr, .int .i32 (.lit 0), .int .i32 (.lit 0)]⟩),
  (78, ⟨.struct [(0, 12), (1, 12), (2, 44), (3, 71), (4, 5), (5, 5), (6, 72), (7, 73), (8, 74), (9, 75), (10, 76)], 11, 48, [.int .u64 (.lit 0), .int .u64 (.lit 0), .int .u32 (.lit 0), .int .u8 (.lit 0), .int .u8 (.lit 0), .int .u8 (.lit 0), .int .u8 (.lit 0), .nilFunc, .nilptr, .int .i32 (.lit 0), .int .i32 (.lit 0)]⟩)]

theorem tyList_ok : ∀ p ∈ tyList, TIok Tryd.prog p.1 p.2 :=
  (tys_cons (.of (i := Tryd.t1) (by kernel_rfl) Tryd.underlying1 rfl rfl rfl ⟨_, _, _, rfl⟩ (fun _ e => by cases e) rfl rfl) 
  (tys_cons (.of (i := Tryd.t2) (by kernel_rfl) Tryd.underlying2 rfl rfl rfl rfl (fun _ e => by cases e) rfl rfl) 
  (tys_cons (.of (i := Tryd.t3) (by kernel_rfl) Tryd.underlying3 rfl rfl rfl rfl (fun _ e => by cases e) rfl rfl) 
  (tys_cons (.of (i := Tryd.t4) (by kernel_rfl) Tryd.underlying4 rfl rfl rfl rfl (fun _ e => by cases e) rfl rfl) 
  (tys_cons (.of (i := Tryd.t5) (by kernel_rfl) Tryd.underlying5 rfl rfl rfl rfl (fun _ e => by cases e) rfl rfl) 
  (tys_cons (.of (i := Tryd.t6) (by kernel_rfl) Tryd.underlying6 rfl rfl rfl rfl (fun _ e => by cases e) rfl rfl) 
  (tys_cons (.of (i := Tryd.t7) (by kernel_rfl) Tryd.underlying7 rfl rfl rfl ⟨_, rfl, rfl⟩ (fun _ e => by cases e) rfl rfl) 
  (tys_cons (.of (i := Tryd.t8) (by kernel_rfl) Tryd.underlying8 rfl rfl rfl ⟨_, rfl, rfl⟩ (fun _ e => by cases e) rfl rfl) 
  (tys_cons (.of (i := Tryd.t9) (by kernel_rfl) Tryd.underlying9 rfl rfl rfl rfl (fun _ e => by cases e) rfl rfl) 
  (tys_cons (.of (i := Tryd.t10) (by kernel_rfl) Tryd.underlying10 rfl rfl rfl rfl (fun _ e => by cases e) rfl rfl) 
  (tys_cons (.of (i := Tryd.t11) (by kernel_rfl) Tryd.underlying11 rfl rfl rfl rfl (fun _ e => by cases e) rfl rfl) 
  (tys_cons (.of (i := Tryd.t12) (by kernel_rfl) Tryd.underlying12 rfl rfl rfl rfl (fun _ e => by cases e) rfl rfl) 
  (tys_cons (.of (i := Tryd.t13) (by kernel_rfl) Tryd.underlying13 rfl rfl rfl ⟨_, rfl, rfl⟩ (fun _ e => by cases e) rfl rfl) 
  (tys_cons (.of (i := Tryd.t14) (by kernel_rfl) Tryd.underlying14 rfl rfl rfl ⟨_, rfl, rfl⟩ (fun _ e => by cases e) rfl rfl) 
  (tys_cons (.of (i := Tryd.t15) (by kernel_rfl) Tryd.underlying15 rfl rfl rfl rfl (fun _ e => by cases e) rfl rfl) 
  (tys_cons (.of (i := Tryd.t16) (by kernel_rfl) Tryd.underlying16 rfl rfl rfl rfl (fun _ e => by cases e) rfl rfl) 
  (tys_cons (.of (i := Tryd.t17) (by kernel_rfl) Tryd.underlying17 rfl rfl rfl rfl (fun _ e => by cases e) rfl rfl) 
  (tys_cons (.of (i := Tryd.t18) (by kernel_rfl) Tryd.underlying18 rfl rfl rfl ⟨_, rfl, rfl⟩ (fun _ e => by cases e) rfl rfl) 
  (tys_cons (.of (i := Tryd.t19) (by kernel_rfl) Tryd.underlying19 rfl rfl rfl ⟨_, rfl, rfl⟩ (fun _ e => by cases e) rfl rfl) 
  (tys_cons (.of (i := Tryd.t20) (by kernel_rfl) Tryd.underlying20 rfl rfl rfl ⟨_, rfl⟩ (fun _ _ => rfl) rfl rfl) 
  (tys_cons (.of (i := Tryd.t21) (by kernel_rfl) Tryd.underlying21 rfl rfl rfl rfl (fun _ e => by cases e) rfl rfl) 
  (tys_cons (.of (i := Tryd.t22) (by kernel_rfl) Tryd.underlying22 rfl rfl rfl ⟨_, rfl, rfl⟩ (fun _ e => by cases e) rfl rfl) 
  (tys_cons (.of (i := Tryd.t23) (by kernel_rfl) Tryd.underlying23 rfl rfl rfl ⟨_, rfl, rfl⟩ (fun _ e => by cases e) rfl rfl) 
  (tys_cons (.of (i := Tryd.t24) (by kernel_rfl) Tryd.underlying24 rfl rfl rfl rfl (fun _ e => by cases e) rfl rfl) 
  (tys_cons (.of (i := Tryd.t26) (by kernel_rfl) Tryd.underlying26 rfl rfl rfl ⟨_, _, _, rfl⟩ (fun _ e => by cases e) rfl rfl) 
  (tys_cons (.of (i := Tryd.t27) (by kernel_rfl) Tryd.underlying27 rfl rfl rfl ⟨_, _, _, rfl⟩ (fun _ e => by cases e) rfl rfl) 
  (tys_cons (.of (i := Tryd.t28) (by kernel_rfl) Tryd.underlying28 rfl rfl rfl ⟨_, _, _, rfl⟩ (fun _ e => by cases e) rfl rfl) 
  (tys_cons (.of (i := Tryd.t29) (by kernel_rfl) Tryd.underlying29 rfl rfl rfl ⟨_, _, _, rfl⟩ (fun _ e => by cases e) rfl rfl) 
  (tys_cons (.of (i := Tryd.t30) (by kernel_rfl) Tryd.underlying30 rfl rfl rfl ⟨_, _, _, rfl⟩ (fun _ e => by cases e) rfl rfl) 
  (tys_cons (.of (i := Tryd.t31) (by kernel_rfl) Tryd.underlying31 rfl rfl rfl ⟨_, rfl, rfl⟩ (fun _ e => by cases e) rfl rfl) 
  (tys_cons (.of (i := Tryd.t32) (by kernel_rfl) Tryd.underlying32 rfl rfl rfl ⟨_, rfl, rfl⟩ (fun _ e => by cases e) rfl rfl) 
  (tys_cons (.of (i := Tryd.t33) (by kernel_rfl) Tryd.underlying33 rfl rfl rfl ⟨_, _, _, rfl⟩ (fun _ e => by cases e) rfl rfl) 
  (tys_cons (.of (i := Tryd.t34) (by kernel_rfl) Tryd.underlying34 rfl rfl rfl ⟨_, _, _, rfl⟩ (fun _ e => by cases e) rfl rfl) 
  (tys_cons (.of (i := Tryd.t35) (by kernel_rfl) Tryd.underlying35 rfl rfl rfl ⟨_, _, _, rfl⟩ (fun _ e => by cases e) rfl rfl) 
  (tys_cons (.of (i := Tryd.t36) (by kernel_rfl) Tryd.underlying36 rfl rfl rfl ⟨_, _, _, rfl⟩ (fun _ e => by cases e) rfl rfl) 
  (tys_cons (.of (i := Tryd.t37) (by kernel_rfl) Tryd.underlying37 rfl rfl rfl ⟨_, _, _, rfl⟩ (fun _ e => by cases e) rfl rfl) 
  (tys_cons (.of (i := Tryd.t38) (by kernel_rfl) Tryd.underlying38 rfl rfl rfl ⟨_, _, _, rfl⟩ (fun _ e => by cases e) rfl rfl) 
  (tys_cons (.of (i := Tryd.t39) (by kernel_rfl) Tryd.underlying39 rfl rfl rfl ⟨_, _, _, rfl⟩ (fun _ e => by cases e) rfl rfl) 
  (tys_cons (.of (i := Tryd.t40) (by kernel_rfl) Tryd.underlying40 rfl rfl rfl rfl (fun _ e => by cases e) rfl rfl) 
  (tys_cons (.of (i := Tryd.t41) (by kernel_rfl) Tryd.underlying41 rfl rfl rfl ⟨_, _, _, rfl⟩ (fun _ e => by cases e) rfl rfl) 
  (tys_cons (.of (i := Tryd.t42) (by kernel_rfl) Tryd.underlying42 rfl rfl rfl ⟨_, _, _, rfl⟩ (fun _ e => by cases e) rfl rfl) 
  (tys_cons (.of (i := Tryd.t43) (by kernel_rfl) Tryd.underlying43 rfl rfl rfl ⟨_, _, _, rfl⟩ (fun _ e => by cases e) rfl rfl) 
  (tys_cons (.of (i := Tryd.t44) (by kernel_rfl) Tryd.underlying44 rfl rfl rfl rfl (fun _ e => by cases e) rfl rfl) 
  (tys_cons (.of (i := Tryd.t45) (by kernel_rfl) Tryd.underlying45 rfl rfl rfl ⟨_, _, _, rfl⟩ (fun _ e => by cases e) rfl rfl) 
  (tys_cons (.of (i := Tryd.t46) (by kernel_rfl) Tryd.underlying46 rfl rfl rfl rfl (fun _ e => by cases e) rfl rfl) 
  (tys_cons (.of (i := Tryd.t47) (by kernel_rfl) Tryd.underlying47 rfl rfl rfl ⟨_, _, _, rfl⟩ (fun _ e => by cases e) rfl rfl) 
  (tys_cons (.of (i := Tryd.t48) (by kernel_rfl) Tryd.underlying48 rfl rfl rfl ⟨_, _, _, rfl⟩ (fun _ e => by cases e) rfl rfl) 
  (tys_cons (.of (i := Tryd.t49) (by kernel_rfl) Tryd.underlying49 rfl rfl rfl ⟨_, rfl, rfl⟩ (fun _ e => by cases e) rfl rfl) 
  (tys_cons (.of (i := Tryd.t50) (by kernel_rfl) Tryd.underlying50 rfl rfl rfl ⟨_, rfl, rfl⟩ (fun _ e => by cases e) rfl rfl) 
  (tys_cons (.of (i := Tryd.t52) (by kernel_rfl) Tryd.underlying52 rfl rfl rfl ⟨_, _, _, rfl⟩ (fun _ e => by cases e) rfl rfl) 
  (tys_cons (.of (i := Tryd.t53) (by kernel_rfl) Tryd.underlying53 rfl rfl rfl ⟨_, _, _, rfl⟩ (fun _ e => by cases e) rfl rfl) 
  (tys_cons (.of (i := Tryd.t54) (by kernel_rfl) Tryd.underlying54 rfl rfl rfl ⟨_, _, _, rfl⟩ (fun _ e => by cases e) rfl rfl) 
  (tys_cons (.of (i := Tryd.t55) (by kernel_rfl) Tryd.underlying55 rfl rfl rfl ⟨_, _, _, rfl⟩ (fun _ e => by cases e) rfl rfl) 
  (tys_cons (.of (i := Tryd.t56) (by kernel_rfl) Tryd.underlying56 rfl rfl rfl ⟨_, _, _, rfl⟩ (fun _ e => by cases e) rfl rfl) 
  (tys_cons (.of (i := Tryd.t57) (by kernel_rfl) Tryd.underlying57 rfl rfl rfl ⟨_, _, _, rfl⟩ (fun _ e => by cases e) rfl rfl) 
  (tys_cons (.of (i := Tryd.t58) (by kernel_rfl) Tryd.underlying58 rfl rfl rfl rfl (fun _ e => by cases e) rfl rfl) 
  (tys_cons (.of (i := Tryd.t59) (by kernel_rfl) Tryd.underlying59 rfl rfl rfl rfl (fun _ e => by cases e) rfl rfl) 
  (tys_cons (.of (i := Tryd.t60) (by kernel_rfl) Tryd.underlying60 rfl rfl rfl ⟨_, _, _, rfl⟩ (fun _ e => by cases e) rfl rfl) 
  (tys_cons (.of (i := Tryd.t61) (by kernel_rfl) Tryd.underlying61 rfl rfl rfl ⟨_, _, _, rfl⟩ (fun _ e => by cases e) rfl rfl) 
  (tys_cons (.of (i := Tryd.t62) (by kernel_rfl) Tryd.underlying62 rfl rfl rfl ⟨_, _, _, rfl⟩ (fun _ e => by cases e) rfl rfl) 
  (tys_cons (.of (i := Tryd.t63) (by kernel_rfl) Tryd.underlying63 rfl rfl rfl ⟨_, _, _, rfl⟩ (fun _ e => by cases e) rfl rfl) 
  (tys_cons (.of (i := Tryd.t64) (by kernel_rfl) Tryd.underlying64 rfl rfl rfl ⟨_, _, _, rfl⟩ (fun _ e => by cases e) rfl rfl) 
  (tys_cons (.of (i := Tryd.t65) (by kernel_rfl) Tryd.underlying65 rfl rfl rfl ⟨_, rfl, rfl⟩ (fun _ e => by cases e) rfl rfl) 
  (tys_cons (.of (i := Tryd.t66) (by kernel_rfl) Tryd.underlying66 rfl rfl rfl ⟨_, rfl, rfl⟩ (fun _ e => by cases e) rfl rfl) 
  (tys_cons (.of (i := Tryd.t67) (by kernel_rfl) Tryd.underlying67 rfl rfl rfl rfl (fun _ e => by cases e) rfl rfl) 
  (tys_cons (.of (i := Tryd.t68) (by kernel_rfl) Tryd.underlying68 rfl rfl rfl ⟨_, rfl, rfl⟩ (fun _ e => by cases e) rfl rfl) 
  (tys_cons (.of (i := Tryd.t69) (by kernel_rfl) Tryd.underlying69 rfl rfl rfl ⟨_, rfl, rfl⟩ (fun _ e => by cases e) rfl rfl) 
  (tys_cons (.of (i := Tryd.t70) (by kernel_rfl) Tryd.underlying70 rfl rfl rfl ⟨_, _, _, rfl⟩ (fun _ e => by cases e) rfl rfl) 
  (tys_cons (.of (i := Tryd.t71) (by kernel_rfl) Tryd.underlying71 rfl rfl rfl rfl (fun _ e => by cases e) rfl rfl) 
  (tys_cons (.of (i := Tryd.t72) (by kernel_rfl) Tryd.underlying72 rfl rfl rfl rfl (fun _ e => by cases e) rfl rfl) 
  (tys_cons (.of (i := Tryd.t73) (by kernel_rfl) Tryd.underlying73 rfl rfl rfl ⟨_, _, _, rfl⟩ (fun _ e => by cases e) rfl rfl) 
  (tys_cons (.of (i := Tryd.t74) (by kernel_rfl) Tryd.underlying74 rfl rfl rfl rfl (fun _ e => by cases e) rfl rfl) 
  (tys_cons (.of (i := Tryd.t75) (by kernel_rfl) Tryd.underlying75 rfl rfl rfl rfl (fun _ e => by cases e) rfl rfl) 
  (tys_cons (.of (i := Tryd.t76) (by kernel_rfl) Tryd.underlying76 rfl rfl rfl rfl (fun _ e => by cases e) rfl rfl) 
  (tys_cons (.of (i := Tryd.t77) (by kernel_rfl) Tryd.underlying77 rfl rfl rfl ⟨_, rfl, rfl⟩ (fun _ e => by cases e) rfl rfl) 
  (tys_cons (.of (i := Tryd.t78) (by kernel_rfl) Tryd.underlying78 rfl rfl rfl ⟨_, rfl, rfl⟩ (fun _ e => by cases e) rfl rfl) tys_nil))))))))))))))))))))))))))))))))))))))))))))))))))))))))))))))))))))))))))))

/-- The program, behind a name. -/
class IsProg (P : Program) : Prop where
  eq : P = Tryd.prog
instance : IsProg Tryd.prog := ⟨rfl⟩
variable {P : Program} [IsProg P]
def tau : Tys := Ax.look tyList
theorem tau_ok0 : ∀ t ti, tau t = some ti → TIok Tryd.prog t ti := tys_ok tyList_ok
theorem tau_ok : ∀ t ti, tau t = some ti → TIok P t ti := by
  have h := IsProg.eq (P := P)
  subst h
  exact tau_ok0
theorem mix0 : Tryd.prog.follows .mixedOrders = true := by kernel_rfl
theorem mix : P.follows .mixedOrders = true := by
  have h := IsProg.eq (P := P)
  subst h
  exact mix0

variable {gl : Nat → Option (List AV)}

/- analemma/analemmalaw02.DayformDays -/
noncomputable def code3 : Code := Tryd.f3.body.getD .skip
theorem inl3 {J : Jd} {args : List AV} {H : Heap} {n : Nat} {R : AV → Heap → Nat → Prop} (hargs : args.length ≤ 43) (h : T.prop P gl n (resQ R) (bodyT tau gl J code3 43 [.tmp 6] args H n)) : CallA P gl 3 args H n R :=
  CallA.inlineE IsProg.eq tau_ok0 mix0 Tryd.func3 (by kernel_rfl) (by kernel_rfl) (by kernel_rfl) (by kernel_rfl) hargs h

/- analemma/analemmalaw02.DayformAlways -/
noncomputable def code4 : Code := Tryd.f4.body.getD .skip
theorem inl4 {J : Jd} {args : List AV} {H : Heap} {n : Nat} {R : AV → Heap → Nat → Prop} (hargs : args.length ≤ 23) (h : T.prop P gl n (resQ R) (bodyT tau gl J code4 23 [.tmp 8] args H n)) : CallA P gl 4 args H n R :=
  CallA.inlineE IsProg.eq tau_ok0 mix0 Tryd.func4 (by kernel_rfl) (by kernel_rfl) (by kernel_rfl) (by kernel_rfl) hargs h

/- analemma/analemmalaw02.DayformWeekdays -/
noncomputable def code5 : Code := Tryd.f5.body.getD .skip
theorem inl5 {J : Jd} {args : List AV} {H : Heap} {n : Nat} {R : AV → Heap → Nat → Prop} (hargs : args.length ≤ 128) (h : T.prop P gl n (resQ R) (bodyT tau gl J code5 128 [.tmp 6] args H n)) : CallA P gl 5 args H n R :=
  CallA.inlineE IsProg.eq tau_ok0 mix0 Tryd.func5 (by kernel_rfl) (by kernel_rfl) (by kernel_rfl) (by kernel_rfl) hargs h

/- analemma/analemmalaw02.DayformEach -/
noncomputable def code6 : Code := Tryd.f6.body.getD .skip
theorem inl6 {J : Jd} {args : List AV} {H : Heap} {n : Nat} {R : AV → Heap → Nat → Prop} (hargs : args.length ≤ 109) (h : T.prop P gl n (resQ R) (bodyT tau gl J code6 109 [.tmp 8] args H n)) : CallA P gl 6 args H n R :=
  CallA.inlineE IsProg.eq tau_ok0 mix0 Tryd.func6 (by kernel_rfl) (by kernel_rfl) (by kernel_rfl) (by kernel_rfl) hargs h

/- analemma/analemmalaw02.DayformWeeks -/
noncomputable def code7 : Code := Tryd.f7.body.getD .skip
theorem inl7 {J : Jd} {args : List AV} {H : Heap} {n : Nat} {R : AV → Heap → Nat → Prop} (hargs : args.length ≤ 136) (h : T.prop P gl n (resQ R) (bodyT tau gl J code7 136 [.tmp 6] args H n)) : CallA P gl 7 args H n R :=
  CallA.inlineE IsProg.eq tau_ok0 mix0 Tryd.func7 (by kernel_rfl) (by kernel_rfl) (by kernel_rfl) (by kernel_rfl) hargs h

/- analemma/analemmalaw02.DayformRefuses -/
noncomputable def code8 : Code := Tryd.f8.body.getD .skip
theorem inl8 {J : Jd} {args : List AV} {H : Heap} {n : Nat} {R : AV → Heap → Nat → Prop} (hargs : args.length ≤ 111) (h : T.prop P gl n (resQ R) (bodyT tau gl J code8 111 [.tmp 6] args H n)) : CallA P gl 8 args H n R :=
  CallA.inlineE IsProg.eq tau_ok0 mix0 Tryd.func8 (by kernel_rfl) (by kernel_rfl) (by kernel_rfl) (by kernel_rfl) hargs h

/- analemma/dayform.On -/
noncomputable def code9 : Code := Tryd.f9.body.getD .skip
theorem inl9 {J : Jd} {args : List AV} {H : Heap} {n : Nat} {R : AV → Heap → Nat → Prop} (hargs : args.length ≤ 44) (h : T.prop P gl n (resQ R) (bodyT tau gl J code9 44 [.tmp 6, .tmp 7] args H n)) : CallA P gl 9 args H n R :=
  CallA.inlineE IsProg.eq tau_ok0 mix0 Tryd.func9 (by kernel_rfl) (by kernel_rfl) (by kernel_rfl) (by kernel_rfl) hargs h

/- analemma/analemmaref02.On -/
noncomputable def code10 : Code := Tryd.f10.body.getD .skip
theorem inl10 {J : Jd} {args : List AV} {H : Heap} {n : Nat} {R : AV → Heap → Nat → Prop} (hargs : args.length ≤ 84) (h : T.prop P gl n (resQ R) (bodyT tau gl J code10 84 [.tmp 6, .tmp 7] args H n)) : CallA P gl 10 args H n R :=
  CallA.inlineE IsProg.eq tau_ok0 mix0 Tryd.func10 (by kernel_rfl) (by kernel_rfl) (by kernel_rfl) (by kernel_rfl) hargs h

/- analemma/dayform.Check -/
noncomputable def code11 : Code := Tryd.f11.body.getD .skip
theorem inl11 {J : Jd} {args : List AV} {H : Heap} {n : Nat} {R : AV → Heap → Nat → Prop} (hargs : args.length ≤ 12) (h : T.prop P gl n (resQ R) (bodyT tau gl J code11 12 [.tmp 2] args H n)) : CallA P gl 11 args H n R :=
  CallA.inlineE IsProg.eq tau_ok0 mix0 Tryd.func11 (by kernel_rfl) (by kernel_rfl) (by kernel_rfl) (by kernel_rfl) hargs h

/- analemma/analemmaref02.Check -/
noncomputable def code12 : Code := Tryd.f12.body.getD .skip
theorem inl12 {J : Jd} {args : List AV} {H : Heap} {n : Nat} {R : AV → Heap → Nat → Prop} (hargs : args.length ≤ 51) (h : T.prop P gl n (resQ R) (bodyT tau gl J code12 51 [.tmp 2] args H n)) : CallA P gl 12 args H n R :=
  CallA.inlineE IsProg.eq tau_ok0 mix0 Tryd.func12 (by kernel_rfl) (by kernel_rfl) (by kernel_rfl) (by kernel_rfl) hargs h

/- analemma/analemmalaw02.works -/
noncomputable def code13 : Code := Tryd.f13.body.getD .skip
theorem inl13 {J : Jd} {args : List AV} {H : Heap} {n : Nat} {R : AV → Heap → Nat → Prop} (hargs : args.length ≤ 70) (h : T.prop P gl n (resQ R) (bodyT tau gl J code13 70 [.tmp 0] args H n)) : CallA P gl 13 args H n R :=
  CallA.inlineE IsProg.eq tau_ok0 mix0 Tryd.func13 (by kernel_rfl) (by kernel_rfl) (by kernel_rfl) (by kernel_rfl) hargs h

/- analemma/dayform.Always -/
noncomputable def code14 : Code := Tryd.f14.body.getD .skip
theorem inl14 {J : Jd} {args : List AV} {H : Heap} {n : Nat} {R : AV → Heap → Nat → Prop} (hargs : args.length ≤ 55) (h : T.prop P gl n (resQ R) (bodyT tau gl J code14 55 [.tmp 8] args H n)) : CallA P gl 14 args H n R :=
  CallA.inlineE IsProg.eq tau_ok0 mix0 Tryd.func14 (by kernel_rfl) (by kernel_rfl) (by kernel_rfl) (by kernel_rfl) hargs h

/- analemma/analemmaref02.Always -/
noncomputable def code15 : Code := Tryd.f15.body.getD .skip
theorem inl15 {J : Jd} {args : List AV} {H : Heap} {n : Nat} {R : AV → Heap → Nat → Prop} (hargs : args.length ≤ 49) (h : T.prop P gl n (resQ R) (bodyT tau gl J code15 49 [.tmp 8] args H n)) : CallA P gl 15 args H n R :=
  CallA.inlineE IsProg.eq tau_ok0 mix0 Tryd.func15 (by kernel_rfl) (by kernel_rfl) (by kernel_rfl) (by kernel_rfl) hargs h

/- (analemma/analemmalaw02.Draft).Made -/
noncomputable def code16 : Code := Tryd.f16.body.getD .skip
theorem inl16 {J : Jd} {args : List AV} {H : Heap} {n : Nat} {R : AV → Heap → Nat → Prop} (hargs : args.length ≤ 33) (h : T.prop P gl n (resQ R) (bodyT tau gl J code16 33 [.cell 2 23] args H n)) : CallA P gl 16 args H n R :=
  CallA.inlineE IsProg.eq tau_ok0 mix0 Tryd.func16 (by kernel_rfl) (by kernel_rfl) (by kernel_rfl) (by kernel_rfl) hargs h

/- analemma/analemmalaw02.year -/
noncomputable def code17 : Code := Tryd.f17.body.getD .skip
theorem inl17 {J : Jd} {args : List AV} {H : Heap} {n : Nat} {R : AV → Heap → Nat → Prop} (hargs : args.length ≤ 7) (h : T.prop P gl n (resQ R) (bodyT tau gl J code17 7 [.tmp 2] args H n)) : CallA P gl 17 args H n R :=
  CallA.inlineE IsProg.eq tau_ok0 mix0 Tryd.func17 (by kernel_rfl) (by kernel_rfl) (by kernel_rfl) (by kernel_rfl) hargs h

/- analemma/civil.Days -/
noncomputable def code18 : Code := Tryd.f18.body.getD .skip
theorem inl18 {J : Jd} {args : List AV} {H : Heap} {n : Nat} {R : AV → Heap → Nat → Prop} (hargs : args.length ≤ 60) (h : T.prop P gl n (resQ R) (bodyT tau gl J code18 60 [.tmp 6, .tmp 7] args H n)) : CallA P gl 18 args H n R :=
  CallA.inlineE IsProg.eq tau_ok0 mix0 Tryd.func18 (by kernel_rfl) (by kernel_rfl) (by kernel_rfl) (by kernel_rfl) hargs h

/- analemma/civil.Len -/
noncomputable def code19 : Code := Tryd.f19.body.getD .skip
theorem inl19 {J : Jd} {args : List AV} {H : Heap} {n : Nat} {R : AV → Heap → Nat → Prop} (hargs : args.length ≤ 29) (h : T.prop P gl n (resQ R) (bodyT tau gl J code19 29 [.tmp 4] args H n)) : CallA P gl 19 args H n R :=
  CallA.inlineE IsProg.eq tau_ok0 mix0 Tryd.func19 (by kernel_rfl) (by kernel_rfl) (by kernel_rfl) (by kernel_rfl) hargs h

/- analemma/civil.Weekday -/
noncomputable def code20 : Code := Tryd.f20.body.getD .skip
theorem inl20 {J : Jd} {args : List AV} {H : Heap} {n : Nat} {R : AV → Heap → Nat → Prop} (hargs : args.length ≤ 8) (h : T.prop P gl n (resQ R) (bodyT tau gl J code20 8 [.tmp 2] args H n)) : CallA P gl 20 args H n R :=
  CallA.inlineE IsProg.eq tau_ok0 mix0 Tryd.func20 (by kernel_rfl) (by kernel_rfl) (by kernel_rfl) (by kernel_rfl) hargs h

/- analemma/analemmalaw02.from -/
noncomputable def code21 : Code := Tryd.f21.body.getD .skip
theorem inl21 {J : Jd} {args : List AV} {H : Heap} {n : Nat} {R : AV → Heap → Nat → Prop} (hargs : args.length ≤ 8) (h : T.prop P gl n (resQ R) (bodyT tau gl J code21 8 [.cell 4 23] args H n)) : CallA P gl 21 args H n R :=
  CallA.inlineE IsProg.eq tau_ok0 mix0 Tryd.func21 (by kernel_rfl) (by kernel_rfl) (by kernel_rfl) (by kernel_rfl) hargs h

/- analemma/analemmalaw02.last -/
noncomputable def code22 : Code := Tryd.f22.body.getD .skip
theorem inl22 {J : Jd} {args : List AV} {H : Heap} {n : Nat} {R : AV → Heap → Nat → Prop} (hargs : args.length ≤ 5) (h : T.prop P gl n (resQ R) (bodyT tau gl J code22 5 [.cell 2 23] args H n)) : CallA P gl 22 args H n R :=
  CallA.inlineE IsProg.eq tau_ok0 mix0 Tryd.func22 (by kernel_rfl) (by kernel_rfl) (by kernel_rfl) (by kernel_rfl) hargs h

/- analemma/analemmalaw02.to -/
noncomputable def code23 : Code := Tryd.f23.body.getD .skip
theorem inl23 {J : Jd} {args : List AV} {H : Heap} {n : Nat} {R : AV → Heap → Nat → Prop} (hargs : args.length ≤ 8) (h : T.prop P gl n (resQ R) (bodyT tau gl J code23 8 [.cell 4 23] args H n)) : CallA P gl 23 args H n R :=
  CallA.inlineE IsProg.eq tau_ok0 mix0 Tryd.func23 (by kernel_rfl) (by kernel_rfl) (by kernel_rfl) (by kernel_rfl) hargs h

/- analemma/analemmalaw02.fixed -/
noncomputable def code24 : Code := Tryd.f24.body.getD .skip
theorem inl24 {J : Jd} {args : List AV} {H : Heap} {n : Nat} {R : AV → Heap → Nat → Prop} (hargs : args.length ≤ 5) (h : T.prop P gl n (resQ R) (bodyT tau gl J code24 5 [.cell 2 23] args H n)) : CallA P gl 24 args H n R :=
  CallA.inlineE IsProg.eq tau_ok0 mix0 Tryd.func24 (by kernel_rfl) (by kernel_rfl) (by kernel_rfl) (by kernel_rfl) hargs h

/- analemma/analemmalaw02.fails -/
noncomputable def code25 : Code := Tryd.f25.body.getD .skip
theorem inl25 {J : Jd} {args : List AV} {H : Heap} {n : Nat} {R : AV → Heap → Nat → Prop} (hargs : args.length ≤ 25) (h : T.prop P gl n (resQ R) (bodyT tau gl J code25 25 [.tmp 8] args H n)) : CallA P gl 25 args H n R :=
  CallA.inlineE IsProg.eq tau_ok0 mix0 Tryd.func25 (by kernel_rfl) (by kernel_rfl) (by kernel_rfl) (by kernel_rfl) hargs h

/- analemma/dayform.find -/
noncomputable def code26 : Code := Tryd.f26.body.getD .skip
theorem inl26 {J : Jd} {args : List AV} {H : Heap} {n : Nat} {R : AV → Heap → Nat → Prop} (hargs : args.length ≤ 65) (h : T.prop P gl n (resQ R) (bodyT tau gl J code26 65 [.cell 2 50, .tmp 3] args H n)) : CallA P gl 26 args H n R :=
  CallA.inlineE IsProg.eq tau_ok0 mix0 Tryd.func26 (by kernel_rfl) (by kernel_rfl) (by kernel_rfl) (by kernel_rfl) hargs h

/- analemma/analemmaref02.in -/
noncomputable def code27 : Code := Tryd.f27.body.getD .skip
theorem inl27 {J : Jd} {args : List AV} {H : Heap} {n : Nat} {R : AV → Heap → Nat → Prop} (hargs : args.length ≤ 15) (h : T.prop P gl n (resQ R) (bodyT tau gl J code27 15 [.tmp 6] args H n)) : CallA P gl 27 args H n R :=
  CallA.inlineE IsProg.eq tau_ok0 mix0 Tryd.func27 (by kernel_rfl) (by kernel_rfl) (by kernel_rfl) (by kernel_rfl) hargs h

/- analemma/analemmaref01.Len -/
noncomputable def code28 : Code := Tryd.f28.body.getD .skip
theorem inl28 {J : Jd} {args : List AV} {H : Heap} {n : Nat} {R : AV → Heap → Nat → Prop} (hargs : args.length ≤ 23) (h : T.prop P gl n (resQ R) (bodyT tau gl J code28 23 [.tmp 4] args H n)) : CallA P gl 28 args H n R :=
  CallA.inlineE IsProg.eq tau_ok0 mix0 Tryd.func28 (by kernel_rfl) (by kernel_rfl) (by kernel_rfl) (by kernel_rfl) hargs h

/- analemma/analemmaref01.Days -/
noncomputable def code29 : Code := Tryd.f29.body.getD .skip
theorem inl29 {J : Jd} {args : List AV} {H : Heap} {n : Nat} {R : AV → Heap → Nat → Prop} (hargs : args.length ≤ 40) (h : T.prop P gl n (resQ R) (bodyT tau gl J code29 40 [.tmp 6, .tmp 7] args H n)) : CallA P gl 29 args H n R :=
  CallA.inlineE IsProg.eq tau_ok0 mix0 Tryd.func29 (by kernel_rfl) (by kernel_rfl) (by kernel_rfl) (by kernel_rfl) hargs h

/- analemma/analemmaref01.Weekday -/
noncomputable def code30 : Code := Tryd.f30.body.getD .skip
theorem inl30 {J : Jd} {args : List AV} {H : Heap} {n : Nat} {R : AV → Heap → Nat → Prop} (hargs : args.length ≤ 7) (h : T.prop P gl n (resQ R) (bodyT tau gl J code30 7 [.tmp 2] args H n)) : CallA P gl 30 args H n R :=
  CallA.inlineE IsProg.eq tau_ok0 mix0 Tryd.func30 (by kernel_rfl) (by kernel_rfl) (by kernel_rfl) (by kernel_rfl) hargs h

/- analemma/analemmalaw02.means -/
noncomputable def code31 : Code := Tryd.f31.body.getD .skip
theorem inl31 {J : Jd} {args : List AV} {H : Heap} {n : Nat} {R : AV → Heap → Nat → Prop} (hargs : args.length ≤ 40) (h : T.prop P gl n (resQ R) (bodyT tau gl J code31 40 [.tmp 10] args H n)) : CallA P gl 31 args H n R :=
  CallA.inlineE IsProg.eq tau_ok0 mix0 Tryd.func31 (by kernel_rfl) (by kernel_rfl) (by kernel_rfl) (by kernel_rfl) hargs h

/- analemma/civil.Leap -/
noncomputable def code32 : Code := Tryd.f32.body.getD .skip
theorem inl32 {J : Jd} {args : List AV} {H : Heap} {n : Nat} {R : AV → Heap → Nat → Prop} (hargs : args.length ≤ 16) (h : T.prop P gl n (resQ R) (bodyT tau gl J code32 16 [.tmp 2] args H n)) : CallA P gl 32 args H n R :=
  CallA.inlineE IsProg.eq tau_ok0 mix0 Tryd.func32 (by kernel_rfl) (by kernel_rfl) (by kernel_rfl) (by kernel_rfl) hargs h

/- analemma/analemmaref02.leap -/
noncomputable def code33 : Code := Tryd.f33.body.getD .skip
theorem inl33 {J : Jd} {args : List AV} {H : Heap} {n : Nat} {R : AV → Heap → Nat → Prop} (hargs : args.length ≤ 16) (h : T.prop P gl n (resQ R) (bodyT tau gl J code33 16 [.tmp 2] args H n)) : CallA P gl 33 args H n R :=
  CallA.inlineE IsProg.eq tau_ok0 mix0 Tryd.func33 (by kernel_rfl) (by kernel_rfl) (by kernel_rfl) (by kernel_rfl) hargs h

/- analemma/civil.floor -/
noncomputable def code34 : Code := Tryd.f34.body.getD .skip
theorem inl34 {J : Jd} {args : List AV} {H : Heap} {n : Nat} {R : AV → Heap → Nat → Prop} (hargs : args.length ≤ 16) (h : T.prop P gl n (resQ R) (bodyT tau gl J code34 16 [.tmp 4] args H n)) : CallA P gl 34 args H n R :=
  CallA.inlineE IsProg.eq tau_ok0 mix0 Tryd.func34 (by kernel_rfl) (by kernel_rfl) (by kernel_rfl) (by kernel_rfl) hargs h

/- analemma/dayform.kinds -/
noncomputable def code35 : Code := Tryd.f35.body.getD .skip
theorem inl35 {J : Jd} {args : List AV} {H : Heap} {n : Nat} {R : AV → Heap → Nat → Prop} (hargs : args.length ≤ 6) (h : T.prop P gl n (resQ R) (bodyT tau gl J code35 6 [.cell 0 59] args H n)) : CallA P gl 35 args H n R :=
  CallA.inlineE IsProg.eq tau_ok0 mix0 Tryd.func35 (by kernel_rfl) (by kernel_rfl) (by kernel_rfl) (by kernel_rfl) hargs h

/- analemma/analemmaref01.Leap -/
noncomputable def code36 : Code := Tryd.f36.body.getD .skip
theorem inl36 {J : Jd} {args : List AV} {H : Heap} {n : Nat} {R : AV → Heap → Nat → Prop} (hargs : args.length ≤ 16) (h : T.prop P gl n (resQ R) (bodyT tau gl J code36 16 [.tmp 2] args H n)) : CallA P gl 36 args H n R :=
  CallA.inlineE IsProg.eq tau_ok0 mix0 Tryd.func36 (by kernel_rfl) (by kernel_rfl) (by kernel_rfl) (by kernel_rfl) hargs h

/- analemma/analemmaref01.in -/
noncomputable def code37 : Code := Tryd.f37.body.getD .skip
theorem inl37 {J : Jd} {args : List AV} {H : Heap} {n : Nat} {R : AV → Heap → Nat → Prop} (hargs : args.length ≤ 9) (h : T.prop P gl n (resQ R) (bodyT tau gl J code37 9 [.tmp 2] args H n)) : CallA P gl 37 args H n R :=
  CallA.inlineE IsProg.eq tau_ok0 mix0 Tryd.func37 (by kernel_rfl) (by kernel_rfl) (by kernel_rfl) (by kernel_rfl) hargs h

/- analemma/analemmaref01.first -/
noncomputable def code38 : Code := Tryd.f38.body.getD .skip
theorem inl38 {J : Jd} {args : List AV} {H : Heap} {n : Nat} {R : AV → Heap → Nat → Prop} (hargs : args.length ≤ 23) (h : T.prop P gl n (resQ R) (bodyT tau gl J code38 23 [.tmp 2] args H n)) : CallA P gl 38 args H n R :=
  CallA.inlineE IsProg.eq tau_ok0 mix0 Tryd.func38 (by kernel_rfl) (by kernel_rfl) (by kernel_rfl) (by kernel_rfl) hargs h

/- analemma/dayform.kinds$1 -/
noncomputable def code39 : Code := Tryd.f39.body.getD .skip
theorem inl39 {J : Jd} {args : List AV} {H : Heap} {n : Nat} {R : AV → Heap → Nat → Prop} (hargs : args.length ≤ 10) (h : T.prop P gl n (resQ R) (bodyT tau gl J code39 10 [.tmp 6] args H n)) : CallA P gl 39 args H n R :=
  CallA.inlineE IsProg.eq tau_ok0 mix0 Tryd.func39 (by kernel_rfl) (by kernel_rfl) (by kernel_rfl) (by kernel_rfl) hargs h

/- analemma/dayform.dayOf -/
noncomputable def code40 : Code := Tryd.f40.body.getD .skip
theorem inl40 {J : Jd} {args : List AV} {H : Heap} {n : Nat} {R : AV → Heap → Nat → Prop} (hargs : args.length ≤ 10) (h : T.prop P gl n (resQ R) (bodyT tau gl J code40 10 [.tmp 4] args H n)) : CallA P gl 40 args H n R :=
  CallA.inlineE IsProg.eq tau_ok0 mix0 Tryd.func40 (by kernel_rfl) (by kernel_rfl) (by kernel_rfl) (by kernel_rfl) hargs h

/- analemma/dayform.kinds$2 -/
noncomputable def code41 : Code := Tryd.f41.body.getD .skip
theorem inl41 {J : Jd} {args : List AV} {H : Heap} {n : Nat} {R : AV → Heap → Nat → Prop} (hargs : args.length ≤ 13) (h : T.prop P gl n (resQ R) (bodyT tau gl J code41 13 [.tmp 6] args H n)) : CallA P gl 41 args H n R :=
  CallA.inlineE IsProg.eq tau_ok0 mix0 Tryd.func41 (by kernel_rfl) (by kernel_rfl) (by kernel_rfl) (by kernel_rfl) hargs h

/- analemma/dayform.back -/
noncomputable def code42 : Code := Tryd.f42.body.getD .skip
theorem inl42 {J : Jd} {args : List AV} {H : Heap} {n : Nat} {R : AV → Heap → Nat → Prop} (hargs : args.length ≤ 11) (h : T.prop P gl n (resQ R) (bodyT tau gl J code42 11 [.tmp 4] args H n)) : CallA P gl 42 args H n R :=
  CallA.inlineE IsProg.eq tau_ok0 mix0 Tryd.func42 (by kernel_rfl) (by kernel_rfl) (by kernel_rfl) (by kernel_rfl) hargs h

/- analemma/dayform.kinds$3 -/
noncomputable def code43 : Code := Tryd.f43.body.getD .skip
theorem inl43 {J : Jd} {args : List AV} {H : Heap} {n : Nat} {R : AV → Heap → Nat → Prop} (hargs : args.length ≤ 18) (h : T.prop P gl n (resQ R) (bodyT tau gl J code43 18 [.tmp 6] args H n)) : CallA P gl 43 args H n R :=
  CallA.inlineE IsProg.eq tau_ok0 mix0 Tryd.func43 (by kernel_rfl) (by kernel_rfl) (by kernel_rfl) (by kernel_rfl) hargs h

/- analemma/dayform.kinds$4 -/
noncomputable def code44 : Code := Tryd.f44.body.getD .skip
theorem inl44 {J : Jd} {args : List AV} {H : Heap} {n : Nat} {R : AV → Heap → Nat → Prop} (hargs : args.length ≤ 17) (h : T.prop P gl n (resQ R) (bodyT tau gl J code44 17 [.tmp 6] args H n)) : CallA P gl 44 args H n R :=
  CallA.inlineE IsProg.eq tau_ok0 mix0 Tryd.func44 (by kernel_rfl) (by kernel_rfl) (by kernel_rfl) (by kernel_rfl) hargs h

/- analemma/analemmaref01.floor -/
noncomputable def code45 : Code := Tryd.f45.body.getD .skip
theorem inl45 {J : Jd} {args : List AV} {H : Heap} {n : Nat} {R : AV → Heap → Nat → Prop} (hargs : args.length ≤ 16) (h : T.prop P gl n (resQ R) (bodyT tau gl J code45 16 [.tmp 4] args H n)) : CallA P gl 45 args H n R :=
  CallA.inlineE IsProg.eq tau_ok0 mix0 Tryd.func45 (by kernel_rfl) (by kernel_rfl) (by kernel_rfl) (by kernel_rfl) hargs h

/- analemma/analemmaref01.size -/
noncomputable def code46 : Code := Tryd.f46.body.getD .skip
theorem inl46 {J : Jd} {args : List AV} {H : Heap} {n : Nat} {R : AV → Heap → Nat → Prop} (hargs : args.length ≤ 5) (h : T.prop P gl n (resQ R) (bodyT tau gl J code46 5 [.tmp 2] args H n)) : CallA P gl 46 args H n R :=
  CallA.inlineE IsProg.eq tau_ok0 mix0 Tryd.func46 (by kernel_rfl) (by kernel_rfl) (by kernel_rfl) (by kernel_rfl) hargs h

noncomputable def fnList : List (Nat × FDesc) := [(3, code3, 43, [.tmp 6]),
  (4, code4, 23, [.tmp 8]),
  (5, code5, 128, [.tmp 6]),
  (6, code6, 109, [.tmp 8]),
  (7, code7, 136, [.tmp 6]),
  (8, code8, 111, [.tmp 6]),
  (9, code9, 44, [.tmp 6, .tmp 7]),
  (10, code10, 84, [.tmp 6, .tmp 7]),
  (11, code11, 12, [.tmp 2]),
  (12, code12, 51, [.tmp 2]),
  (13, code13, 70, [.tmp 0]),
  (14, code14, 55, [.tmp 8]),
  (15, code15, 49, [.tmp 8]),
  (16, code16, 33, [.cell 2 23]),
  (17, code17, 7, [.tmp 2]),
  (18, code18, 60, [.tmp 6, .tmp 7]),
  (19, code19, 29, [.tmp 4]),
  (20, code20, 8, [.tmp 2]),
  (21, code21, 8, [.cell 4 23]),
  (22, code22, 5, [.cell 2 23]),
  (23, code23, 8, [.cell 4 23]),
  (24, code24, 5, [.cell 2 23]),
  (25, code25, 25, [.tmp 8]),
  (26, code26, 65, [.cell 2 50, .tmp 3]),
  (27, code27, 15, [.tmp 6]),
  (28, code28, 23, [.tmp 4]),
  (29, code29, 40, [.tmp 6, .tmp 7]),
  (30, code30, 7, [.tmp 2]),
  (31, code31, 40, [.tmp 10]),
  (32, code32, 16, [.tmp 2]),
  (33, code33, 16, [.tmp 2]),
  (34, code34, 16, [.tmp 4]),
  (35, code35, 6, [.cell 0 59]),
  (36, code36, 16, [.tmp 2]),
  (37, code37, 9, [.tmp 2]),
  (38, code38, 23, [.tmp 2]),
  (39, code39, 10, [.tmp 6]),
  (40, code40, 10, [.tmp 4]),
  (41, code41, 13, [.tmp 6]),
  (42, code42, 11, [.tmp 4]),
  (43, code43, 18, [.tmp 6]),
  (44, code44, 17, [.tmp 6]),
  (45, code45, 16, [.tmp 4]),
  (46, code46, 5, [.tmp 2])]
theorem fnD_ok : DOk P gl tau (Ax.look fnList) := dok
  (dok_cons (fun _ _ _ _ _ => inl3) 
  (dok_cons (fun _ _ _ _ _ => inl4) 
  (dok_cons (fun _ _ _ _ _ => inl5) 
  (dok_cons (fun _ _ _ _ _ => inl6) 
  (dok_cons (fun _ _ _ _ _ => inl7) 
  (dok_cons (fun _ _ _ _ _ => inl8) 
  (dok_cons (fun _ _ _ _ _ => inl9) 
  (dok_cons (fun _ _ _ _ _ => inl10) 
  (dok_cons (fun _ _ _ _ _ => inl11) 
  (dok_cons (fun _ _ _ _ _ => inl12) 
  (dok_cons (fun _ _ _ _ _ => inl13) 
  (dok_cons (fun _ _ _ _ _ => inl14) 
  (dok_cons (fun _ _ _ _ _ => inl15) 
  (dok_cons (fun _ _ _ _ _ => inl16) 
  (dok_cons (fun _ _ _ _ _ => inl17) 
  (dok_cons (fun _ _ _ _ _ => inl18) 
  (dok_cons (fun _ _ _ _ _ => inl19) 
  (dok_cons (fun _ _ _ _ _ => inl20) 
  (dok_cons (fun _ _ _ _ _ => inl21) 
  (dok_cons (fun _ _ _ _ _ => inl22) 
  (dok_cons (fun _ _ _ _ _ => inl23) 
  (dok_cons (fun _ _ _ _ _ => inl24) 
  (dok_cons (fun _ _ _ _ _ => inl25) 
  (dok_cons (fun _ _ _ _ _ => inl26) 
  (dok_cons (fun _ _ _ _ _ => inl27) 
  (dok_cons (fun _ _ _ _ _ => inl28) 
  (dok_cons (fun _ _ _ _ _ => inl29) 
  (dok_cons (fun _ _ _ _ _ => inl30) 
  (dok_cons (fun _ _ _ _ _ => inl31) 
  (dok_cons (fun _ _ _ _ _ => inl32) 
  (dok_cons (fun _ _ _ _ _ => inl33) 
  (dok_cons (fun _ _ _ _ _ => inl34) 
  (dok_cons (fun _ _ _ _ _ => inl35) 
  (dok_cons (fun _ _ _ _ _ => inl36) 
  (dok_cons (fun _ _ _ _ _ => inl37) 
  (dok_cons (fun _ _ _ _ _ => inl38) 
  (dok_cons (fun _ _ _ _ _ => inl39) 
  (dok_cons (fun _ _ _ _ _ => inl40) 
  (dok_cons (fun _ _ _ _ _ => inl41) 
  (dok_cons (fun _ _ _ _ _ => inl42) 
  (dok_cons (fun _ _ _ _ _ => inl43) 
  (dok_cons (fun _ _ _ _ _ => inl44) 
  (dok_cons (fun _ _ _ _ _ => inl45) 
  (dok_cons (fun _ _ _ _ _ => inl46) dok_nil))))))))))))))))))))))))))))))))))))))))))))
def jList : List (Nat × Jd) := [(3, ⟨[], [], [(3, [6]), (2, [5, 7, 8, 9, 10]), (1, [0, 1, 5, 7, 8]), (0, [0, 1, 5])]⟩), (4, ⟨[], [], [(1, [8]), (0, [0, 1, 2, 7])]⟩), (5, ⟨[], [13], [(19, [6]), (16, [6]), (18, [6]), (17, [7, 10, 15, 88]), (15, [7, 10, 15, 79, 80]), (14, [7, 10, 15, 79]), (13, [7, 10, 15]), (12, [7, 10, 12, 14, 15, 73]), (11, [7, 10, 12, 14, 15]), (10, [6]), (9, [7, 10, 12, 14, 65]), (8, [6]), (7, [7, 10, 11, 12, 14, 54]), (6, [6]), (5, [7, 10, 11, 12, 14, 50]), (4, [7, 10, 11, 12, 13, 14]), (3, [7, 8, 9, 10, 11, 12, 13]), (2, [7, 8, 9, 10, 11]), (1, [7, 8, 9]), (0, [1, 2, 3])]⟩), (6, ⟨[(8, 52), (10, 13), (17, 13)], [], [(18, [8]), (15, [9, 10, 11, 13, 17]), (17, [9, 10, 11, 13, 17]), (16, [9, 10, 11, 13, 17, 19]), (14, [9, 10, 11, 13, 17, 70]), (13, [9, 10, 11, 13, 17]), (12, [8]), (11, [9, 10, 11, 13, 68]), (6, [9, 10, 11, 12, 13, 14]), (10, [9, 10, 11, 12, 13, 14]), (9, [8]), (8, [9, 10, 11, 12, 13, 14, 16, 52]), (7, [9, 10, 11, 12, 13, 14, 16]), (5, [9, 10, 11, 12, 13, 14, 37]), (4, [9, 10, 11, 12, 13, 14]), (3, [9, 10, 11, 12, 13]), (2, [9, 10, 11, 12]), (1, [3, 9, 10, 11]), (0, [1, 2, 3, 4])]⟩), (7, ⟨[(4, 45), (12, 69), (18, 94)], [], [(22, [6]), (21, [13, 18, 19, 20, 21]), (20, [7, 8, 9, 12, 13, 18, 19]), (16, [7, 8, 9, 12, 13, 15]), (19, [6]), (18, [7, 8, 9, 12, 13, 15, 94]), (17, [7, 8, 9, 12, 13, 15, 16, 17]), (15, [7, 8, 9, 12, 13, 15, 71]), (14, [7, 8, 9, 12, 13, 15]), (13, [6]), (12, [7, 8, 9, 12, 13, 69]), (9, [7, 8, 9, 10, 12, 13, 14]), (11, [7, 8, 9, 10, 12, 13, 14]), (10, [7, 8, 9, 10, 12, 13, 14, 57]), (8, [7, 8, 9, 10, 12, 13, 14, 51]), (7, [7, 8, 9, 10, 12, 13, 14]), (6, [7, 8, 9, 10, 12, 13]), (5, [6]), (4, [7, 8, 9, 10, 12, 45]), (3, [7, 8, 9, 10, 11, 12]), (2, [7, 8, 9, 10, 11]), (1, [7, 8, 9]), (0, [0, 1, 2])]⟩), (8, ⟨[], [], [(27, [6]), (26, [7, 8, 9, 76, 77, 78]), (25, [6]), (24, [7, 8, 9, 76, 77, 78, 96]), (23, [7, 8, 9, 11, 76, 77, 78]), (22, [7, 8, 9, 76, 77, 78, 79]), (21, [7, 8, 9, 76, 77, 78]), (20, [6]), (19, [7, 8, 9, 71]), (6, [7, 8, 9]), (8, [7, 8, 9]), (10, [7, 8, 9]), (12, [7, 8, 9]), (14, [7, 8, 9]), (16, [7, 8, 9]), (18, [7, 8, 9]), (4, [7, 8, 9]), (17, [7, 8, 9, 55]), (15, [7, 8, 9, 19, 50]), (13, [7, 8, 9, 19, 45]), (11, [7, 8, 9, 19, 38]), (9, [7, 8, 9, 19, 33]), (7, [7, 8, 9, 19, 28]), (5, [7, 8, 9, 19, 23]), (3, [7, 8, 9, 19]), (2, [1, 7, 8, 9]), (1, [1, 3, 7]), (0, [1, 2, 3])]⟩), (9, ⟨[], [], [(10, [6, 7]), (9, [6, 7]), (8, [5, 8, 10, 12, 34]), (7, [5, 8, 10, 12]), (6, [6, 7]), (5, [0, 1, 5, 8, 10, 27]), (4, [0, 1, 5, 8, 10, 11]), (3, [6, 7]), (2, [0, 1, 5, 8, 20]), (1, [0, 1, 5, 8, 9]), (0, [0, 1, 5])]⟩), (10, ⟨[], [18], [(21, [6, 7]), (20, [5, 11]), (19, [5, 11, 80]), (18, [5, 11]), (17, [0, 1, 5, 8, 11, 69]), (16, [0, 1, 5, 8, 11]), (10, [6, 7]), (15, [6, 7]), (14, [5, 10]), (13, [5, 10, 58]), (12, [5, 10]), (11, [0, 1, 5, 8, 47]), (9, [0, 1, 5, 8, 39, 40]), (8, [0, 1, 5, 8, 39]), (7, [0, 1, 5, 8]), (6, [6, 7]), (5, [0, 1, 5, 31]), (4, [6, 7]), (3, [0, 1, 5, 25]), (2, [6, 7]), (1, [0, 1, 5, 22]), (0, [0, 1, 5])]⟩), (11, ⟨[], [], [(4, [2]), (3, [2]), (2, [11]), (1, [4]), (0, [1])]⟩), (12, ⟨[(2, 50)], [], [(4, [2]), (3, [2]), (2, [50]), (1, [1, 3, 4]), (0, [1])]⟩), (13, ⟨[], [], [(1, [0]), (0, [])]⟩), (14, ⟨[(3, 9), (5, 23), (7, 36)], [5], [(9, [8]), (6, [8]), (8, [8]), (7, [0, 1, 9, 36]), (5, [0, 1, 2, 7, 9, 23]), (4, [0, 1, 2, 7, 9, 23]), (3, [0, 1, 2, 7, 9]), (2, [8]), (1, [0, 1, 2, 7, 20]), (0, [0, 1, 2, 7])]⟩), (15, ⟨[(3, 23)], [], [(7, [8]), (6, [8]), (5, [0, 1, 2, 7, 28]), (4, [8]), (3, [0, 1, 2, 7, 23]), (2, [8]), (1, [0, 1, 2, 7, 16]), (0, [0, 1, 2, 7])]⟩), (16, ⟨[], [], [(9, [2]), (4, [2]), (6, [2]), (8, [2]), (7, [2, 3, 4, 25]), (5, [2, 3, 4, 16, 21]), (3, [2, 3, 4, 16, 17]), (2, [2, 3, 4, 16]), (1, [1, 2, 3, 4]), (0, [1, 2])]⟩), (17, ⟨[], [], [(1, [2]), (0, [0])]⟩), (18, ⟨[], [], [(8, [6, 7]), (7, [9]), (6, [9, 55]), (5, [0, 1, 9]), (4, [0, 1, 2, 9]), (3, [0, 1, 2, 8]), (2, [6, 7]), (1, [0, 1, 2, 26]), (0, [0, 1, 2])]⟩), (19, ⟨[(1, 11)], [], [(6, [4]), (5, [5]), (4, [5, 25]), (3, [0, 1, 5]), (2, [4]), (1, [0, 1, 11]), (0, [0, 1])]⟩), (20, ⟨[], [], [(1, [2]), (0, [0])]⟩), (21, ⟨[], [], [(1, [4]), (0, [0, 1, 4])]⟩), (22, ⟨[], [], [(1, [2]), (0, [0, 2])]⟩), (23, ⟨[], [], [(1, [4]), (0, [0, 1, 4])]⟩), (24, ⟨[], [], [(1, [2]), (0, [0, 2])]⟩), (25, ⟨[(2, 8)], [], [(2, [8]), (1, [3, 9, 10]), (0, [0, 1, 3, 6])]⟩), (26, ⟨[(1, 12), (4, 39), (6, 62)], [], [(8, [2, 3]), (7, [2, 3]), (6, [2, 4, 62]), (5, [2, 3]), (4, [1, 2, 4, 39]), (3, [1, 2, 4]), (2, [2, 3]), (1, [1, 2, 12]), (0, [1, 2])]⟩), (27, ⟨[(1, 6)], [], [(1, [6]), (0, [0, 1, 2])]⟩), (28, ⟨[(8, 6), (13, 14)], [3, 11], [(19, [4]), (9, [4]), (14, [4]), (18, [4]), (17, [4]), (16, [22]), (15, [0, 19]), (13, [0, 5, 14]), (12, [0, 5, 14]), (11, [0, 5, 14]), (10, [0, 5, 14]), (8, [0, 5, 6]), (7, [0, 5, 6]), (6, [0, 5, 6]), (5, [0, 5, 6]), (4, [0, 5, 6]), (3, [0, 5, 6]), (2, [0, 5, 6]), (1, [0, 5]), (0, [0, 1])]⟩), (29, ⟨[], [], [(8, [6, 7]), (6, [0, 1, 2, 8, 9]), (7, [0, 1, 2, 8, 9]), (5, [0, 1, 2, 8, 9, 28]), (4, [0, 1, 2, 8, 9]), (3, [0, 1, 2, 8]), (2, [6, 7]), (1, [0, 1, 2, 23]), (0, [0, 1, 2])]⟩), (30, ⟨[], [], [(1, [2]), (0, [0])]⟩), (31, ⟨[(3, 10)], [], [(3, [10]), (2, [11, 12, 13, 14]), (1, [0, 3, 4, 11, 12]), (0, [0, 1, 3, 4, 7])]⟩), (32, ⟨[(1, 2)], [], [(1, [2]), (0, [0])]⟩), (33, ⟨[(1, 2)], [], [(1, [2]), (0, [0])]⟩), (34, ⟨[], [], [(4, [4]), (3, [5]), (2, [5, 12]), (1, [0, 1, 5]), (0, [0, 1])]⟩), (35, ⟨[], [], [(1, [0]), (0, [0])]⟩), (36, ⟨[(1, 2)], [], [(1, [2]), (0, [0])]⟩), (37, ⟨[(1, 2)], [], [(1, [2]), (0, [0])]⟩), (38, ⟨[], [], [(7, [2]), (5, [0, 4, 5]), (6, [0, 4, 5]), (4, [0, 4, 5, 15]), (3, [0, 4, 5]), (2, [0, 3, 4]), (1, [0, 3]), (0, [0])]⟩), (39, ⟨[], [], [(1, [6]), (0, [1, 3])]⟩), (40, ⟨[], [], [(1, [4]), (0, [1, 2])]⟩), (41, ⟨[], [], [(1, [6]), (0, [2, 3])]⟩), (42, ⟨[], [], [(1, [4]), (0, [0, 1])]⟩), (43, ⟨[], [], [(2, [6]), (1, [3, 7]), (0, [1, 3])]⟩), (44, ⟨[], [], [(2, [6]), (1, [3, 7]), (0, [1, 3])]⟩), (45, ⟨[], [], [(4, [4]), (3, [5]), (2, [5, 12]), (1, [0, 1, 5]), (0, [0, 1])]⟩), (46, ⟨[], [], [(3, [2]), (2, [2]), (1, [4]), (0, [0])]⟩)]
/-- The functions, each with the tests of its regions and the shapes of its loops. -/
noncomputable def xd (tms : List (Nat × List (Nat × Nat × Tm))) (f : Nat) : Option XDesc :=
  match Ax.look fnList f with
  | some (c, nt, rs) => some (c, nt, rs, ⟨(Ax.look jList f).getD noJ, (Ax.look tms f).getD []⟩)
  | none => none

theorem xd_ok (tms : List (Nat × List (Nat × Nat × Tm))) : DXOk P gl tau (xd tms) := by
  intro f c nt res cx h J args H n R ha hp
  unfold xd at h
  split at h
  · rename_i c' nt' rs' hf
    cases h
    exact fnD_ok f c nt res hf J args H n R ha hp
  · cases h
end Go.Proofs.YtljbgkfoljjgbaaDoor
