/-
  The types and the functions of this seat, for the small abstract machine.
-/
import Derived.Test.YtnfgmffcnmifkaaAx27
import Derived.Test.YtnfgmffcnmifkaaProg
import Derived.KernelRfl
namespace Go.Proofs.Ytnfgmffcnmifkaa
open Go.Ax
set_option linter.unusedVariables false
set_option maxRecDepth 100000

def tyList : List (Nat × TI) := [(1, ⟨.func, 1, 8, [.nilFunc]⟩),
  (2, ⟨.int .i64, 1, 8, [.int .i64 (.lit 0)]⟩),
  (3, ⟨.int .i64, 1, 8, [.int .i64 (.lit 0)]⟩),
  (4, ⟨.bool, 1, 1, [.bool false]⟩),
  (5, ⟨.int .u8, 1, 1, [.int .u8 (.lit 0)]⟩),
  (6, ⟨.int .u8, 1, 1, [.int .u8 (.lit 0)]⟩),
  (7, ⟨.struct [(0, 2), (1, 3), (2, 4), (3, 6)], 4, 24, [.int .i64 (.lit 0), .int .i64 (.lit 0), .bool false, .int .u8 (.lit 0)]⟩),
  (8, ⟨.struct [(0, 2), (1, 3), (2, 4), (3, 6)], 4, 24, [.int .i64 (.lit 0), .int .i64 (.lit 0), .bool false, .int .u8 (.lit 0)]⟩),
  (9, ⟨.string, 1, 16, [.str (.lit [])]⟩),
  (10, ⟨.string, 1, 16, [.str (.lit [])]⟩),
  (11, ⟨.string, 1, 16, [.str (.lit [])]⟩),
  (12, ⟨.int .u64, 1, 8, [.int .u64 (.lit 0)]⟩),
  (13, ⟨.struct [(0, 9), (1, 12)], 2, 24, [.str (.lit []), .int .u64 (.lit 0)]⟩),
  (14, ⟨.struct [(0, 9), (1, 12)], 2, 24, [.str (.lit []), .int .u64 (.lit 0)]⟩),
  (15, ⟨.ptr 94, 1, 8, [.nilptr]⟩),
  (16, ⟨.ptr 97, 1, 8, [.nilptr]⟩),
  (17, ⟨.ptr 105, 1, 8, [.nilptr]⟩),
  (18, ⟨.struct [(0, 17)], 1, 8, [.nilptr]⟩),
  (19, ⟨.struct [(0, 17)], 1, 8, [.nilptr]⟩),
  (20, ⟨.iface, 1, 16, [.nilIface]⟩),
  (21, ⟨.int .i32, 1, 4, [.int .i32 (.lit 0)]⟩),
  (22, ⟨.func, 1, 8, [.nilFunc]⟩),
  (23, ⟨.int .i64, 1, 8, [.int .i64 (.lit 0)]⟩),
  (25, ⟨.func, 1, 8, [.nilFunc]⟩),
  (26, ⟨.func, 1, 8, [.nilFunc]⟩),
  (27, ⟨.func, 1, 8, [.nilFunc]⟩),
  (28, ⟨.struct [(0, 3), (1, 3), (2, 3)], 3, 24, [.int .i64 (.lit 0), .int .i64 (.lit 0), .int .i64 (.lit 0)]⟩),
  (29, ⟨.struct [(0, 3), (1, 3), (2, 3)], 3, 24, [.int .i64 (.lit 0), .int .i64 (.lit 0), .int .i64 (.lit 0)]⟩),
  (30, ⟨.struct [(0, 2), (1, 3)], 2, 16, [.int .i64 (.lit 0), .int .i64 (.lit 0)]⟩),
  (31, ⟨.struct [(0, 2), (1, 3)], 2, 16, [.int .i64 (.lit 0), .int .i64 (.lit 0)]⟩),
  (32, ⟨.struct [(0, 4), (1, 3), (2, 3), (3, 29), (6, 31)], 8, 64, [.bool false, .int .i64 (.lit 0), .int .i64 (.lit 0), .int .i64 (.lit 0), .int .i64 (.lit 0), .int .i64 (.lit 0), .int .i64 (.lit 0), .int .i64 (.lit 0)]⟩),
  (33, ⟨.struct [(0, 4), (1, 3), (2, 3), (3, 29), (6, 31)], 8, 64, [.bool false, .int .i64 (.lit 0), .int .i64 (.lit 0), .int .i64 (.lit 0), .int .i64 (.lit 0), .int .i64 (.lit 0), .int .i64 (.lit 0), .int .i64 (.lit 0)]⟩),
  (34, ⟨.struct [(0, 2), (1, 3), (2, 2), (3, 9), (4, 9), (5, 33)], 13, 120, [.int .i64 (.lit 0), .int .i64 (.lit 0), .int .i64 (.lit 0), .str (.lit []), .str (.lit []), .bool false, .int .i64 (.lit 0), .int .i64 (.lit 0), .int .i64 (.lit 0), .int .i64 (.lit 0), .int .i64 (.lit 0), .int .i64 (.lit 0), .int .i64 (.lit 0)]⟩),
  (35, ⟨.struct [(0, 2), (1, 3), (2, 2), (3, 9), (4, 9), (5, 33)], 13, 120, [.int .i64 (.lit 0), .int .i64 (.lit 0), .int .i64 (.lit 0), .str (.lit []), .str (.lit []), .bool false, .int .i64 (.lit 0), .int .i64 (.lit 0), .int .i64 (.lit 0), .int .i64 (.lit 0), .int .i64 (.lit 0), .int .i64 (.lit 0), .int .i64 (.lit 0)]⟩),
  (36, ⟨.slice 48, 1, 24, [.nil]⟩),
  (38, ⟨.func, 1, 8, [.nilFunc]⟩),
  (39, ⟨.func, 1, 8, [.nilFunc]⟩),
  (40, ⟨.int .u32, 1, 4, [.int .u32 (.lit 0)]⟩),
  (41, ⟨.func, 1, 8, [.nilFunc]⟩),
  (42, ⟨.slice 5, 1, 24, [.nil]⟩),
  (43, ⟨.slice 9, 1, 24, [.nil]⟩),
  (44, ⟨.func, 1, 8, [.nilFunc]⟩),
  (45, ⟨.int .i16, 1, 2, [.int .i16 (.lit 0)]⟩),
  (46, ⟨.slice 4, 1, 24, [.nil]⟩),
  (47, ⟨.struct [(0, 9), (1, 3), (2, 3), (3, 3), (4, 29), (7, 31), (9, 2), (10, 9)], 11, 104, [.str (.lit []), .int .i64 (.lit 0), .int .i64 (.lit 0), .int .i64 (.lit 0), .int .i64 (.lit 0), .int .i64 (.lit 0), .int .i64 (.lit 0), .int .i64 (.lit 0), .int .i64 (.lit 0), .int .i64 (.lit 0), .str (.lit [])]⟩),
  (48, ⟨.struct [(0, 9), (1, 3), (2, 3), (3, 3), (4, 29), (7, 31), (9, 2), (10, 9)], 11, 104, [.str (.lit []), .int .i64 (.lit 0), .int .i64 (.lit 0), .int .i64 (.lit 0), .int .i64 (.lit 0), .int .i64 (.lit 0), .int .i64 (.lit 0), .int .i64 (.lit 0), .int .i64 (.lit 0), .int .i64 (.lit 0), .str (.lit [])]⟩),
  (49, ⟨.func, 1, 8, [.nilFunc]⟩),
  (50, ⟨.func, 1, 8, [.nilFunc]⟩),
  (51, ⟨.func, 1, 8, [.nilFunc]⟩),
  (53, ⟨.func, 1, 8, [.nilFunc]⟩),
  (54, ⟨.func, 1, 8, [.nilFunc]⟩),
  (55, ⟨.int .u16, 1, 2, [.int .u16 (.lit 0)]⟩),
  (56, ⟨.slice 3, 1, 24, [.nil]⟩),
  (57, ⟨.slice 2, 1, 24, [.nil]⟩),
  (58, ⟨.slice 35, 1, 24, [.nil]⟩),
  (59, ⟨.func, 1, 8, [.nilFunc]⟩),
  (60, ⟨.struct [(0, 2), (1, 9)], 2, 24, [.int .i64 (.lit 0), .str (.lit [])]⟩),
  (61, ⟨.slice 60, 1, 24, [.nil]⟩),
  (62, ⟨.struct [(0, 9), (1, 2), (2, 23)], 3, 32, [.str (.lit []), .int .i64 (.lit 0), .int .i64 (.lit 0)]⟩),
  (63, ⟨.slice 62, 1, 24, [.nil]⟩),
  (64, ⟨.struct [(0, 35), (13, 36), (14, 9), (15, 23)], 16, 168, [.int .i64 (.lit 0), .int .i64 (.lit 0), .int .i64 (.lit 0), .str (.lit []), .str (.lit []), .bool false, .int .i64 (.lit 0), .int .i64 (.lit 0), .int .i64 (.lit 0), .int .i64 (.lit 0), .int .i64 (.lit 0), .int .i64 (.lit 0), .int .i64 (.lit 0), .nil, .str (.lit []), .int .i64 (.lit 0)]⟩),
  (65, ⟨.slice 64, 1, 24, [.nil]⟩),
  (66, ⟨.func, 1, 8, [.nilFunc]⟩),
  (67, ⟨.array 3 2, 3, 24, [.int .i64 (.lit 0), .int .i64 (.lit 0), .int .i64 (.lit 0)]⟩),
  (68, ⟨.func, 1, 8, [.nilFunc]⟩),
  (69, ⟨.func, 1, 8, [.nilFunc]⟩),
  (71, ⟨.func, 1, 8, [.nilFunc]⟩),
  (72, ⟨.func, 1, 8, [.nilFunc]⟩),
  (73, ⟨.func, 1, 8, [.nilFunc]⟩),
  (74, ⟨.func, 1, 8, [.nilFunc]⟩),
  (75, ⟨.ptr 77, 1, 8, [.nilptr]⟩),
  (76, ⟨.struct [(0, 75), (1, 42)], 2, 32, [.nilptr, .nil]⟩),
  (77, ⟨.struct [(0, 75), (1, 42)], 2, 32, [.nilptr, .nil]⟩),
  (78, ⟨.func, 1, 8, [.nilFunc]⟩),
  (79, ⟨.iface, 1, 16, [.nilIface]⟩),
  (80, ⟨.iface, 1, 16, [.nilIface]⟩),
  (82, ⟨.func, 1, 8, [.nilFunc]⟩),
  (83, ⟨.func, 1, 8, [.nilFunc]⟩),
  (84, ⟨.func, 1, 8, [.nilFunc]⟩),
  (85, ⟨.func, 1, 8, [.nilFunc]⟩),
  (86, ⟨.int .u64, 1, 8, [.int .u64 (.lit 0)]⟩),
  (87, ⟨.ptr 5, 1, 8, [.nilptr]⟩),
  (89, ⟨.func, 1, 8, [.nilFunc]⟩),
  (91, ⟨.func, 1, 8, [.nilFunc]⟩),
  (92, ⟨.func, 1, 8, [.nilFunc]⟩),
  (93, ⟨.struct [(0, 17), (1, 17), (2, 17), (3, 9)], 4, 40, [.nilptr, .nilptr, .nilptr, .str (.lit [])]⟩),
  (94, ⟨.struct [(0, 17), (1, 17), (2, 17), (3, 9)], 4, 40, [.nilptr, .nilptr, .nilptr, .str (.lit [])]⟩),
  (95, ⟨.array 0 16, 0, 0, []⟩),
  (96, ⟨.struct [(0, 95)], 0, 0, []⟩),
  (97, ⟨.struct [(0, 95)], 0, 0, []⟩),
  (98, ⟨.func, 1, 8, [.nilFunc]⟩),
  (99, ⟨.int .u8, 1, 1, [.int .u8 (.lit 0)]⟩),
  (100, ⟨.int .u8, 1, 1, [.int .u8 (.lit 0)]⟩),
  (101, ⟨.func, 1, 8, [.nilFunc]⟩),
  (102, ⟨.int .i32, 1, 4, [.int .i32 (.lit 0)]⟩),
  (103, ⟨.int .i32, 1, 4, [.int .i32 (.lit 0)]⟩),
  (104, ⟨.struct [(0, 12), (1, 12), (2, 40), (3, 99), (4, 5), (5, 5), (6, 100), (7, 101), (8, 87), (9, 102), (10, 103)], 11, 48, [.int .u64 (.lit 0), .int .u64 (.lit 0), .int .u32 (.lit 0), .int .u8 (.lit 0), .int .u8 (.lit 0), .int .u8 (.lit 0), .int .u8 (.lit 0), .nilFunc, .nilptr, .int .i32 (.lit 0), .int .i32 (.lit 0)]⟩),
  (105, ⟨.struct [(0, 12), (1, 12), (2, 40), (3, 99), (4, 5), (5, 5), (6, 100), (7, 101), (8, 87), (9, 102), (10, 103)], 11, 48, [.int .u64 (.lit 0), .int .u64 (.lit 0), .int .u32 (.lit 0), .int .u8 (.lit 0), .int .u8 (.lit 0), .int .u8 (.lit 0), .int .u8 (.lit 0), .nilFunc, .nilptr, .int .i32 (.lit 0), .int .i32 (.lit 0)]⟩)]

theorem tyList_ok : ∀ p ∈ tyList, TIok Try.prog p.1 p.2 :=
  (tys_cons (.of (i := Try.t1) (by kernel_rfl) Try.underlying1 rfl rfl rfl ⟨_, _, _, rfl⟩ (fun _ e => by cases e) rfl rfl) 
  (tys_cons (.of (i := Try.t2) (by kernel_rfl) Try.underlying2 rfl rfl rfl rfl (fun _ e => by cases e) rfl rfl) 
  (tys_cons (.of (i := Try.t3) (by kernel_rfl) Try.underlying3 rfl rfl rfl rfl (fun _ e => by cases e) rfl rfl) 
  (tys_cons (.of (i := Try.t4) (by kernel_rfl) Try.underlying4 rfl rfl rfl rfl (fun _ e => by cases e) rfl rfl) 
  (tys_cons (.of (i := Try.t5) (by kernel_rfl) Try.underlying5 rfl rfl rfl rfl (fun _ e => by cases e) rfl rfl) 
  (tys_cons (.of (i := Try.t6) (by kernel_rfl) Try.underlying6 rfl rfl rfl rfl (fun _ e => by cases e) rfl rfl) 
  (tys_cons (.of (i := Try.t7) (by kernel_rfl) Try.underlying7 rfl rfl rfl ⟨_, rfl, rfl⟩ (fun _ e => by cases e) rfl rfl) 
  (tys_cons (.of (i := Try.t8) (by kernel_rfl) Try.underlying8 rfl rfl rfl ⟨_, rfl, rfl⟩ (fun _ e => by cases e) rfl rfl) 
  (tys_cons (.of (i := Try.t9) (by kernel_rfl) Try.underlying9 rfl rfl rfl rfl (fun _ e => by cases e) rfl rfl) 
  (tys_cons (.of (i := Try.t10) (by kernel_rfl) Try.underlying10 rfl rfl rfl rfl (fun _ e => by cases e) rfl rfl) 
  (tys_cons (.of (i := Try.t11) (by kernel_rfl) Try.underlying11 rfl rfl rfl rfl (fun _ e => by cases e) rfl rfl) 
  (tys_cons (.of (i := Try.t12) (by kernel_rfl) Try.underlying12 rfl rfl rfl rfl (fun _ e => by cases e) rfl rfl) 
  (tys_cons (.of (i := Try.t13) (by kernel_rfl) Try.underlying13 rfl rfl rfl ⟨_, rfl, rfl⟩ (fun _ e => by cases e) rfl rfl) 
  (tys_cons (.of (i := Try.t14) (by kernel_rfl) Try.underlying14 rfl rfl rfl ⟨_, rfl, rfl⟩ (fun _ e => by cases e) rfl rfl) 
  (tys_cons (.of (i := Try.t15) (by kernel_rfl) Try.underlying15 rfl rfl rfl rfl (fun _ e => by cases e) rfl rfl) 
  (tys_cons (.of (i := Try.t16) (by kernel_rfl) Try.underlying16 rfl rfl rfl rfl (fun _ e => by cases e) rfl rfl) 
  (tys_cons (.of (i := Try.t17) (by kernel_rfl) Try.underlying17 rfl rfl rfl rfl (fun _ e => by cases e) rfl rfl) 
  (tys_cons (.of (i := Try.t18) (by kernel_rfl) Try.underlying18 rfl rfl rfl ⟨_, rfl, rfl⟩ (fun _ e => by cases e) rfl rfl) 
  (tys_cons (.of (i := Try.t19) (by kernel_rfl) Try.underlying19 rfl rfl rfl ⟨_, rfl, rfl⟩ (fun _ e => by cases e) rfl rfl) 
  (tys_cons (.of (i := Try.t20) (by kernel_rfl) Try.underlying20 rfl rfl rfl ⟨_, rfl⟩ (fun _ _ => rfl) rfl rfl) 
  (tys_cons (.of (i := Try.t21) (by kernel_rfl) Try.underlying21 rfl rfl rfl rfl (fun _ e => by cases e) rfl rfl) 
  (tys_cons (.of (i := Try.t22) (by kernel_rfl) Try.underlying22 rfl rfl rfl ⟨_, _, _, rfl⟩ (fun _ e => by cases e) rfl rfl) 
  (tys_cons (.of (i := Try.t23) (by kernel_rfl) Try.underlying23 rfl rfl rfl rfl (fun _ e => by cases e) rfl rfl) 
  (tys_cons (.of (i := Try.t25) (by kernel_rfl) Try.underlying25 rfl rfl rfl ⟨_, _, _, rfl⟩ (fun _ e => by cases e) rfl rfl) 
  (tys_cons (.of (i := Try.t26) (by kernel_rfl) Try.underlying26 rfl rfl rfl ⟨_, _, _, rfl⟩ (fun _ e => by cases e) rfl rfl) 
  (tys_cons (.of (i := Try.t27) (by kernel_rfl) Try.underlying27 rfl rfl rfl ⟨_, _, _, rfl⟩ (fun _ e => by cases e) rfl rfl) 
  (tys_cons (.of (i := Try.t28) (by kernel_rfl) Try.underlying28 rfl rfl rfl ⟨_, rfl, rfl⟩ (fun _ e => by cases e) rfl rfl) 
  (tys_cons (.of (i := Try.t29) (by kernel_rfl) Try.underlying29 rfl rfl rfl ⟨_, rfl, rfl⟩ (fun _ e => by cases e) rfl rfl) 
  (tys_cons (.of (i := Try.t30) (by kernel_rfl) Try.underlying30 rfl rfl rfl ⟨_, rfl, rfl⟩ (fun _ e => by cases e) rfl rfl) 
  (tys_cons (.of (i := Try.t31) (by kernel_rfl) Try.underlying31 rfl rfl rfl ⟨_, rfl, rfl⟩ (fun _ e => by cases e) rfl rfl) 
  (tys_cons (.of (i := Try.t32) (by kernel_rfl) Try.underlying32 rfl rfl rfl ⟨_, rfl, rfl⟩ (fun _ e => by cases e) rfl rfl) 
  (tys_cons (.of (i := Try.t33) (by kernel_rfl) Try.underlying33 rfl rfl rfl ⟨_, rfl, rfl⟩ (fun _ e => by cases e) rfl rfl) 
  (tys_cons (.of (i := Try.t34) (by kernel_rfl) Try.underlying34 rfl rfl rfl ⟨_, rfl, rfl⟩ (fun _ e => by cases e) rfl rfl) 
  (tys_cons (.of (i := Try.t35) (by kernel_rfl) Try.underlying35 rfl rfl rfl ⟨_, rfl, rfl⟩ (fun _ e => by cases e) rfl rfl) 
  (tys_cons (.of (i := Try.t36) (by kernel_rfl) Try.underlying36 rfl rfl rfl rfl (fun _ e => by cases e) rfl rfl) 
  (tys_cons (.of (i := Try.t38) (by kernel_rfl) Try.underlying38 rfl rfl rfl ⟨_, _, _, rfl⟩ (fun _ e => by cases e) rfl rfl) 
  (tys_cons (.of (i := Try.t39) (by kernel_rfl) Try.underlying39 rfl rfl rfl ⟨_, _, _, rfl⟩ (fun _ e => by cases e) rfl rfl) 
  (tys_cons (.of (i := Try.t40) (by kernel_rfl) Try.underlying40 rfl rfl rfl rfl (fun _ e => by cases e) rfl rfl) 
  (tys_cons (.of (i := Try.t41) (by kernel_rfl) Try.underlying41 rfl rfl rfl ⟨_, _, _, rfl⟩ (fun _ e => by cases e) rfl rfl) 
  (tys_cons (.of (i := Try.t42) (by kernel_rfl) Try.underlying42 rfl rfl rfl rfl (fun _ e => by cases e) rfl rfl) 
  (tys_cons (.of (i := Try.t43) (by kernel_rfl) Try.underlying43 rfl rfl rfl rfl (fun _ e => by cases e) rfl rfl) 
  (tys_cons (.of (i := Try.t44) (by kernel_rfl) Try.underlying44 rfl rfl rfl ⟨_, _, _, rfl⟩ (fun _ e => by cases e) rfl rfl) 
  (tys_cons (.of (i := Try.t45) (by kernel_rfl) Try.underlying45 rfl rfl rfl rfl (fun _ e => by cases e) rfl rfl) 
  (tys_cons (.of (i := Try.t46) (by kernel_rfl) Try.underlying46 rfl rfl rfl rfl (fun _ e => by cases e) rfl rfl) 
  (tys_cons (.of (i := Try.t47) (by kernel_rfl) Try.underlying47 rfl rfl rfl ⟨_, rfl, rfl⟩ (fun _ e => by cases e) rfl rfl) 
  (tys_cons (.of (i := Try.t48) (by kernel_rfl) Try.underlying48 rfl rfl rfl ⟨_, rfl, rfl⟩ (fun _ e => by cases e) rfl rfl) 
  (tys_cons (.of (i := Try.t49) (by kernel_rfl) Try.underlying49 rfl rfl rfl ⟨_, _, _, rfl⟩ (fun _ e => by cases e) rfl rfl) 
  (tys_cons (.of (i := Try.t50) (by kernel_rfl) Try.underlying50 rfl rfl rfl ⟨_, _, _, rfl⟩ (fun _ e => by cases e) rfl rfl) 
  (tys_cons (.of (i := Try.t51) (by kernel_rfl) Try.underlying51 rfl rfl rfl ⟨_, _, _, rfl⟩ (fun _ e => by cases e) rfl rfl) 
  (tys_cons (.of (i := Try.t53) (by kernel_rfl) Try.underlying53 rfl rfl rfl ⟨_, _, _, rfl⟩ (fun _ e => by cases e) rfl rfl) 
  (tys_cons (.of (i := Try.t54) (by kernel_rfl) Try.underlying54 rfl rfl rfl ⟨_, _, _, rfl⟩ (fun _ e => by cases e) rfl rfl) 
  (tys_cons (.of (i := Try.t55) (by kernel_rfl) Try.underlying55 rfl rfl rfl rfl (fun _ e => by cases e) rfl rfl) 
  (tys_cons (.of (i := Try.t56) (by kernel_rfl) Try.underlying56 rfl rfl rfl rfl (fun _ e => by cases e) rfl rfl) 
  (tys_cons (.of (i := Try.t57) (by kernel_rfl) Try.underlying57 rfl rfl rfl rfl (fun _ e => by cases e) rfl rfl) 
  (tys_cons (.of (i := Try.t58) (by kernel_rfl) Try.underlying58 rfl rfl rfl rfl (fun _ e => by cases e) rfl rfl) 
  (tys_cons (.of (i := Try.t59) (by kernel_rfl) Try.underlying59 rfl rfl rfl ⟨_, _, _, rfl⟩ (fun _ e => by cases e) rfl rfl) 
  (tys_cons (.of (i := Try.t60) (by kernel_rfl) Try.underlying60 rfl rfl rfl ⟨_, rfl, rfl⟩ (fun _ e => by cases e) rfl rfl) 
  (tys_cons (.of (i := Try.t61) (by kernel_rfl) Try.underlying61 rfl rfl rfl rfl (fun _ e => by cases e) rfl rfl) 
  (tys_cons (.of (i := Try.t62) (by kernel_rfl) Try.underlying62 rfl rfl rfl ⟨_, rfl, rfl⟩ (fun _ e => by cases e) rfl rfl) 
  (tys_cons (.of (i := Try.t63) (by kernel_rfl) Try.underlying63 rfl rfl rfl rfl (fun _ e => by cases e) rfl rfl) 
  (tys_cons (.of (i := Try.t64) (by kernel_rfl) Try.underlying64 rfl rfl rfl ⟨_, rfl, rfl⟩ (fun _ e => by cases e) rfl rfl) 
  (tys_cons (.of (i := Try.t65) (by kernel_rfl) Try.underlying65 rfl rfl rfl rfl (fun _ e => by cases e) rfl rfl) 
  (tys_cons (.of (i := Try.t66) (by kernel_rfl) Try.underlying66 rfl rfl rfl ⟨_, _, _, rfl⟩ (fun _ e => by cases e) rfl rfl) 
  (tys_cons (.of (i := Try.t67) (by kernel_rfl) Try.underlying67 rfl rfl rfl rfl (fun _ e => by cases e) rfl rfl) 
  (tys_cons (.of (i := Try.t68) (by kernel_rfl) Try.underlying68 rfl rfl rfl ⟨_, _, _, rfl⟩ (fun _ e => by cases e) rfl rfl) 
  (tys_cons (.of (i := Try.t69) (by kernel_rfl) Try.underlying69 rfl rfl rfl ⟨_, _, _, rfl⟩ (fun _ e => by cases e) rfl rfl) 
  (tys_cons (.of (i := Try.t71) (by kernel_rfl) Try.underlying71 rfl rfl rfl ⟨_, _, _, rfl⟩ (fun _ e => by cases e) rfl rfl) 
  (tys_cons (.of (i := Try.t72) (by kernel_rfl) Try.underlying72 rfl rfl rfl ⟨_, _, _, rfl⟩ (fun _ e => by cases e) rfl rfl) 
  (tys_cons (.of (i := Try.t73) (by kernel_rfl) Try.underlying73 rfl rfl rfl ⟨_, _, _, rfl⟩ (fun _ e => by cases e) rfl rfl) 
  (tys_cons (.of (i := Try.t74) (by kernel_rfl) Try.underlying74 rfl rfl rfl ⟨_, _, _, rfl⟩ (fun _ e => by cases e) rfl rfl) 
  (tys_cons (.of (i := Try.t75) (by kernel_rfl) Try.underlying75 rfl rfl rfl rfl (fun _ e => by cases e) rfl rfl) 
  (tys_cons (.of (i := Try.t76) (by kernel_rfl) Try.underlying76 rfl rfl rfl ⟨_, rfl, rfl⟩ (fun _ e => by cases e) rfl rfl) 
  (tys_cons (.of (i := Try.t77) (by kernel_rfl) Try.underlying77 rfl rfl rfl ⟨_, rfl, rfl⟩ (fun _ e => by cases e) rfl rfl) 
  (tys_cons (.of (i := Try.t78) (by kernel_rfl) Try.underlying78 rfl rfl rfl ⟨_, _, _, rfl⟩ (fun _ e => by cases e) rfl rfl) 
  (tys_cons (.of (i := Try.t79) (by kernel_rfl) Try.underlying79 rfl rfl rfl ⟨_, rfl⟩ (fun _ _ => rfl) rfl rfl) 
  (tys_cons (.of (i := Try.t80) (by kernel_rfl) Try.underlying80 rfl rfl rfl ⟨_, rfl⟩ (fun _ _ => rfl) rfl rfl) 
  (tys_cons (.of (i := Try.t82) (by kernel_rfl) Try.underlying82 rfl rfl rfl ⟨_, _, _, rfl⟩ (fun _ e => by cases e) rfl rfl) 
  (tys_cons (.of (i := Try.t83) (by kernel_rfl) Try.underlying83 rfl rfl rfl ⟨_, _, _, rfl⟩ (fun _ e => by cases e) rfl rfl) 
  (tys_cons (.of (i := Try.t84) (by kernel_rfl) Try.underlying84 rfl rfl rfl ⟨_, _, _, rfl⟩ (fun _ e => by cases e) rfl rfl) 
  (tys_cons (.of (i := Try.t85) (by kernel_rfl) Try.underlying85 rfl rfl rfl ⟨_, _, _, rfl⟩ (fun _ e => by cases e) rfl rfl) 
  (tys_cons (.of (i := Try.t86) (by kernel_rfl) Try.underlying86 rfl rfl rfl rfl (fun _ e => by cases e) rfl rfl) 
  (tys_cons (.of (i := Try.t87) (by kernel_rfl) Try.underlying87 rfl rfl rfl rfl (fun _ e => by cases e) rfl rfl) 
  (tys_cons (.of (i := Try.t89) (by kernel_rfl) Try.underlying89 rfl rfl rfl ⟨_, _, _, rfl⟩ (fun _ e => by cases e) rfl rfl) 
  (tys_cons (.of (i := Try.t91) (by kernel_rfl) Try.underlying91 rfl rfl rfl ⟨_, _, _, rfl⟩ (fun _ e => by cases e) rfl rfl) 
  (tys_cons (.of (i := Try.t92) (by kernel_rfl) Try.underlying92 rfl rfl rfl ⟨_, _, _, rfl⟩ (fun _ e => by cases e) rfl rfl) 
  (tys_cons (.of (i := Try.t93) (by kernel_rfl) Try.underlying93 rfl rfl rfl ⟨_, rfl, rfl⟩ (fun _ e => by cases e) rfl rfl) 
  (tys_cons (.of (i := Try.t94) (by kernel_rfl) Try.underlying94 rfl rfl rfl ⟨_, rfl, rfl⟩ (fun _ e => by cases e) rfl rfl) 
  (tys_cons (.of (i := Try.t95) (by kernel_rfl) Try.underlying95 rfl rfl rfl rfl (fun _ e => by cases e) rfl rfl) 
  (tys_cons (.of (i := Try.t96) (by kernel_rfl) Try.underlying96 rfl rfl rfl ⟨_, rfl, rfl⟩ (fun _ e => by cases e) rfl rfl) 
  (tys_cons (.of (i := Try.t97) (by kernel_rfl) Try.underlying97 rfl rfl rfl ⟨_, rfl, rfl⟩ (fun _ e => by cases e) rfl rfl) 
  (tys_cons (.of (i := Try.t98) (by kernel_rfl) Try.underlying98 rfl rfl rfl ⟨_, _, _, rfl⟩ (fun _ e => by cases e) rfl rfl) 
  (tys_cons (.of (i := Try.t99) (by kernel_rfl) Try.underlying99 rfl rfl rfl rfl (fun _ e => by cases e) rfl rfl) 
  (tys_cons (.of (i := Try.t100) (by kernel_rfl) Try.underlying100 rfl rfl rfl rfl (fun _ e => by cases e) rfl rfl) 
  (tys_cons (.of (i := Try.t101) (by kernel_rfl) Try.underlying101 rfl rfl rfl ⟨_, _, _, rfl⟩ (fun _ e => by cases e) rfl rfl) 
  (tys_cons (.of (i := Try.t102) (by kernel_rfl) Try.underlying102 rfl rfl rfl rfl (fun _ e => by cases e) rfl rfl) 
  (tys_cons (.of (i := Try.t103) (by kernel_rfl) Try.underlying103 rfl rfl rfl rfl (fun _ e => by cases e) rfl rfl) 
  (tys_cons (.of (i := Try.t104) (by kernel_rfl) Try.underlying104 rfl rfl rfl ⟨_, rfl, rfl⟩ (fun _ e => by cases e) rfl rfl) 
  (tys_cons (.of (i := Try.t105) (by kernel_rfl) Try.underlying105 rfl rfl rfl ⟨_, rfl, rfl⟩ (fun _ e => by cases e) rfl rfl) tys_nil))))))))))))))))))))))))))))))))))))))))))))))))))))))))))))))))))))))))))))))))))))))))))))))))))

/-- The program, behind a name. -/
class IsProg (P : Program) : Prop where
  eq : P = Try.prog
instance : IsProg Try.prog := ⟨rfl⟩
variable {P : Program} [IsProg P]
def tau : Tys := Ax.look tyList
theorem tau_ok0 : ∀ t ti, tau t = some ti → TIok Try.prog t ti := tys_ok tyList_ok
theorem tau_ok : ∀ t ti, tau t = some ti → TIok P t ti := by
  have h := IsProg.eq (P := P)
  subst h
  exact tau_ok0
theorem mix0 : Try.prog.follows .mixedOrders = true := by kernel_rfl
theorem mix : P.follows .mixedOrders = true := by
  have h := IsProg.eq (P := P)
  subst h
  exact mix0

variable {gl : Nat → Option (List AV)}

/- analemma/analemmalaw20.NumericTexts -/
noncomputable def code3 : Code := Try.f3.body.getD .skip
theorem inl3 {J : Jd} {args : List AV} {H : Heap} {n : Nat} {R : AV → Heap → Nat → Prop} (hargs : args.length ≤ 41) (h : T.prop P gl n (resQ R) (bodyT tau gl J code3 41 [.tmp 4] args H n)) : CallA P gl 3 args H n R :=
  CallA.inlineE IsProg.eq tau_ok0 mix0 Try.func3 (by kernel_rfl) (by kernel_rfl) (by kernel_rfl) (by kernel_rfl) hargs h

/- analemma/analemmalaw20.NumericExpands -/
noncomputable def code4 : Code := Try.f4.body.getD .skip
theorem inl4 {J : Jd} {args : List AV} {H : Heap} {n : Nat} {R : AV → Heap → Nat → Prop} (hargs : args.length ≤ 36) (h : T.prop P gl n (resQ R) (bodyT tau gl J code4 36 [.tmp 4] args H n)) : CallA P gl 4 args H n R :=
  CallA.inlineE IsProg.eq tau_ok0 mix0 Try.func4 (by kernel_rfl) (by kernel_rfl) (by kernel_rfl) (by kernel_rfl) hargs h

/- analemma/analemmalaw20.NumericBack -/
noncomputable def code5 : Code := Try.f5.body.getD .skip
theorem inl5 {J : Jd} {args : List AV} {H : Heap} {n : Nat} {R : AV → Heap → Nat → Prop} (hargs : args.length ≤ 111) (h : T.prop P gl n (resQ R) (bodyT tau gl J code5 111 [.tmp 4] args H n)) : CallA P gl 5 args H n R :=
  CallA.inlineE IsProg.eq tau_ok0 mix0 Try.func5 (by kernel_rfl) (by kernel_rfl) (by kernel_rfl) (by kernel_rfl) hargs h

/- analemma/analemmalaw20.NumericDigits -/
noncomputable def code6 : Code := Try.f6.body.getD .skip
theorem inl6 {J : Jd} {args : List AV} {H : Heap} {n : Nat} {R : AV → Heap → Nat → Prop} (hargs : args.length ≤ 165) (h : T.prop P gl n (resQ R) (bodyT tau gl J code6 165 [.tmp 8] args H n)) : CallA P gl 6 args H n R :=
  CallA.inlineE IsProg.eq tau_ok0 mix0 Try.func6 (by kernel_rfl) (by kernel_rfl) (by kernel_rfl) (by kernel_rfl) hargs h

/- analemma/analemmalaw20.NumericEras -/
noncomputable def code7 : Code := Try.f7.body.getD .skip
theorem inl7 {J : Jd} {args : List AV} {H : Heap} {n : Nat} {R : AV → Heap → Nat → Prop} (hargs : args.length ≤ 143) (h : T.prop P gl n (resQ R) (bodyT tau gl J code7 143 [.tmp 8] args H n)) : CallA P gl 7 args H n R :=
  CallA.inlineE IsProg.eq tau_ok0 mix0 Try.func7 (by kernel_rfl) (by kernel_rfl) (by kernel_rfl) (by kernel_rfl) hargs h

/- analemma/analemmalaw20.NumericTurned -/
noncomputable def code8 : Code := Try.f8.body.getD .skip
theorem inl8 {J : Jd} {args : List AV} {H : Heap} {n : Nat} {R : AV → Heap → Nat → Prop} (hargs : args.length ≤ 94) (h : T.prop P gl n (resQ R) (bodyT tau gl J code8 94 [.tmp 4] args H n)) : CallA P gl 8 args H n R :=
  CallA.inlineE IsProg.eq tau_ok0 mix0 Try.func8 (by kernel_rfl) (by kernel_rfl) (by kernel_rfl) (by kernel_rfl) hargs h

/- analemma/analemmalaw20.NumericRefuses -/
noncomputable def code9 : Code := Try.f9.body.getD .skip
theorem inl9 {J : Jd} {args : List AV} {H : Heap} {n : Nat} {R : AV → Heap → Nat → Prop} (hargs : args.length ≤ 166) (h : T.prop P gl n (resQ R) (bodyT tau gl J code9 166 [.tmp 8] args H n)) : CallA P gl 9 args H n R :=
  CallA.inlineE IsProg.eq tau_ok0 mix0 Try.func9 (by kernel_rfl) (by kernel_rfl) (by kernel_rfl) (by kernel_rfl) hargs h

/- analemma/analemmalaw20.works -/
noncomputable def code10 : Code := Try.f10.body.getD .skip
theorem inl10 {J : Jd} {args : List AV} {H : Heap} {n : Nat} {R : AV → Heap → Nat → Prop} (hargs : args.length ≤ 117) (h : T.prop P gl n (resQ R) (bodyT tau gl J code10 117 [.tmp 0] args H n)) : CallA P gl 10 args H n R :=
  CallA.inlineE IsProg.eq tau_ok0 mix0 Try.func10 (by kernel_rfl) (by kernel_rfl) (by kernel_rfl) (by kernel_rfl) hargs h

/- analemma/numeric.Parse -/
noncomputable def code11 : Code := Try.f11.body.getD .skip
theorem inl11 {J : Jd} {args : List AV} {H : Heap} {n : Nat} {R : AV → Heap → Nat → Prop} (hargs : args.length ≤ 56) (h : T.prop P gl n (resQ R) (bodyT tau gl J code11 56 [.tmp 2, .tmp 3] args H n)) : CallA P gl 11 args H n R :=
  CallA.inlineE IsProg.eq tau_ok0 mix0 Try.func11 (by kernel_rfl) (by kernel_rfl) (by kernel_rfl) (by kernel_rfl) hargs h

/- analemma/analemmaref20.Parse -/
noncomputable def code12 : Code := Try.f12.body.getD .skip
theorem inl12 {J : Jd} {args : List AV} {H : Heap} {n : Nat} {R : AV → Heap → Nat → Prop} (hargs : args.length ≤ 49) (h : T.prop P gl n (resQ R) (bodyT tau gl J code12 49 [.tmp 2, .tmp 3] args H n)) : CallA P gl 12 args H n R :=
  CallA.inlineE IsProg.eq tau_ok0 mix0 Try.func12 (by kernel_rfl) (by kernel_rfl) (by kernel_rfl) (by kernel_rfl) hargs h

/- analemma/numeric.Text -/
noncomputable def code13 : Code := Try.f13.body.getD .skip
theorem inl13 {J : Jd} {args : List AV} {H : Heap} {n : Nat} {R : AV → Heap → Nat → Prop} (hargs : args.length ≤ 60) (h : T.prop P gl n (resQ R) (bodyT tau gl J code13 60 [.tmp 2] args H n)) : CallA P gl 13 args H n R :=
  CallA.inlineE IsProg.eq tau_ok0 mix0 Try.func13 (by kernel_rfl) (by kernel_rfl) (by kernel_rfl) (by kernel_rfl) hargs h

/- analemma/analemmaref20.Text -/
noncomputable def code14 : Code := Try.f14.body.getD .skip
theorem inl14 {J : Jd} {args : List AV} {H : Heap} {n : Nat} {R : AV → Heap → Nat → Prop} (hargs : args.length ≤ 38) (h : T.prop P gl n (resQ R) (bodyT tau gl J code14 38 [.tmp 2] args H n)) : CallA P gl 14 args H n R :=
  CallA.inlineE IsProg.eq tau_ok0 mix0 Try.func14 (by kernel_rfl) (by kernel_rfl) (by kernel_rfl) (by kernel_rfl) hargs h

/- analemma/numeric.Expansion -/
noncomputable def code15 : Code := Try.f15.body.getD .skip
theorem inl15 {J : Jd} {args : List AV} {H : Heap} {n : Nat} {R : AV → Heap → Nat → Prop} (hargs : args.length ≤ 60) (h : T.prop P gl n (resQ R) (bodyT tau gl J code15 60 [.tmp 4, .tmp 5] args H n)) : CallA P gl 15 args H n R :=
  CallA.inlineE IsProg.eq tau_ok0 mix0 Try.func15 (by kernel_rfl) (by kernel_rfl) (by kernel_rfl) (by kernel_rfl) hargs h

/- analemma/analemmaref20.Expansion -/
noncomputable def code16 : Code := Try.f16.body.getD .skip
theorem inl16 {J : Jd} {args : List AV} {H : Heap} {n : Nat} {R : AV → Heap → Nat → Prop} (hargs : args.length ≤ 75) (h : T.prop P gl n (resQ R) (bodyT tau gl J code16 75 [.tmp 4, .tmp 5] args H n)) : CallA P gl 16 args H n R :=
  CallA.inlineE IsProg.eq tau_ok0 mix0 Try.func16 (by kernel_rfl) (by kernel_rfl) (by kernel_rfl) (by kernel_rfl) hargs h

/- analemma/analemmalaw20.NumericDigits$1 -/
noncomputable def code17 : Code := Try.f17.body.getD .skip
theorem inl17 {J : Jd} {args : List AV} {H : Heap} {n : Nat} {R : AV → Heap → Nat → Prop} (hargs : args.length ≤ 13) (h : T.prop P gl n (resQ R) (bodyT tau gl J code17 13 [.tmp 2] args H n)) : CallA P gl 17 args H n R :=
  CallA.inlineE IsProg.eq tau_ok0 mix0 Try.func17 (by kernel_rfl) (by kernel_rfl) (by kernel_rfl) (by kernel_rfl) hargs h

/- analemma/analemmalaw20.saves -/
noncomputable def code18 : Code := Try.f18.body.getD .skip
theorem inl18 {J : Jd} {args : List AV} {H : Heap} {n : Nat} {R : AV → Heap → Nat → Prop} (hargs : args.length ≤ 19) (h : T.prop P gl n (resQ R) (bodyT tau gl J code18 19 [.tmp 2] args H n)) : CallA P gl 18 args H n R :=
  CallA.inlineE IsProg.eq tau_ok0 mix0 Try.func18 (by kernel_rfl) (by kernel_rfl) (by kernel_rfl) (by kernel_rfl) hargs h

/- strings.Contains -/
noncomputable def code19 : Code := Try.f19.body.getD .skip
theorem inl19 {J : Jd} {args : List AV} {H : Heap} {n : Nat} {R : AV → Heap → Nat → Prop} (hargs : args.length ≤ 9) (h : T.prop P gl n (resQ R) (bodyT tau gl J code19 9 [.tmp 4] args H n)) : CallA P gl 19 args H n R :=
  CallA.inlineE IsProg.eq tau_ok0 mix0 Try.func19 (by kernel_rfl) (by kernel_rfl) (by kernel_rfl) (by kernel_rfl) hargs h

/- strings.Cut -/
noncomputable def code20 : Code := Try.f20.body.getD .skip
theorem inl20 {J : Jd} {args : List AV} {H : Heap} {n : Nat} {R : AV → Heap → Nat → Prop} (hargs : args.length ≤ 13) (h : T.prop P gl n (resQ R) (bodyT tau gl J code20 13 [.tmp 4, .tmp 5, .tmp 6] args H n)) : CallA P gl 20 args H n R :=
  CallA.inlineE IsProg.eq tau_ok0 mix0 Try.func20 (by kernel_rfl) (by kernel_rfl) (by kernel_rfl) (by kernel_rfl) hargs h

/- analemma/analemmaref20.two -/
noncomputable def code21 : Code := Try.f21.body.getD .skip
theorem inl21 {J : Jd} {args : List AV} {H : Heap} {n : Nat} {R : AV → Heap → Nat → Prop} (hargs : args.length ≤ 49) (h : T.prop P gl n (resQ R) (bodyT tau gl J code21 49 [.tmp 4] args H n)) : CallA P gl 21 args H n R :=
  CallA.inlineE IsProg.eq tau_ok0 mix0 Try.func21 (by kernel_rfl) (by kernel_rfl) (by kernel_rfl) (by kernel_rfl) hargs h

/- analemma/analemmaref04.Two -/
noncomputable def code22 : Code := Try.f22.body.getD .skip
theorem inl22 {J : Jd} {args : List AV} {H : Heap} {n : Nat} {R : AV → Heap → Nat → Prop} (hargs : args.length ≤ 10) (h : T.prop P gl n (resQ R) (bodyT tau gl J code22 10 [.tmp 2] args H n)) : CallA P gl 22 args H n R :=
  CallA.inlineE IsProg.eq tau_ok0 mix0 Try.func22 (by kernel_rfl) (by kernel_rfl) (by kernel_rfl) (by kernel_rfl) hargs h

/- analemma/numeric.join -/
noncomputable def code23 : Code := Try.f23.body.getD .skip
theorem inl23 {J : Jd} {args : List AV} {H : Heap} {n : Nat} {R : AV → Heap → Nat → Prop} (hargs : args.length ≤ 17) (h : T.prop P gl n (resQ R) (bodyT tau gl J code23 17 [.tmp 2, .tmp 3] args H n)) : CallA P gl 23 args H n R :=
  CallA.inlineE IsProg.eq tau_ok0 mix0 Try.func23 (by kernel_rfl) (by kernel_rfl) (by kernel_rfl) (by kernel_rfl) hargs h

/- analemma/numeric.sum -/
noncomputable def code24 : Code := Try.f24.body.getD .skip
theorem inl24 {J : Jd} {args : List AV} {H : Heap} {n : Nat} {R : AV → Heap → Nat → Prop} (hargs : args.length ≤ 17) (h : T.prop P gl n (resQ R) (bodyT tau gl J code24 17 [.tmp 4] args H n)) : CallA P gl 24 args H n R :=
  CallA.inlineE IsProg.eq tau_ok0 mix0 Try.func24 (by kernel_rfl) (by kernel_rfl) (by kernel_rfl) (by kernel_rfl) hargs h

/- analemma/ruleset.Other -/
noncomputable def code25 : Code := Try.f25.body.getD .skip
theorem inl25 {J : Jd} {args : List AV} {H : Heap} {n : Nat} {R : AV → Heap → Nat → Prop} (hargs : args.length ≤ 30) (h : T.prop P gl n (resQ R) (bodyT tau gl J code25 30 [.tmp 2, .tmp 3] args H n)) : CallA P gl 25 args H n R :=
  CallA.inlineE IsProg.eq tau_ok0 mix0 Try.func25 (by kernel_rfl) (by kernel_rfl) (by kernel_rfl) (by kernel_rfl) hargs h

/- analemma/numeric.saved -/
noncomputable def code26 : Code := Try.f26.body.getD .skip
theorem inl26 {J : Jd} {args : List AV} {H : Heap} {n : Nat} {R : AV → Heap → Nat → Prop} (hargs : args.length ≤ 15) (h : T.prop P gl n (resQ R) (bodyT tau gl J code26 15 [.tmp 2] args H n)) : CallA P gl 26 args H n R :=
  CallA.inlineE IsProg.eq tau_ok0 mix0 Try.func26 (by kernel_rfl) (by kernel_rfl) (by kernel_rfl) (by kernel_rfl) hargs h

/- analemma/analemmaref20.sum -/
noncomputable def code27 : Code := Try.f27.body.getD .skip
theorem inl27 {J : Jd} {args : List AV} {H : Heap} {n : Nat} {R : AV → Heap → Nat → Prop} (hargs : args.length ≤ 27) (h : T.prop P gl n (resQ R) (bodyT tau gl J code27 27 [.tmp 4] args H n)) : CallA P gl 27 args H n R :=
  CallA.inlineE IsProg.eq tau_ok0 mix0 Try.func27 (by kernel_rfl) (by kernel_rfl) (by kernel_rfl) (by kernel_rfl) hargs h

/- analemma/analemmaref16.Other -/
noncomputable def code28 : Code := Try.f28.body.getD .skip
theorem inl28 {J : Jd} {args : List AV} {H : Heap} {n : Nat} {R : AV → Heap → Nat → Prop} (hargs : args.length ≤ 45) (h : T.prop P gl n (resQ R) (bodyT tau gl J code28 45 [.tmp 2, .tmp 3] args H n)) : CallA P gl 28 args H n R :=
  CallA.inlineE IsProg.eq tau_ok0 mix0 Try.func28 (by kernel_rfl) (by kernel_rfl) (by kernel_rfl) (by kernel_rfl) hargs h

/- strings.Index -/
noncomputable def code29 : Code := Try.f29.body.getD .skip
theorem inl29 {J : Jd} {args : List AV} {H : Heap} {n : Nat} {R : AV → Heap → Nat → Prop} (hargs : args.length ≤ 8) (h : T.prop P gl n (resQ R) (bodyT tau gl J code29 8 [.tmp 4] args H n)) : CallA P gl 29 args H n R :=
  CallA.inlineE IsProg.eq tau_ok0 mix0 Try.func29 (by kernel_rfl) (by kernel_rfl) (by kernel_rfl) (by kernel_rfl) hargs h

/- internal/stringslite.Cut -/
noncomputable def code30 : Code := Try.f30.body.getD .skip
theorem inl30 {J : Jd} {args : List AV} {H : Heap} {n : Nat} {R : AV → Heap → Nat → Prop} (hargs : args.length ≤ 23) (h : T.prop P gl n (resQ R) (bodyT tau gl J code30 23 [.tmp 4, .tmp 5, .tmp 6] args H n)) : CallA P gl 30 args H n R :=
  CallA.inlineE IsProg.eq tau_ok0 mix0 Try.func30 (by kernel_rfl) (by kernel_rfl) (by kernel_rfl) (by kernel_rfl) hargs h

/- analemma/analemmaref04.Decimal -/
noncomputable def code31 : Code := Try.f31.body.getD .skip
theorem inl31 {J : Jd} {args : List AV} {H : Heap} {n : Nat} {R : AV → Heap → Nat → Prop} (hargs : args.length ≤ 16) (h : T.prop P gl n (resQ R) (bodyT tau gl J code31 16 [.tmp 2] args H n)) : CallA P gl 31 args H n R :=
  CallA.inlineE IsProg.eq tau_ok0 mix0 Try.func31 (by kernel_rfl) (by kernel_rfl) (by kernel_rfl) (by kernel_rfl) hargs h

/- strings.Join -/
noncomputable def code32 : Code := Try.f32.body.getD .skip
theorem inl32 {J : Jd} {args : List AV} {H : Heap} {n : Nat} {R : AV → Heap → Nat → Prop} (hargs : args.length ≤ 75) (h : T.prop P gl n (resQ R) (bodyT tau gl J code32 75 [.tmp 4] args H n)) : CallA P gl 32 args H n R :=
  CallA.inlineE IsProg.eq tau_ok0 mix0 Try.func32 (by kernel_rfl) (by kernel_rfl) (by kernel_rfl) (by kernel_rfl) hargs h

/- internal/stringslite.Index -/
noncomputable def code33 : Code := Try.f33.body.getD .skip
theorem inl33 {J : Jd} {args : List AV} {H : Heap} {n : Nat} {R : AV → Heap → Nat → Prop} (hargs : args.length ≤ 143) (h : T.prop P gl n (resQ R) (bodyT tau gl J code33 143 [.tmp 4] args H n)) : CallA P gl 33 args H n R :=
  CallA.inlineE IsProg.eq tau_ok0 mix0 Try.func33 (by kernel_rfl) (by kernel_rfl) (by kernel_rfl) (by kernel_rfl) hargs h

/- (*strings.Builder).Grow -/
noncomputable def code34 : Code := Try.f34.body.getD .skip
theorem inl34 {J : Jd} {args : List AV} {H : Heap} {n : Nat} {R : AV → Heap → Nat → Prop} (hargs : args.length ≤ 25) (h : T.prop P gl n (resQ R) (bodyT tau gl J code34 25 [] args H n)) : CallA P gl 34 args H n R :=
  CallA.inlineE IsProg.eq tau_ok0 mix0 Try.func34 (by kernel_rfl) (by kernel_rfl) (by kernel_rfl) (by kernel_rfl) hargs h

/- (*strings.Builder).WriteString -/
noncomputable def code35 : Code := Try.f35.body.getD .skip
theorem inl35 {J : Jd} {args : List AV} {H : Heap} {n : Nat} {R : AV → Heap → Nat → Prop} (hargs : args.length ≤ 19) (h : T.prop P gl n (resQ R) (bodyT tau gl J code35 19 [.tmp 4, .tmp 5] args H n)) : CallA P gl 35 args H n R :=
  CallA.inlineE IsProg.eq tau_ok0 mix0 Try.func35 (by kernel_rfl) (by kernel_rfl) (by kernel_rfl) (by kernel_rfl) hargs h

/- (*strings.Builder).String -/
noncomputable def code36 : Code := Try.f36.body.getD .skip
theorem inl36 {J : Jd} {args : List AV} {H : Heap} {n : Nat} {R : AV → Heap → Nat → Prop} (hargs : args.length ≤ 14) (h : T.prop P gl n (resQ R) (bodyT tau gl J code36 14 [.tmp 2] args H n)) : CallA P gl 36 args H n R :=
  CallA.inlineE IsProg.eq tau_ok0 mix0 Try.func36 (by kernel_rfl) (by kernel_rfl) (by kernel_rfl) (by kernel_rfl) hargs h

/- internal/stringslite.IndexByte -/
noncomputable def code37 : Code := Try.f37.body.getD .skip
theorem inl37 {J : Jd} {args : List AV} {H : Heap} {n : Nat} {R : AV → Heap → Nat → Prop} (hargs : args.length ≤ 8) (h : T.prop P gl n (resQ R) (bodyT tau gl J code37 8 [.tmp 4] args H n)) : CallA P gl 37 args H n R :=
  CallA.inlineE IsProg.eq tau_ok0 mix0 Try.func37 (by kernel_rfl) (by kernel_rfl) (by kernel_rfl) (by kernel_rfl) hargs h

/- internal/bytealg.Cutover -/
noncomputable def code39 : Code := Try.f39.body.getD .skip
theorem inl39 {J : Jd} {args : List AV} {H : Heap} {n : Nat} {R : AV → Heap → Nat → Prop} (hargs : args.length ≤ 6) (h : T.prop P gl n (resQ R) (bodyT tau gl J code39 6 [.tmp 2] args H n)) : CallA P gl 39 args H n R :=
  CallA.inlineE IsProg.eq tau_ok0 mix0 Try.func39 (by kernel_rfl) (by kernel_rfl) (by kernel_rfl) (by kernel_rfl) hargs h

/- internal/bytealg.IndexRabinKarp[string] -/
noncomputable def code40 : Code := Try.f40.body.getD .skip
theorem inl40 {J : Jd} {args : List AV} {H : Heap} {n : Nat} {R : AV → Heap → Nat → Prop} (hargs : args.length ≤ 81) (h : T.prop P gl n (resQ R) (bodyT tau gl J code40 81 [.tmp 4] args H n)) : CallA P gl 40 args H n R :=
  CallA.inlineE IsProg.eq tau_ok0 mix0 Try.func40 (by kernel_rfl) (by kernel_rfl) (by kernel_rfl) (by kernel_rfl) hargs h

/- (*strings.Builder).copyCheck -/
noncomputable def code41 : Code := Try.f41.body.getD .skip
theorem inl41 {J : Jd} {args : List AV} {H : Heap} {n : Nat} {R : AV → Heap → Nat → Prop} (hargs : args.length ≤ 20) (h : T.prop P gl n (resQ R) (bodyT tau gl J code41 20 [] args H n)) : CallA P gl 41 args H n R :=
  CallA.inlineE IsProg.eq tau_ok0 mix0 Try.func41 (by kernel_rfl) (by kernel_rfl) (by kernel_rfl) (by kernel_rfl) hargs h

/- (*strings.Builder).grow -/
noncomputable def code42 : Code := Try.f42.body.getD .skip
theorem inl42 {J : Jd} {args : List AV} {H : Heap} {n : Nat} {R : AV → Heap → Nat → Prop} (hargs : args.length ≤ 30) (h : T.prop P gl n (resQ R) (bodyT tau gl J code42 30 [] args H n)) : CallA P gl 42 args H n R :=
  CallA.inlineE IsProg.eq tau_ok0 mix0 Try.func42 (by kernel_rfl) (by kernel_rfl) (by kernel_rfl) (by kernel_rfl) hargs h

/- internal/bytealg.hashStr[string] -/
noncomputable def code44 : Code := Try.f44.body.getD .skip
theorem inl44 {J : Jd} {args : List AV} {H : Heap} {n : Nat} {R : AV → Heap → Nat → Prop} (hargs : args.length ≤ 39) (h : T.prop P gl n (resQ R) (bodyT tau gl J code44 39 [.tmp 2, .tmp 3] args H n)) : CallA P gl 44 args H n R :=
  CallA.inlineE IsProg.eq tau_ok0 mix0 Try.func44 (by kernel_rfl) (by kernel_rfl) (by kernel_rfl) (by kernel_rfl) hargs h

noncomputable def fnList : List (Nat × FDesc) := [(3, code3, 41, [.tmp 4]),
  (4, code4, 36, [.tmp 4]),
  (5, code5, 111, [.tmp 4]),
  (6, code6, 165, [.tmp 8]),
  (7, code7, 143, [.tmp 8]),
  (8, code8, 94, [.tmp 4]),
  (9, code9, 166, [.tmp 8]),
  (10, code10, 117, [.tmp 0]),
  (11, code11, 56, [.tmp 2, .tmp 3]),
  (12, code12, 49, [.tmp 2, .tmp 3]),
  (13, code13, 60, [.tmp 2]),
  (14, code14, 38, [.tmp 2]),
  (15, code15, 60, [.tmp 4, .tmp 5]),
  (16, code16, 75, [.tmp 4, .tmp 5]),
  (17, code17, 13, [.tmp 2]),
  (18, code18, 19, [.tmp 2]),
  (19, code19, 9, [.tmp 4]),
  (20, code20, 13, [.tmp 4, .tmp 5, .tmp 6]),
  (21, code21, 49, [.tmp 4]),
  (22, code22, 10, [.tmp 2]),
  (23, code23, 17, [.tmp 2, .tmp 3]),
  (24, code24, 17, [.tmp 4]),
  (25, code25, 30, [.tmp 2, .tmp 3]),
  (26, code26, 15, [.tmp 2]),
  (27, code27, 27, [.tmp 4]),
  (28, code28, 45, [.tmp 2, .tmp 3]),
  (29, code29, 8, [.tmp 4]),
  (30, code30, 23, [.tmp 4, .tmp 5, .tmp 6]),
  (31, code31, 16, [.tmp 2]),
  (32, code32, 75, [.tmp 4]),
  (33, code33, 143, [.tmp 4]),
  (34, code34, 25, []),
  (35, code35, 19, [.tmp 4, .tmp 5]),
  (36, code36, 14, [.tmp 2]),
  (37, code37, 8, [.tmp 4]),
  (39, code39, 6, [.tmp 2]),
  (40, code40, 81, [.tmp 4]),
  (41, code41, 20, []),
  (42, code42, 30, []),
  (44, code44, 39, [.tmp 2, .tmp 3])]
theorem fnD_ok : DOk P gl tau (Ax.look fnList) := dok
  (dok_cons (fun _ _ _ _ _ => inl3) 
  (dok_cons (fun _ _ _ _ _ => inl4) 
  (dok_cons (fun _ _ _ _ _ => inl5) 
  (dok_cons (fun _ _ _ _ _ => inl6) 
  (dok_cons (fun _ _ _ _ _ => inl7) 
  (dok_cons (fun _ _ _ _ _ => inl8) 
  (dok_cons (fun _ _ _ _ _ => inl9) 
  (dok_cons (fun _ _ _ _ _ => inl10) 
  (dok_cons (fun _ _ _ _ _ => inl11) 
  (dok_cons (fun _ _ _ _ _ => inl12) 
  (dok_cons (fun _ _ _ _ _ => inl13) 
  (dok_cons (fun _ _ _ _ _ => inl14) 
  (dok_cons (fun _ _ _ _ _ => inl15) 
  (dok_cons (fun _ _ _ _ _ => inl16) 
  (dok_cons (fun _ _ _ _ _ => inl17) 
  (dok_cons (fun _ _ _ _ _ => inl18) 
  (dok_cons (fun _ _ _ _ _ => inl19) 
  (dok_cons (fun _ _ _ _ _ => inl20) 
  (dok_cons (fun _ _ _ _ _ => inl21) 
  (dok_cons (fun _ _ _ _ _ => inl22) 
  (dok_cons (fun _ _ _ _ _ => inl23) 
  (dok_cons (fun _ _ _ _ _ => inl24) 
  (dok_cons (fun _ _ _ _ _ => inl25) 
  (dok_cons (fun _ _ _ _ _ => inl26) 
  (dok_cons (fun _ _ _ _ _ => inl27) 
  (dok_cons (fun _ _ _ _ _ => inl28) 
  (dok_cons (fun _ _ _ _ _ => inl29) 
  (dok_cons (fun _ _ _ _ _ => inl30) 
  (dok_cons (fun _ _ _ _ _ => inl31) 
  (dok_cons (fun _ _ _ _ _ => inl32) 
  (dok_cons (fun _ _ _ _ _ => inl33) 
  (dok_cons (fun _ _ _ _ _ => inl34) 
  (dok_cons (fun _ _ _ _ _ => inl35) 
  (dok_cons (fun _ _ _ _ _ => inl36) 
  (dok_cons (fun _ _ _ _ _ => inl37) 
  (dok_cons (fun _ _ _ _ _ => inl39) 
  (dok_cons (fun _ _ _ _ _ => inl40) 
  (dok_cons (fun _ _ _ _ _ => inl41) 
  (dok_cons (fun _ _ _ _ _ => inl42) 
  (dok_cons (fun _ _ _ _ _ => inl44) dok_nil))))))))))))))))))))))))))))))))))))))))
def jList : List (Nat × Jd) := [(3, ⟨[], [], [(5, [4]), (4, [0, 5, 6, 7, 8]), (3, [0, 1, 5, 6]), (2, [4]), (1, [0, 1, 11]), (0, [0, 1])]⟩), (4, ⟨[], [], [(5, [4]), (4, [5, 6, 7, 8]), (3, [1, 2, 5, 6]), (2, [4]), (1, [1, 2, 11]), (0, [1, 2])]⟩), (5, ⟨[(4, 64)], [], [(10, [4]), (9, [5, 7, 11, 12, 13]), (8, [4]), (7, [5, 7, 11, 69]), (6, [5, 7, 11]), (5, [4]), (4, [5, 7, 64]), (3, [5, 6, 7, 8, 9, 10]), (2, [5, 6, 7, 8]), (1, [5, 6]), (0, [0, 1])]⟩), (6, ⟨[(6, 15), (14, 18), (16, 18), (12, 18), (18, 143), (22, 162)], [5], [(25, [8]), (24, [3, 9, 10, 11, 14, 15, 85, 86, 87]), (23, [8]), (22, [3, 9, 10, 11, 14, 15, 85, 86, 87, 162]), (21, [8]), (20, [3, 9, 10, 11, 14, 15, 16, 19, 20, 85, 86, 87, 151]), (19, [8]), (18, [3, 9, 10, 11, 14, 15, 16, 17, 19, 20, 85, 86, 87, 143]), (17, [3, 9, 10, 11, 14, 15, 16, 17, 18, 19, 20, 85, 86, 87]), (14, [3, 9, 10, 11, 14, 15, 16, 17, 18, 85, 86, 87]), (16, [3, 9, 10, 11, 14, 15, 16, 17, 18, 85, 86, 87]), (12, [3, 9, 10, 11, 14, 15, 16, 17, 18, 85, 86, 87]), (15, [3, 9, 10, 11, 14, 15, 16, 17, 85, 86, 87, 111]), (13, [3, 9, 10, 11, 14, 15, 16, 17, 85, 86, 87, 93, 99]), (11, [3, 9, 10, 11, 14, 15, 16, 17, 85, 86, 87, 93]), (10, [3, 9, 10, 11, 14, 15, 16, 17, 85, 86, 87]), (9, [3, 9, 10, 11, 14, 15, 16, 17, 85, 86, 87]), (8, [3, 9, 10, 11, 14, 15, 85, 86, 87, 88]), (7, [3, 9, 10, 11, 14, 15, 85, 86, 87]), (6, [3, 9, 10, 11, 12, 13, 14, 15]), (5, [3, 9, 10, 11, 12, 13, 14]), (4, [3, 9, 10, 11, 12, 13, 14, 37]), (3, [3, 9, 10, 11, 12, 13, 14]), (2, [3, 9, 10, 11, 12]), (1, [3, 9, 10, 11]), (0, [0, 1, 2, 3])]⟩), (7, ⟨[(19, 70)], [], [(27, [8]), (26, [17, 18, 19, 22, 23]), (24, [11, 12, 17, 18, 19, 20, 21]), (25, [11, 12, 17, 18, 19, 20, 21]), (23, [11, 12, 17, 18, 19, 20, 21, 96]), (22, [11, 12, 17, 18, 19, 20, 21]), (21, [11, 12, 17, 18, 19]), (18, [11, 12, 17]), (20, [11, 12, 17]), (19, [9, 10, 11, 12, 17, 70]), (17, [9, 10, 11, 12, 13, 17, 62]), (16, [9, 10, 11, 12, 13, 17]), (15, [9, 10, 11, 12, 13, 40, 41, 42]), (14, [9, 10, 11, 12, 13, 40, 41, 42]), (13, [9, 10, 11, 12, 13, 16, 40, 41, 42]), (12, [9, 10, 11, 12, 13, 16, 40, 41, 42, 47]), (11, [9, 10, 11, 12, 13, 15, 16, 40, 41, 42]), (10, [9, 10, 11, 12, 13, 15, 40, 41, 42]), (9, [9, 10, 11, 12, 13, 40, 41, 42, 43]), (8, [9, 10, 11, 12, 13, 40, 41, 42]), (7, [3, 9, 10, 11, 12, 13]), (6, [3, 9, 10, 11, 12]), (5, [3, 9, 10, 11]), (4, [2, 3, 9, 10]), (3, [1, 2, 3, 9]), (2, [8]), (1, [0, 1, 2, 3, 26]), (0, [0, 1, 2, 3])]⟩), (8, ⟨[(4, 51)], [], [(10, [4]), (9, [11, 12, 13, 14, 15, 16]), (8, [9, 11, 12, 13]), (7, [4]), (6, [7, 9, 53]), (5, [4]), (4, [6, 7, 9, 51]), (3, [6, 7, 8, 9, 10]), (2, [5, 6, 7, 8]), (1, [5, 6]), (0, [0, 1])]⟩), (9, ⟨[(7, 67), (14, 91), (21, 129)], [], [(31, [8]), (30, [27, 28]), (29, [9, 10, 135, 136, 137]), (28, [8]), (27, [9, 10, 135, 136, 137, 143]), (26, [9, 10, 26, 135, 136, 137]), (25, [9, 10, 135, 136, 137, 138]), (24, [9, 10, 135, 136, 137]), (23, [9, 10, 111, 112, 113]), (22, [8]), (21, [9, 10, 111, 112, 113, 129]), (20, [9, 10, 23, 24, 111, 112, 113]), (19, [9, 10, 22, 111, 112, 113]), (18, [9, 10, 111, 112, 113, 114]), (17, [9, 10, 111, 112, 113]), (16, [9, 10, 11, 12, 70, 71, 72]), (15, [8]), (14, [9, 10, 11, 12, 70, 71, 72, 91]), (13, [9, 10, 11, 12, 19, 20, 70, 71, 72]), (12, [9, 10, 11, 12, 18, 70, 71, 72]), (11, [9, 10, 11, 12, 70, 71, 72, 73]), (10, [9, 10, 11, 12, 70, 71, 72]), (9, [9, 10, 11, 12, 46, 47, 48]), (8, [8]), (7, [9, 10, 11, 12, 46, 47, 48, 67]), (6, [9, 10, 11, 12, 15, 16, 46, 47, 48]), (5, [9, 10, 11, 12, 14, 46, 47, 48]), (4, [9, 10, 11, 12, 46, 47, 48, 49]), (3, [9, 10, 11, 12, 46, 47, 48]), (2, [3, 9, 10, 11, 12]), (1, [1, 2, 3, 9, 10]), (0, [0, 1, 2, 3])]⟩), (10, ⟨[(11, 62), (18, 115)], [], [(21, [0]), (20, [92, 93, 94]), (19, [0]), (18, [92, 93, 94, 115]), (17, [8, 9, 10, 92, 93, 94]), (16, [8, 92, 93, 94]), (15, [92, 93, 94, 95]), (14, [92, 93, 94]), (13, [41, 42, 43]), (12, [0]), (11, [41, 42, 43, 62]), (10, [4, 5, 6, 41, 42, 43]), (9, [4, 41, 42, 43]), (8, [41, 42, 43, 44]), (7, [41, 42, 43]), (6, [18, 19, 20]), (5, [0]), (4, [18, 19, 20, 29]), (3, [2, 18, 19, 20]), (2, [18, 19, 20, 21]), (1, [18, 19, 20]), (0, [])]⟩), (11, ⟨[(1, 20)], [10], [(13, [2, 3]), (12, [2, 3]), (11, [4, 54]), (10, [0, 4]), (9, [0, 4, 48]), (6, [0, 4, 5, 6]), (8, [0, 4, 5, 6]), (7, [0, 4, 5, 6]), (5, [0, 4, 5, 6, 24]), (4, [0, 4, 5, 6]), (3, [0, 4, 5]), (2, [2, 3]), (1, [0, 20]), (0, [0])]⟩), (12, ⟨[(4, 15), (11, 37)], [12], [(15, [2, 3]), (14, [2, 3]), (13, [4, 47]), (12, [0, 4]), (11, [0, 4, 37]), (5, [0, 4, 5, 6]), (10, [0, 4, 5, 6]), (9, [0, 4, 5, 6]), (8, [2, 3]), (7, [0, 4, 5, 6, 7, 22]), (6, [0, 4, 5, 6, 7]), (4, [0, 4, 5, 6, 15]), (3, [0, 4, 5, 6]), (2, [0, 4, 5]), (1, [0, 4]), (0, [0])]⟩), (13, ⟨[(1, 13)], [5], [(18, [2]), (17, [4, 6, 38, 39]), (16, [4, 6, 38, 39]), (15, [4, 6, 7, 38, 39]), (14, [4, 6, 38, 39, 40]), (13, [4, 6, 38, 39]), (12, [4, 5, 6]), (11, [3, 4, 5]), (10, [3, 4, 5, 32]), (9, [3, 4, 5, 31]), (8, [3, 4, 5, 27]), (7, [3, 4, 5]), (6, [3, 4]), (5, [0, 3]), (4, [0, 3, 15]), (3, [0, 3]), (2, [2]), (1, [0, 13]), (0, [0])]⟩), (14, ⟨[(1, 10)], [5, 9], [(12, [2]), (11, [4]), (10, [0, 4, 31]), (9, [0, 4]), (8, [0, 4, 22]), (7, [0, 4]), (6, [0, 3]), (5, [0, 3]), (4, [0, 3, 12]), (3, [0, 3]), (2, [2]), (1, [0, 10]), (0, [0])]⟩), (15, ⟨[], [], [(13, [4, 5]), (3, [4, 5]), (5, [4, 5]), (12, [4, 5]), (9, [4, 5]), (11, [4, 5]), (10, [2, 50]), (8, [1, 2, 6, 37]), (7, [1, 2, 6, 7]), (6, [1, 2, 30]), (4, [1, 2, 9, 19]), (2, [1, 2, 9, 10]), (1, [1, 2, 9]), (0, [1, 2])]⟩), (16, ⟨[(1, 19), (12, 54), (16, 68)], [6, 8], [(20, [4, 5]), (19, [4, 5]), (18, [6, 7, 69]), (17, [4, 5]), (16, [6, 7, 8, 68]), (15, [6, 7, 8]), (14, [2, 6, 8, 9]), (11, [1, 2, 6, 9, 10, 11]), (13, [4, 5]), (12, [1, 2, 6, 9, 10, 11, 54]), (10, [1, 2, 6, 9, 10, 11, 42]), (9, [1, 2, 6, 9, 10, 11]), (8, [1, 2, 6, 9, 10]), (7, [1, 2, 6, 7, 8, 33]), (6, [1, 2, 6, 7, 8]), (5, [1, 2, 6, 7, 8, 25]), (4, [1, 2, 6, 7, 8]), (3, [1, 2, 6, 7]), (2, [4, 5]), (1, [1, 2, 19]), (0, [1, 2])]⟩), (17, ⟨[], [], [(1, [2]), (0, [0])]⟩), (18, ⟨[], [], [(7, [2]), (6, [3, 6, 7, 8]), (5, [3, 6, 7, 8]), (4, [3, 5, 6, 7, 8]), (3, [3, 6, 7, 8, 9]), (2, [3, 6, 7, 8]), (1, [0, 3]), (0, [0])]⟩), (19, ⟨[], [], [(1, [4]), (0, [0, 1])]⟩), (20, ⟨[], [], [(1, [4, 5, 6]), (0, [0, 1])]⟩), (21, ⟨[(1, 35)], [], [(3, [4]), (2, [4]), (1, [0, 1, 35]), (0, [0, 1])]⟩), (22, ⟨[], [], [(1, [2]), (0, [0])]⟩), (23, ⟨[], [], [(7, [2, 3]), (6, [0, 6, 7, 8]), (5, [2, 3]), (4, [0, 6, 7, 8, 13]), (3, [0, 5, 6, 7, 8]), (2, [0, 6, 7, 8, 9]), (1, [0, 6, 7, 8]), (0, [0])]⟩), (24, ⟨[(2, 14)], [], [(4, [4]), (3, [4]), (2, [5, 14]), (1, [0, 1, 5]), (0, [0, 1])]⟩), (25, ⟨[(5, 21)], [], [(10, [2, 3]), (9, [4, 7, 8, 9]), (8, [4, 7, 8, 9]), (7, [2, 3]), (6, [6, 7, 8, 9, 23]), (5, [4, 6, 7, 8, 9, 21]), (4, [4, 6, 7, 8, 9]), (3, [4, 7, 8, 9, 10]), (2, [4, 7, 8, 9]), (1, [0, 4]), (0, [0])]⟩), (26, ⟨[], [], [(7, [2]), (6, [5, 6, 7]), (5, [2]), (4, [5, 6, 7, 13]), (3, [4, 5, 6, 7]), (2, [5, 6, 7, 8]), (1, [5, 6, 7]), (0, [0])]⟩), (27, ⟨[(1, 22)], [], [(3, [4]), (2, [4]), (1, [0, 1, 22]), (0, [0, 1])]⟩), (28, ⟨[(5, 30)], [], [(9, [2, 3]), (4, [0, 4, 5]), (8, [0, 4, 5]), (7, [0, 4, 5, 36]), (6, [2, 3]), (5, [0, 4, 5, 30]), (3, [0, 4, 5, 9]), (2, [0, 4, 5]), (1, [0, 4]), (0, [0])]⟩), (29, ⟨[], [], [(1, [4]), (0, [0, 1])]⟩), (30, ⟨[], [], [(4, [4, 5, 6]), (3, [4, 5, 6]), (2, [0, 1, 7, 12]), (1, [0, 1, 7]), (0, [0, 1])]⟩), (31, ⟨[], [], [(3, [2]), (2, [2]), (1, [0, 4]), (0, [0])]⟩), (32, ⟨[], [8], [(27, [4]), (26, [1, 8, 63, 64, 65]), (25, [1, 8, 63, 64, 65]), (24, [1, 8, 10, 63, 64, 65]), (23, [1, 8, 10, 63, 64, 65]), (22, [1, 8, 63, 64, 65, 66]), (21, [1, 8, 63, 64, 65]), (20, [0, 1, 8]), (19, [0, 1, 8]), (18, [0, 1, 5, 8]), (17, [0, 1, 5, 39, 40, 41]), (16, [0, 1, 5, 39, 40, 41]), (15, [0, 1, 5, 7, 39, 40, 41]), (14, [0, 1, 5, 7, 39, 40, 41, 49]), (13, [0, 1, 5, 7, 39, 40, 41]), (12, [0, 1, 5, 39, 40, 41, 42]), (11, [0, 1, 5, 39, 40, 41]), (10, [0, 1, 5]), (9, [0, 1, 5]), (8, [0, 1, 5, 29]), (7, [0, 1, 5, 22]), (6, [0, 1, 5]), (3, [4]), (5, [4]), (4, [0, 1, 15]), (2, [0, 1, 12, 13]), (1, [0, 1, 12]), (0, [0, 1])]⟩), (33, ⟨[(2, 16), (8, 36), (21, 93), (30, 132)], [17], [(35, [4]), (29, [4]), (28, [4]), (27, [8, 12, 114]), (26, [8, 12]), (34, [4]), (33, [4]), (32, [8, 13, 139]), (31, [8, 13]), (30, [0, 1, 5, 6, 7, 8, 9, 10, 132]), (25, [0, 1, 5, 6, 7, 8, 9, 10, 107]), (24, [0, 1, 5, 6, 7, 8, 9, 10]), (23, [0, 1, 5, 6, 7, 8, 9, 10]), (22, [4]), (21, [0, 1, 5, 6, 7, 8, 9, 10, 93]), (20, [0, 1, 5, 6, 7, 8, 9, 10]), (19, [4]), (18, [0, 1, 5, 6, 7, 8, 9, 10, 11, 73]), (17, [0, 1, 5, 6, 7, 8, 9, 10, 11]), (16, [0, 1, 5, 6, 7, 8, 9, 10, 64]), (15, [0, 1, 5, 6, 7, 8, 9, 10, 59]), (14, [0, 1, 5, 6, 7, 8, 9, 10]), (13, [0, 1, 5, 6, 7, 8, 9]), (12, [0, 1, 5, 6, 7, 8]), (11, [0, 1, 5, 6, 7]), (10, [0, 1, 5, 6]), (3, [4]), (5, [4]), (7, [4]), (9, [4]), (8, [0, 1, 5, 36]), (6, [0, 1, 5, 31]), (4, [0, 1, 5, 24]), (2, [0, 1, 5, 16]), (1, [0, 1, 5]), (0, [0, 1])]⟩), (34, ⟨[], [2], [(4, []), (3, [0, 1, 21]), (2, [0, 1]), (1, [0, 1, 7]), (0, [0, 1])]⟩), (35, ⟨[], [], [(3, [4, 5]), (2, [1]), (1, [0, 1]), (0, [0, 1])]⟩), (36, ⟨[], [], [(1, [2]), (0, [0])]⟩), (37, ⟨[], [], [(1, [4]), (0, [0, 1])]⟩), (39, ⟨[], [], [(1, [2]), (0, [0])]⟩), (40, ⟨[(8, 39), (16, 77)], [], [(18, [4]), (17, [4]), (16, [0, 1, 5, 6, 7, 8, 10, 77]), (15, [0, 1, 5, 6, 7, 8, 10]), (14, [0, 1, 5, 6, 7, 8, 10]), (13, [0, 1, 5, 6, 7, 8, 10]), (12, [0, 1, 5, 6, 7, 8, 10]), (11, [0, 1, 5, 6, 7, 8, 10, 44]), (10, [0, 1, 5, 6, 7, 8, 10]), (9, [4]), (8, [0, 1, 5, 6, 7, 8, 39]), (6, [0, 1, 5, 6, 7, 8, 9]), (7, [0, 1, 5, 6, 7, 8, 9]), (5, [0, 1, 5, 6, 7, 8, 9, 20]), (4, [0, 1, 5, 6, 7, 8, 9]), (3, [0, 1, 5, 6, 7, 8]), (2, [0, 1, 5, 6, 7]), (1, [0, 1, 5, 6]), (0, [0, 1])]⟩), (41, ⟨[], [], [(1, []), (2, [19]), (0, [0, 6])]⟩), (42, ⟨[], [], [(2, []), (1, [0, 4]), (0, [0, 4])]⟩), (44, ⟨[], [], [(13, [2, 3]), (9, [4, 6, 7, 8]), (12, [4, 6, 7, 8]), (11, [4, 6, 7, 8]), (10, [4, 6, 7, 8, 30]), (8, [4, 6, 7, 8, 25]), (7, [4, 6, 7, 8]), (6, [0, 4, 6, 7]), (4, [0, 4, 5]), (5, [0, 4, 5]), (3, [0, 4, 5, 12]), (2, [0, 4, 5]), (1, [0, 4]), (0, [0])]⟩)]
/-- The functions, each with the tests of its regions and the shapes of its loops. -/
noncomputable def xd (tms : List (Nat × List (Nat × Nat × Tm))) (f : Nat) : Option XDesc :=
  match Ax.look fnList f with
  | some (c, nt, rs) => some (c, nt, rs, ⟨(Ax.look jList f).getD noJ, (Ax.look tms f).getD []⟩)
  | none => none

theorem xd_ok (tms : List (Nat × List (Nat × Nat × Tm))) : DXOk P gl tau (xd tms) := by
  intro f c nt res cx h J args H n R ha hp
  unfold xd at h
  split at h
  · rename_i c' nt' rs' hf
    cases h
    exact fnD_ok f c nt res hf J args H n R ha hp
  · cases h
end Go.Proofs.Ytnfgmffcnmifkaa
