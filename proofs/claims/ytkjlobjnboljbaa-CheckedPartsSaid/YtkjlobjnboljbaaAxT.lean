/-
  The types and the functions of this seat, for the small abstract machine.
-/
import Derived.Test.YtkjlobjnboljbaaAx27
import Derived.Test.YtkjlobjnboljbaaProg
import Derived.KernelRfl
namespace Go.Proofs.Ytkjlobjnboljbaa
open Go.Ax
set_option linter.unusedVariables false
set_option maxRecDepth 100000

def tyList : List (Nat × TI) := [(1, ⟨.func, 1, 8, [.nilFunc], []⟩),
  (2, ⟨.int .i64, 1, 8, [.int .i64 (.lit 0)], []⟩),
  (3, ⟨.int .i64, 1, 8, [.int .i64 (.lit 0)], []⟩),
  (4, ⟨.bool, 1, 1, [.bool false], []⟩),
  (5, ⟨.int .u8, 1, 1, [.int .u8 (.lit 0)], []⟩),
  (6, ⟨.int .u8, 1, 1, [.int .u8 (.lit 0)], []⟩),
  (7, ⟨.struct [(0, 2), (1, 3), (2, 4), (3, 6)], 4, 24, [.int .i64 (.lit 0), .int .i64 (.lit 0), .bool false, .int .u8 (.lit 0)], []⟩),
  (8, ⟨.struct [(0, 2), (1, 3), (2, 4), (3, 6)], 4, 24, [.int .i64 (.lit 0), .int .i64 (.lit 0), .bool false, .int .u8 (.lit 0)], []⟩),
  (9, ⟨.string, 1, 16, [.str (.lit [])], []⟩),
  (10, ⟨.string, 1, 16, [.str (.lit [])], []⟩),
  (11, ⟨.string, 1, 16, [.str (.lit [])], []⟩),
  (12, ⟨.int .u64, 1, 8, [.int .u64 (.lit 0)], []⟩),
  (13, ⟨.struct [(0, 9), (1, 12)], 2, 24, [.str (.lit []), .int .u64 (.lit 0)], []⟩),
  (14, ⟨.struct [(0, 9), (1, 12)], 2, 24, [.str (.lit []), .int .u64 (.lit 0)], []⟩),
  (15, ⟨.ptr 105, 1, 8, [.nilptr], []⟩),
  (16, ⟨.ptr 108, 1, 8, [.nilptr], []⟩),
  (17, ⟨.ptr 117, 1, 8, [.nilptr], []⟩),
  (18, ⟨.struct [(0, 17)], 1, 8, [.nilptr], []⟩),
  (19, ⟨.struct [(0, 17)], 1, 8, [.nilptr], []⟩),
  (20, ⟨.iface, 1, 16, [.nilIface], []⟩),
  (21, ⟨.int .i32, 1, 4, [.int .i32 (.lit 0)], []⟩),
  (22, ⟨.func, 1, 8, [.nilFunc], []⟩),
  (23, ⟨.array 2 22, 2, 16, [.nilFunc, .nilFunc], []⟩),
  (24, ⟨.slice 23, 1, 24, [.nil], []⟩),
  (26, ⟨.func, 1, 8, [.nilFunc], []⟩),
  (27, ⟨.func, 1, 8, [.nilFunc], []⟩),
  (28, ⟨.func, 1, 8, [.nilFunc], []⟩),
  (29, ⟨.slice 2, 1, 24, [.nil], []⟩),
  (30, ⟨.func, 1, 8, [.nilFunc], []⟩),
  (31, ⟨.func, 1, 8, [.nilFunc], []⟩),
  (32, ⟨.func, 1, 8, [.nilFunc], []⟩),
  (33, ⟨.func, 1, 8, [.nilFunc], []⟩),
  (34, ⟨.int .u64, 1, 8, [.int .u64 (.lit 0)], []⟩),
  (35, ⟨.int .u32, 1, 4, [.int .u32 (.lit 0)], []⟩),
  (36, ⟨.func, 1, 8, [.nilFunc], []⟩),
  (37, ⟨.slice 58, 1, 24, [.nil], []⟩),
  (38, ⟨.slice 62, 1, 24, [.nil], []⟩),
  (39, ⟨.slice 68, 1, 24, [.nil], []⟩),
  (40, ⟨.slice 9, 1, 24, [.nil], []⟩),
  (41, ⟨.struct [(0, 37), (1, 38), (2, 39), (3, 40)], 4, 96, [.nil, .nil, .nil, .nil], []⟩),
  (42, ⟨.struct [(0, 37), (1, 38), (2, 39), (3, 40)], 4, 96, [.nil, .nil, .nil, .nil], []⟩),
  (43, ⟨.func, 1, 8, [.nilFunc], []⟩),
  (44, ⟨.func, 1, 8, [.nilFunc], []⟩),
  (45, ⟨.int .i64, 1, 8, [.int .i64 (.lit 0)], []⟩),
  (47, ⟨.func, 1, 8, [.nilFunc], []⟩),
  (48, ⟨.func, 1, 8, [.nilFunc], []⟩),
  (49, ⟨.func, 1, 8, [.nilFunc], []⟩),
  (50, ⟨.func, 1, 8, [.nilFunc], []⟩),
  (51, ⟨.func, 1, 8, [.nilFunc], []⟩),
  (52, ⟨.func, 1, 8, [.nilFunc], []⟩),
  (53, ⟨.struct [(0, 3), (1, 3), (2, 3)], 3, 24, [.int .i64 (.lit 0), .int .i64 (.lit 0), .int .i64 (.lit 0)], []⟩),
  (54, ⟨.struct [(0, 3), (1, 3), (2, 3)], 3, 24, [.int .i64 (.lit 0), .int .i64 (.lit 0), .int .i64 (.lit 0)], [.int .i64, .int .i64, .int .i64]⟩),
  (55, ⟨.struct [(0, 2), (1, 3)], 2, 16, [.int .i64 (.lit 0), .int .i64 (.lit 0)], []⟩),
  (56, ⟨.struct [(0, 2), (1, 3)], 2, 16, [.int .i64 (.lit 0), .int .i64 (.lit 0)], [.int .i64, .int .i64]⟩),
  (57, ⟨.struct [(0, 9), (1, 3), (2, 3), (3, 3), (4, 54), (7, 56), (9, 2), (10, 9)], 11, 104, [.str (.lit []), .int .i64 (.lit 0), .int .i64 (.lit 0), .int .i64 (.lit 0), .int .i64 (.lit 0), .int .i64 (.lit 0), .int .i64 (.lit 0), .int .i64 (.lit 0), .int .i64 (.lit 0), .int .i64 (.lit 0), .str (.lit [])], []⟩),
  (58, ⟨.struct [(0, 9), (1, 3), (2, 3), (3, 3), (4, 54), (7, 56), (9, 2), (10, 9)], 11, 104, [.str (.lit []), .int .i64 (.lit 0), .int .i64 (.lit 0), .int .i64 (.lit 0), .int .i64 (.lit 0), .int .i64 (.lit 0), .int .i64 (.lit 0), .int .i64 (.lit 0), .int .i64 (.lit 0), .int .i64 (.lit 0), .str (.lit [])], [.string, .int .i64, .int .i64, .int .i64, .int .i64, .int .i64, .int .i64, .int .i64, .int .i64, .int .i64, .string]⟩),
  (59, ⟨.func, 1, 8, [.nilFunc], []⟩),
  (60, ⟨.slice 66, 1, 24, [.nil], []⟩),
  (61, ⟨.struct [(0, 9), (1, 60)], 2, 40, [.str (.lit []), .nil], []⟩),
  (62, ⟨.struct [(0, 9), (1, 60)], 2, 40, [.str (.lit []), .nil], []⟩),
  (63, ⟨.struct [(0, 4), (1, 3), (2, 3), (3, 54), (6, 56)], 8, 64, [.bool false, .int .i64 (.lit 0), .int .i64 (.lit 0), .int .i64 (.lit 0), .int .i64 (.lit 0), .int .i64 (.lit 0), .int .i64 (.lit 0), .int .i64 (.lit 0)], []⟩),
  (64, ⟨.struct [(0, 4), (1, 3), (2, 3), (3, 54), (6, 56)], 8, 64, [.bool false, .int .i64 (.lit 0), .int .i64 (.lit 0), .int .i64 (.lit 0), .int .i64 (.lit 0), .int .i64 (.lit 0), .int .i64 (.lit 0), .int .i64 (.lit 0)], [.bool, .int .i64, .int .i64, .int .i64, .int .i64, .int .i64, .int .i64, .int .i64]⟩),
  (65, ⟨.struct [(0, 2), (1, 3), (2, 2), (3, 9), (4, 9), (5, 64)], 13, 120, [.int .i64 (.lit 0), .int .i64 (.lit 0), .int .i64 (.lit 0), .str (.lit []), .str (.lit []), .bool false, .int .i64 (.lit 0), .int .i64 (.lit 0), .int .i64 (.lit 0), .int .i64 (.lit 0), .int .i64 (.lit 0), .int .i64 (.lit 0), .int .i64 (.lit 0)], []⟩),
  (66, ⟨.struct [(0, 2), (1, 3), (2, 2), (3, 9), (4, 9), (5, 64)], 13, 120, [.int .i64 (.lit 0), .int .i64 (.lit 0), .int .i64 (.lit 0), .str (.lit []), .str (.lit []), .bool false, .int .i64 (.lit 0), .int .i64 (.lit 0), .int .i64 (.lit 0), .int .i64 (.lit 0), .int .i64 (.lit 0), .int .i64 (.lit 0), .int .i64 (.lit 0)], [.int .i64, .int .i64, .int .i64, .string, .string, .bool, .int .i64, .int .i64, .int .i64, .int .i64, .int .i64, .int .i64, .int .i64]⟩),
  (67, ⟨.struct [(0, 9), (1, 9)], 2, 32, [.str (.lit []), .str (.lit [])], []⟩),
  (68, ⟨.struct [(0, 9), (1, 9)], 2, 32, [.str (.lit []), .str (.lit [])], [.string, .string]⟩),
  (69, ⟨.func, 1, 8, [.nilFunc], []⟩),
  (70, ⟨.func, 1, 8, [.nilFunc], []⟩),
  (71, ⟨.func, 1, 8, [.nilFunc], []⟩),
  (72, ⟨.slice 42, 1, 24, [.nil], []⟩),
  (73, ⟨.func, 1, 8, [.nilFunc], []⟩),
  (75, ⟨.func, 1, 8, [.nilFunc], []⟩),
  (76, ⟨.func, 1, 8, [.nilFunc], []⟩),
  (77, ⟨.func, 1, 8, [.nilFunc], []⟩),
  (78, ⟨.struct [(0, 22), (1, 2), (2, 2), (3, 2), (4, 4)], 5, 40, [.nilFunc, .int .i64 (.lit 0), .int .i64 (.lit 0), .int .i64 (.lit 0), .bool false], []⟩),
  (79, ⟨.slice 78, 1, 24, [.nil], []⟩),
  (80, ⟨.func, 1, 8, [.nilFunc], []⟩),
  (81, ⟨.func, 1, 8, [.nilFunc], []⟩),
  (82, ⟨.func, 1, 8, [.nilFunc], []⟩),
  (83, ⟨.func, 1, 8, [.nilFunc], []⟩),
  (84, ⟨.func, 1, 8, [.nilFunc], []⟩),
  (85, ⟨.func, 1, 8, [.nilFunc], []⟩),
  (86, ⟨.func, 1, 8, [.nilFunc], []⟩),
  (87, ⟨.func, 1, 8, [.nilFunc], []⟩),
  (88, ⟨.func, 1, 8, [.nilFunc], []⟩),
  (89, ⟨.func, 1, 8, [.nilFunc], []⟩),
  (90, ⟨.func, 1, 8, [.nilFunc], []⟩),
  (91, ⟨.func, 1, 8, [.nilFunc], []⟩),
  (92, ⟨.func, 1, 8, [.nilFunc], []⟩),
  (93, ⟨.func, 1, 8, [.nilFunc], []⟩),
  (94, ⟨.func, 1, 8, [.nilFunc], []⟩),
  (95, ⟨.func, 1, 8, [.nilFunc], []⟩),
  (96, ⟨.func, 1, 8, [.nilFunc], []⟩),
  (97, ⟨.int .u64, 1, 8, [.int .u64 (.lit 0)], []⟩),
  (98, ⟨.func, 1, 8, [.nilFunc], []⟩),
  (99, ⟨.func, 1, 8, [.nilFunc], []⟩),
  (100, ⟨.func, 1, 8, [.nilFunc], []⟩),
  (101, ⟨.func, 1, 8, [.nilFunc], []⟩),
  (102, ⟨.func, 1, 8, [.nilFunc], []⟩),
  (103, ⟨.func, 1, 8, [.nilFunc], []⟩),
  (104, ⟨.struct [(0, 17), (1, 17), (2, 17), (3, 9)], 4, 40, [.nilptr, .nilptr, .nilptr, .str (.lit [])], []⟩),
  (105, ⟨.struct [(0, 17), (1, 17), (2, 17), (3, 9)], 4, 40, [.nilptr, .nilptr, .nilptr, .str (.lit [])], []⟩),
  (106, ⟨.array 0 16, 0, 0, [], []⟩),
  (107, ⟨.struct [(0, 106)], 0, 0, [], []⟩),
  (108, ⟨.struct [(0, 106)], 0, 0, [], []⟩),
  (109, ⟨.func, 1, 8, [.nilFunc], []⟩),
  (110, ⟨.int .u8, 1, 1, [.int .u8 (.lit 0)], []⟩),
  (111, ⟨.int .u8, 1, 1, [.int .u8 (.lit 0)], []⟩),
  (112, ⟨.func, 1, 8, [.nilFunc], []⟩),
  (113, ⟨.ptr 5, 1, 8, [.nilptr], []⟩),
  (114, ⟨.int .i32, 1, 4, [.int .i32 (.lit 0)], []⟩),
  (115, ⟨.int .i32, 1, 4, [.int .i32 (.lit 0)], []⟩),
  (116, ⟨.struct [(0, 12), (1, 12), (2, 35), (3, 110), (4, 5), (5, 5), (6, 111), (7, 112), (8, 113), (9, 114), (10, 115)], 11, 48, [.int .u64 (.lit 0), .int .u64 (.lit 0), .int .u32 (.lit 0), .int .u8 (.lit 0), .int .u8 (.lit 0), .int .u8 (.lit 0), .int .u8 (.lit 0), .nilFunc, .nilptr, .int .i32 (.lit 0), .int .i32 (.lit 0)], []⟩),
  (117, ⟨.struct [(0, 12), (1, 12), (2, 35), (3, 110), (4, 5), (5, 5), (6, 111), (7, 112), (8, 113), (9, 114), (10, 115)], 11, 48, [.int .u64 (.lit 0), .int .u64 (.lit 0), .int .u32 (.lit 0), .int .u8 (.lit 0), .int .u8 (.lit 0), .int .u8 (.lit 0), .int .u8 (.lit 0), .nilFunc, .nilptr, .int .i32 (.lit 0), .int .i32 (.lit 0)], []⟩)]

theorem tyList_ok : ∀ p ∈ tyList, TIok Try.prog p.1 p.2 :=
  (tys_cons (.of (i := Try.t1) (by kernel_rfl) Try.underlying1 rfl rfl rfl ⟨_, _, _, rfl⟩ (fun _ e => by cases e) rfl rfl (fun h => absurd rfl h)) 
  (tys_cons (.of (i := Try.t2) (by kernel_rfl) Try.underlying2 rfl rfl rfl rfl (fun _ e => by cases e) rfl rfl (fun h => absurd rfl h)) 
  (tys_cons (.of (i := Try.t3) (by kernel_rfl) Try.underlying3 rfl rfl rfl rfl (fun _ e => by cases e) rfl rfl (fun h => absurd rfl h)) 
  (tys_cons (.of (i := Try.t4) (by kernel_rfl) Try.underlying4 rfl rfl rfl rfl (fun _ e => by cases e) rfl rfl (fun h => absurd rfl h)) 
  (tys_cons (.of (i := Try.t5) (by kernel_rfl) Try.underlying5 rfl rfl rfl rfl (fun _ e => by cases e) rfl rfl (fun h => absurd rfl h)) 
  (tys_cons (.of (i := Try.t6) (by kernel_rfl) Try.underlying6 rfl rfl rfl rfl (fun _ e => by cases e) rfl rfl (fun h => absurd rfl h)) 
  (tys_cons (.of (i := Try.t7) (by kernel_rfl) Try.underlying7 rfl rfl rfl ⟨_, rfl, rfl⟩ (fun _ e => by cases e) rfl rfl (fun h => absurd rfl h)) 
  (tys_cons (.of (i := Try.t8) (by kernel_rfl) Try.underlying8 rfl rfl rfl ⟨_, rfl, rfl⟩ (fun _ e => by cases e) rfl rfl (fun h => absurd rfl h)) 
  (tys_cons (.of (i := Try.t9) (by kernel_rfl) Try.underlying9 rfl rfl rfl rfl (fun _ e => by cases e) rfl rfl (fun h => absurd rfl h)) 
  (tys_cons (.of (i := Try.t10) (by kernel_rfl) Try.underlying10 rfl rfl rfl rfl (fun _ e => by cases e) rfl rfl (fun h => absurd rfl h)) 
  (tys_cons (.of (i := Try.t11) (by kernel_rfl) Try.underlying11 rfl rfl rfl rfl (fun _ e => by cases e) rfl rfl (fun h => absurd rfl h)) 
  (tys_cons (.of (i := Try.t12) (by kernel_rfl) Try.underlying12 rfl rfl rfl rfl (fun _ e => by cases e) rfl rfl (fun h => absurd rfl h)) 
  (tys_cons (.of (i := Try.t13) (by kernel_rfl) Try.underlying13 rfl rfl rfl ⟨_, rfl, rfl⟩ (fun _ e => by cases e) rfl rfl (fun h => absurd rfl h)) 
  (tys_cons (.of (i := Try.t14) (by kernel_rfl) Try.underlying14 rfl rfl rfl ⟨_, rfl, rfl⟩ (fun _ e => by cases e) rfl rfl (fun h => absurd rfl h)) 
  (tys_cons (.of (i := Try.t15) (by kernel_rfl) Try.underlying15 rfl rfl rfl rfl (fun _ e => by cases e) rfl rfl (fun h => absurd rfl h)) 
  (tys_cons (.of (i := Try.t16) (by kernel_rfl) Try.underlying16 rfl rfl rfl rfl (fun _ e => by cases e) rfl rfl (fun h => absurd rfl h)) 
  (tys_cons (.of (i := Try.t17) (by kernel_rfl) Try.underlying17 rfl rfl rfl rfl (fun _ e => by cases e) rfl rfl (fun h => absurd rfl h)) 
  (tys_cons (.of (i := Try.t18) (by kernel_rfl) Try.underlying18 rfl rfl rfl ⟨_, rfl, rfl⟩ (fun _ e => by cases e) rfl rfl (fun h => absurd rfl h)) 
  (tys_cons (.of (i := Try.t19) (by kernel_rfl) Try.underlying19 rfl rfl rfl ⟨_, rfl, rfl⟩ (fun _ e => by cases e) rfl rfl (fun h => absurd rfl h)) 
  (tys_cons (.of (i := Try.t20) (by kernel_rfl) Try.underlying20 rfl rfl rfl ⟨_, rfl⟩ (fun _ _ => rfl) rfl rfl (fun h => absurd rfl h)) 
  (tys_cons (.of (i := Try.t21) (by kernel_rfl) Try.underlying21 rfl rfl rfl rfl (fun _ e => by cases e) rfl rfl (fun h => absurd rfl h)) 
  (tys_cons (.of (i := Try.t22) (by kernel_rfl) Try.underlying22 rfl rfl rfl ⟨_, _, _, rfl⟩ (fun _ e => by cases e) rfl rfl (fun h => absurd rfl h)) 
  (tys_cons (.of (i := Try.t23) (by kernel_rfl) Try.underlying23 rfl rfl rfl rfl (fun _ e => by cases e) rfl rfl (fun h => absurd rfl h)) 
  (tys_cons (.of (i := Try.t24) (by kernel_rfl) Try.underlying24 rfl rfl rfl rfl (fun _ e => by cases e) rfl rfl (fun h => absurd rfl h)) 
  (tys_cons (.of (i := Try.t26) (by kernel_rfl) Try.underlying26 rfl rfl rfl ⟨_, _, _, rfl⟩ (fun _ e => by cases e) rfl rfl (fun h => absurd rfl h)) 
  (tys_cons (.of (i := Try.t27) (by kernel_rfl) Try.underlying27 rfl rfl rfl ⟨_, _, _, rfl⟩ (fun _ e => by cases e) rfl rfl (fun h => absurd rfl h)) 
  (tys_cons (.of (i := Try.t28) (by kernel_rfl) Try.underlying28 rfl rfl rfl ⟨_, _, _, rfl⟩ (fun _ e => by cases e) rfl rfl (fun h => absurd rfl h)) 
  (tys_cons (.of (i := Try.t29) (by kernel_rfl) Try.underlying29 rfl rfl rfl rfl (fun _ e => by cases e) rfl rfl (fun h => absurd rfl h)) 
  (tys_cons (.of (i := Try.t30) (by kernel_rfl) Try.underlying30 rfl rfl rfl ⟨_, _, _, rfl⟩ (fun _ e => by cases e) rfl rfl (fun h => absurd rfl h)) 
  (tys_cons (.of (i := Try.t31) (by kernel_rfl) Try.underlying31 rfl rfl rfl ⟨_, _, _, rfl⟩ (fun _ e => by cases e) rfl rfl (fun h => absurd rfl h)) 
  (tys_cons (.of (i := Try.t32) (by kernel_rfl) Try.underlying32 rfl rfl rfl ⟨_, _, _, rfl⟩ (fun _ e => by cases e) rfl rfl (fun h => absurd rfl h)) 
  (tys_cons (.of (i := Try.t33) (by kernel_rfl) Try.underlying33 rfl rfl rfl ⟨_, _, _, rfl⟩ (fun _ e => by cases e) rfl rfl (fun h => absurd rfl h)) 
  (tys_cons (.of (i := Try.t34) (by kernel_rfl) Try.underlying34 rfl rfl rfl rfl (fun _ e => by cases e) rfl rfl (fun h => absurd rfl h)) 
  (tys_cons (.of (i := Try.t35) (by kernel_rfl) Try.underlying35 rfl rfl rfl rfl (fun _ e => by cases e) rfl rfl (fun h => absurd rfl h)) 
  (tys_cons (.of (i := Try.t36) (by kernel_rfl) Try.underlying36 rfl rfl rfl ⟨_, _, _, rfl⟩ (fun _ e => by cases e) rfl rfl (fun h => absurd rfl h)) 
  (tys_cons (.of (i := Try.t37) (by kernel_rfl) Try.underlying37 rfl rfl rfl rfl (fun _ e => by cases e) rfl rfl (fun h => absurd rfl h)) 
  (tys_cons (.of (i := Try.t38) (by kernel_rfl) Try.underlying38 rfl rfl rfl rfl (fun _ e => by cases e) rfl rfl (fun h => absurd rfl h)) 
  (tys_cons (.of (i := Try.t39) (by kernel_rfl) Try.underlying39 rfl rfl rfl rfl (fun _ e => by cases e) rfl rfl (fun h => absurd rfl h)) 
  (tys_cons (.of (i := Try.t40) (by kernel_rfl) Try.underlying40 rfl rfl rfl rfl (fun _ e => by cases e) rfl rfl (fun h => absurd rfl h)) 
  (tys_cons (.of (i := Try.t41) (by kernel_rfl) Try.underlying41 rfl rfl rfl ⟨_, rfl, rfl⟩ (fun _ e => by cases e) rfl rfl (fun h => absurd rfl h)) 
  (tys_cons (.of (i := Try.t42) (by kernel_rfl) Try.underlying42 rfl rfl rfl ⟨_, rfl, rfl⟩ (fun _ e => by cases e) rfl rfl (fun h => absurd rfl h)) 
  (tys_cons (.of (i := Try.t43) (by kernel_rfl) Try.underlying43 rfl rfl rfl ⟨_, _, _, rfl⟩ (fun _ e => by cases e) rfl rfl (fun h => absurd rfl h)) 
  (tys_cons (.of (i := Try.t44) (by kernel_rfl) Try.underlying44 rfl rfl rfl ⟨_, _, _, rfl⟩ (fun _ e => by cases e) rfl rfl (fun h => absurd rfl h)) 
  (tys_cons (.of (i := Try.t45) (by kernel_rfl) Try.underlying45 rfl rfl rfl rfl (fun _ e => by cases e) rfl rfl (fun h => absurd rfl h)) 
  (tys_cons (.of (i := Try.t47) (by kernel_rfl) Try.underlying47 rfl rfl rfl ⟨_, _, _, rfl⟩ (fun _ e => by cases e) rfl rfl (fun h => absurd rfl h)) 
  (tys_cons (.of (i := Try.t48) (by kernel_rfl) Try.underlying48 rfl rfl rfl ⟨_, _, _, rfl⟩ (fun _ e => by cases e) rfl rfl (fun h => absurd rfl h)) 
  (tys_cons (.of (i := Try.t49) (by kernel_rfl) Try.underlying49 rfl rfl rfl ⟨_, _, _, rfl⟩ (fun _ e => by cases e) rfl rfl (fun h => absurd rfl h)) 
  (tys_cons (.of (i := Try.t50) (by kernel_rfl) Try.underlying50 rfl rfl rfl ⟨_, _, _, rfl⟩ (fun _ e => by cases e) rfl rfl (fun h => absurd rfl h)) 
  (tys_cons (.of (i := Try.t51) (by kernel_rfl) Try.underlying51 rfl rfl rfl ⟨_, _, _, rfl⟩ (fun _ e => by cases e) rfl rfl (fun h => absurd rfl h)) 
  (tys_cons (.of (i := Try.t52) (by kernel_rfl) Try.underlying52 rfl rfl rfl ⟨_, _, _, rfl⟩ (fun _ e => by cases e) rfl rfl (fun h => absurd rfl h)) 
  (tys_cons (.of (i := Try.t53) (by kernel_rfl) Try.underlying53 rfl rfl rfl ⟨_, rfl, rfl⟩ (fun _ e => by cases e) rfl rfl (fun h => absurd rfl h)) 
  (tys_cons (.of (i := Try.t54) (by kernel_rfl) Try.underlying54 rfl rfl rfl ⟨_, rfl, rfl⟩ (fun _ e => by cases e) rfl rfl (fun _ => ⟨⟨2, by decide, (.struct (by decide) Try.underlying54 (by kernel_rfl) (.cons' [.int .i64] [.int .i64, .int .i64] (by kernel_rfl) rfl (.int Try.underlying3 Try.isAgg3) (.cons' [.int .i64] [.int .i64] (by kernel_rfl) rfl (.int Try.underlying3 Try.isAgg3) (.cons' [.int .i64] [] (by kernel_rfl) rfl (.int Try.underlying3 Try.isAgg3) .nil rfl) rfl) rfl))⟩, by kernel_rfl⟩)) 
  (tys_cons (.of (i := Try.t55) (by kernel_rfl) Try.underlying55 rfl rfl rfl ⟨_, rfl, rfl⟩ (fun _ e => by cases e) rfl rfl (fun h => absurd rfl h)) 
  (tys_cons (.of (i := Try.t56) (by kernel_rfl) Try.underlying56 rfl rfl rfl ⟨_, rfl, rfl⟩ (fun _ e => by cases e) rfl rfl (fun _ => ⟨⟨2, by decide, (.struct (by decide) Try.underlying56 (by kernel_rfl) (.cons' [.int .i64] [.int .i64] (by kernel_rfl) rfl (.int Try.underlying2 Try.isAgg2) (.cons' [.int .i64] [] (by kernel_rfl) rfl (.int Try.underlying3 Try.isAgg3) .nil rfl) rfl))⟩, by kernel_rfl⟩)) 
  (tys_cons (.of (i := Try.t57) (by kernel_rfl) Try.underlying57 rfl rfl rfl ⟨_, rfl, rfl⟩ (fun _ e => by cases e) rfl rfl (fun h => absurd rfl h)) 
  (tys_cons (.of (i := Try.t58) (by kernel_rfl) Try.underlying58 rfl rfl rfl ⟨_, rfl, rfl⟩ (fun _ e => by cases e) rfl rfl (fun _ => ⟨⟨3, by decide, (.struct (by decide) Try.underlying58 (by kernel_rfl) (.cons' [.string] [.int .i64, .int .i64, .int .i64, .int .i64, .int .i64, .int .i64, .int .i64, .int .i64, .int .i64, .string] (by kernel_rfl) rfl (.string Try.underlying9 Try.isAgg9) (.cons' [.int .i64] [.int .i64, .int .i64, .int .i64, .int .i64, .int .i64, .int .i64, .int .i64, .int .i64, .string] (by kernel_rfl) rfl (.int Try.underlying3 Try.isAgg3) (.cons' [.int .i64] [.int .i64, .int .i64, .int .i64, .int .i64, .int .i64, .int .i64, .int .i64, .string] (by kernel_rfl) rfl (.int Try.underlying3 Try.isAgg3) (.cons' [.int .i64] [.int .i64, .int .i64, .int .i64, .int .i64, .int .i64, .int .i64, .string] (by kernel_rfl) rfl (.int Try.underlying3 Try.isAgg3) (.cons' [.int .i64, .int .i64, .int .i64] [.int .i64, .int .i64, .int .i64, .string] (by kernel_rfl) rfl (.agg (.struct (by decide) Try.underlying54 (by kernel_rfl) (.cons' [.int .i64] [.int .i64, .int .i64] (by kernel_rfl) rfl (.int Try.underlying3 Try.isAgg3) (.cons' [.int .i64] [.int .i64] (by kernel_rfl) rfl (.int Try.underlying3 Try.isAgg3) (.cons' [.int .i64] [] (by kernel_rfl) rfl (.int Try.underlying3 Try.isAgg3) .nil rfl) rfl) rfl)) Try.isAgg54 Try.sizeOf54) (.cons' [.int .i64, .int .i64] [.int .i64, .string] (by kernel_rfl) rfl (.agg (.struct (by decide) Try.underlying56 (by kernel_rfl) (.cons' [.int .i64] [.int .i64] (by kernel_rfl) rfl (.int Try.underlying2 Try.isAgg2) (.cons' [.int .i64] [] (by kernel_rfl) rfl (.int Try.underlying3 Try.isAgg3) .nil rfl) rfl)) Try.isAgg56 Try.sizeOf56) (.cons' [.int .i64] [.string] (by kernel_rfl) rfl (.int Try.underlying2 Try.isAgg2) (.cons' [.string] [] (by kernel_rfl) rfl (.string Try.underlying9 Try.isAgg9) .nil rfl) rfl) rfl) rfl) rfl) rfl) rfl) rfl))⟩, by kernel_rfl⟩)) 
  (tys_cons (.of (i := Try.t59) (by kernel_rfl) Try.underlying59 rfl rfl rfl ⟨_, _, _, rfl⟩ (fun _ e => by cases e) rfl rfl (fun h => absurd rfl h)) 
  (tys_cons (.of (i := Try.t60) (by kernel_rfl) Try.underlying60 rfl rfl rfl rfl (fun _ e => by cases e) rfl rfl (fun h => absurd rfl h)) 
  (tys_cons (.of (i := Try.t61) (by kernel_rfl) Try.underlying61 rfl rfl rfl ⟨_, rfl, rfl⟩ (fun _ e => by cases e) rfl rfl (fun h => absurd rfl h)) 
  (tys_cons (.of (i := Try.t62) (by kernel_rfl) Try.underlying62 rfl rfl rfl ⟨_, rfl, rfl⟩ (fun _ e => by cases e) rfl rfl (fun h => absurd rfl h)) 
  (tys_cons (.of (i := Try.t63) (by kernel_rfl) Try.underlying63 rfl rfl rfl ⟨_, rfl, rfl⟩ (fun _ e => by cases e) rfl rfl (fun h => absurd rfl h)) 
  (tys_cons (.of (i := Try.t64) (by kernel_rfl) Try.underlying64 rfl rfl rfl ⟨_, rfl, rfl⟩ (fun _ e => by cases e) rfl rfl (fun _ => ⟨⟨3, by decide, (.struct (by decide) Try.underlying64 (by kernel_rfl) (.cons' [.bool] [.int .i64, .int .i64, .int .i64, .int .i64, .int .i64, .int .i64, .int .i64] (by kernel_rfl) rfl (.bool Try.underlying4 Try.isAgg4) (.cons' [.int .i64] [.int .i64, .int .i64, .int .i64, .int .i64, .int .i64, .int .i64] (by kernel_rfl) rfl (.int Try.underlying3 Try.isAgg3) (.cons' [.int .i64] [.int .i64, .int .i64, .int .i64, .int .i64, .int .i64] (by kernel_rfl) rfl (.int Try.underlying3 Try.isAgg3) (.cons' [.int .i64, .int .i64, .int .i64] [.int .i64, .int .i64] (by kernel_rfl) rfl (.agg (.struct (by decide) Try.underlying54 (by kernel_rfl) (.cons' [.int .i64] [.int .i64, .int .i64] (by kernel_rfl) rfl (.int Try.underlying3 Try.isAgg3) (.cons' [.int .i64] [.int .i64] (by kernel_rfl) rfl (.int Try.underlying3 Try.isAgg3) (.cons' [.int .i64] [] (by kernel_rfl) rfl (.int Try.underlying3 Try.isAgg3) .nil rfl) rfl) rfl)) Try.isAgg54 Try.sizeOf54) (.cons' [.int .i64, .int .i64] [] (by kernel_rfl) rfl (.agg (.struct (by decide) Try.underlying56 (by kernel_rfl) (.cons' [.int .i64] [.int .i64] (by kernel_rfl) rfl (.int Try.underlying2 Try.isAgg2) (.cons' [.int .i64] [] (by kernel_rfl) rfl (.int Try.underlying3 Try.isAgg3) .nil rfl) rfl)) Try.isAgg56 Try.sizeOf56) .nil rfl) rfl) rfl) rfl) rfl))⟩, by kernel_rfl⟩)) 
  (tys_cons (.of (i := Try.t65) (by kernel_rfl) Try.underlying65 rfl rfl rfl ⟨_, rfl, rfl⟩ (fun _ e => by cases e) rfl rfl (fun h => absurd rfl h)) 
  (tys_cons (.of (i := Try.t66) (by kernel_rfl) Try.underlying66 rfl rfl rfl ⟨_, rfl, rfl⟩ (fun _ e => by cases e) rfl rfl (fun _ => ⟨⟨4, by decide, (.struct (by decide) Try.underlying66 (by kernel_rfl) (.cons' [.int .i64] [.int .i64, .int .i64, .string, .string, .bool, .int .i64, .int .i64, .int .i64, .int .i64, .int .i64, .int .i64, .int .i64] (by kernel_rfl) rfl (.int Try.underlying2 Try.isAgg2) (.cons' [.int .i64] [.int .i64, .string, .string, .bool, .int .i64, .int .i64, .int .i64, .int .i64, .int .i64, .int .i64, .int .i64] (by kernel_rfl) rfl (.int Try.underlying3 Try.isAgg3) (.cons' [.int .i64] [.string, .string, .bool, .int .i64, .int .i64, .int .i64, .int .i64, .int .i64, .int .i64, .int .i64] (by kernel_rfl) rfl (.int Try.underlying2 Try.isAgg2) (.cons' [.string] [.string, .bool, .int .i64, .int .i64, .int .i64, .int .i64, .int .i64, .int .i64, .int .i64] (by kernel_rfl) rfl (.string Try.underlying9 Try.isAgg9) (.cons' [.string] [.bool, .int .i64, .int .i64, .int .i64, .int .i64, .int .i64, .int .i64, .int .i64] (by kernel_rfl) rfl (.string Try.underlying9 Try.isAgg9) (.cons' [.bool, .int .i64, .int .i64, .int .i64, .int .i64, .int .i64, .int .i64, .int .i64] [] (by kernel_rfl) rfl (.agg (.struct (by decide) Try.underlying64 (by kernel_rfl) (.cons' [.bool] [.int .i64, .int .i64, .int .i64, .int .i64, .int .i64, .int .i64, .int .i64] (by kernel_rfl) rfl (.bool Try.underlying4 Try.isAgg4) (.cons' [.int .i64] [.int .i64, .int .i64, .int .i64, .int .i64, .int .i64, .int .i64] (by kernel_rfl) rfl (.int Try.underlying3 Try.isAgg3) (.cons' [.int .i64] [.int .i64, .int .i64, .int .i64, .int .i64, .int .i64] (by kernel_rfl) rfl (.int Try.underlying3 Try.isAgg3) (.cons' [.int .i64, .int .i64, .int .i64] [.int .i64, .int .i64] (by kernel_rfl) rfl (.agg (.struct (by decide) Try.underlying54 (by kernel_rfl) (.cons' [.int .i64] [.int .i64, .int .i64] (by kernel_rfl) rfl (.int Try.underlying3 Try.isAgg3) (.cons' [.int .i64] [.int .i64] (by kernel_rfl) rfl (.int Try.underlying3 Try.isAgg3) (.cons' [.int .i64] [] (by kernel_rfl) rfl (.int Try.underlying3 Try.isAgg3) .nil rfl) rfl) rfl)) Try.isAgg54 Try.sizeOf54) (.cons' [.int .i64, .int .i64] [] (by kernel_rfl) rfl (.agg (.struct (by decide) Try.underlying56 (by kernel_rfl) (.cons' [.int .i64] [.int .i64] (by kernel_rfl) rfl (.int Try.underlying2 Try.isAgg2) (.cons' [.int .i64] [] (by kernel_rfl) rfl (.int Try.underlying3 Try.isAgg3) .nil rfl) rfl)) Try.isAgg56 Try.sizeOf56) .nil rfl) rfl) rfl) rfl) rfl)) Try.isAgg64 Try.sizeOf64) .nil rfl) rfl) rfl) rfl) rfl) rfl))⟩, by kernel_rfl⟩)) 
  (tys_cons (.of (i := Try.t67) (by kernel_rfl) Try.underlying67 rfl rfl rfl ⟨_, rfl, rfl⟩ (fun _ e => by cases e) rfl rfl (fun h => absurd rfl h)) 
  (tys_cons (.of (i := Try.t68) (by kernel_rfl) Try.underlying68 rfl rfl rfl ⟨_, rfl, rfl⟩ (fun _ e => by cases e) rfl rfl (fun _ => ⟨⟨2, by decide, (.struct (by decide) Try.underlying68 (by kernel_rfl) (.cons' [.string] [.string] (by kernel_rfl) rfl (.string Try.underlying9 Try.isAgg9) (.cons' [.string] [] (by kernel_rfl) rfl (.string Try.underlying9 Try.isAgg9) .nil rfl) rfl))⟩, by kernel_rfl⟩)) 
  (tys_cons (.of (i := Try.t69) (by kernel_rfl) Try.underlying69 rfl rfl rfl ⟨_, _, _, rfl⟩ (fun _ e => by cases e) rfl rfl (fun h => absurd rfl h)) 
  (tys_cons (.of (i := Try.t70) (by kernel_rfl) Try.underlying70 rfl rfl rfl ⟨_, _, _, rfl⟩ (fun _ e => by cases e) rfl rfl (fun h => absurd rfl h)) 
  (tys_cons (.of (i := Try.t71) (by kernel_rfl) Try.underlying71 rfl rfl rfl ⟨_, _, _, rfl⟩ (fun _ e => by cases e) rfl rfl (fun h => absurd rfl h)) 
  (tys_cons (.of (i := Try.t72) (by kernel_rfl) Try.underlying72 rfl rfl rfl rfl (fun _ e => by cases e) rfl rfl (fun h => absurd rfl h)) 
  (tys_cons (.of (i := Try.t73) (by kernel_rfl) Try.underlying73 rfl rfl rfl ⟨_, _, _, rfl⟩ (fun _ e => by cases e) rfl rfl (fun h => absurd rfl h)) 
  (tys_cons (.of (i := Try.t75) (by kernel_rfl) Try.underlying75 rfl rfl rfl ⟨_, _, _, rfl⟩ (fun _ e => by cases e) rfl rfl (fun h => absurd rfl h)) 
  (tys_cons (.of (i := Try.t76) (by kernel_rfl) Try.underlying76 rfl rfl rfl ⟨_, _, _, rfl⟩ (fun _ e => by cases e) rfl rfl (fun h => absurd rfl h)) 
  (tys_cons (.of (i := Try.t77) (by kernel_rfl) Try.underlying77 rfl rfl rfl ⟨_, _, _, rfl⟩ (fun _ e => by cases e) rfl rfl (fun h => absurd rfl h)) 
  (tys_cons (.of (i := Try.t78) (by kernel_rfl) Try.underlying78 rfl rfl rfl ⟨_, rfl, rfl⟩ (fun _ e => by cases e) rfl rfl (fun h => absurd rfl h)) 
  (tys_cons (.of (i := Try.t79) (by kernel_rfl) Try.underlying79 rfl rfl rfl rfl (fun _ e => by cases e) rfl rfl (fun h => absurd rfl h)) 
  (tys_cons (.of (i := Try.t80) (by kernel_rfl) Try.underlying80 rfl rfl rfl ⟨_, _, _, rfl⟩ (fun _ e => by cases e) rfl rfl (fun h => absurd rfl h)) 
  (tys_cons (.of (i := Try.t81) (by kernel_rfl) Try.underlying81 rfl rfl rfl ⟨_, _, _, rfl⟩ (fun _ e => by cases e) rfl rfl (fun h => absurd rfl h)) 
  (tys_cons (.of (i := Try.t82) (by kernel_rfl) Try.underlying82 rfl rfl rfl ⟨_, _, _, rfl⟩ (fun _ e => by cases e) rfl rfl (fun h => absurd rfl h)) 
  (tys_cons (.of (i := Try.t83) (by kernel_rfl) Try.underlying83 rfl rfl rfl ⟨_, _, _, rfl⟩ (fun _ e => by cases e) rfl rfl (fun h => absurd rfl h)) 
  (tys_cons (.of (i := Try.t84) (by kernel_rfl) Try.underlying84 rfl rfl rfl ⟨_, _, _, rfl⟩ (fun _ e => by cases e) rfl rfl (fun h => absurd rfl h)) 
  (tys_cons (.of (i := Try.t85) (by kernel_rfl) Try.underlying85 rfl rfl rfl ⟨_, _, _, rfl⟩ (fun _ e => by cases e) rfl rfl (fun h => absurd rfl h)) 
  (tys_cons (.of (i := Try.t86) (by kernel_rfl) Try.underlying86 rfl rfl rfl ⟨_, _, _, rfl⟩ (fun _ e => by cases e) rfl rfl (fun h => absurd rfl h)) 
  (tys_cons (.of (i := Try.t87) (by kernel_rfl) Try.underlying87 rfl rfl rfl ⟨_, _, _, rfl⟩ (fun _ e => by cases e) rfl rfl (fun h => absurd rfl h)) 
  (tys_cons (.of (i := Try.t88) (by kernel_rfl) Try.underlying88 rfl rfl rfl ⟨_, _, _, rfl⟩ (fun _ e => by cases e) rfl rfl (fun h => absurd rfl h)) 
  (tys_cons (.of (i := Try.t89) (by kernel_rfl) Try.underlying89 rfl rfl rfl ⟨_, _, _, rfl⟩ (fun _ e => by cases e) rfl rfl (fun h => absurd rfl h)) 
  (tys_cons (.of (i := Try.t90) (by kernel_rfl) Try.underlying90 rfl rfl rfl ⟨_, _, _, rfl⟩ (fun _ e => by cases e) rfl rfl (fun h => absurd rfl h)) 
  (tys_cons (.of (i := Try.t91) (by kernel_rfl) Try.underlying91 rfl rfl rfl ⟨_, _, _, rfl⟩ (fun _ e => by cases e) rfl rfl (fun h => absurd rfl h)) 
  (tys_cons (.of (i := Try.t92) (by kernel_rfl) Try.underlying92 rfl rfl rfl ⟨_, _, _, rfl⟩ (fun _ e => by cases e) rfl rfl (fun h => absurd rfl h)) 
  (tys_cons (.of (i := Try.t93) (by kernel_rfl) Try.underlying93 rfl rfl rfl ⟨_, _, _, rfl⟩ (fun _ e => by cases e) rfl rfl (fun h => absurd rfl h)) 
  (tys_cons (.of (i := Try.t94) (by kernel_rfl) Try.underlying94 rfl rfl rfl ⟨_, _, _, rfl⟩ (fun _ e => by cases e) rfl rfl (fun h => absurd rfl h)) 
  (tys_cons (.of (i := Try.t95) (by kernel_rfl) Try.underlying95 rfl rfl rfl ⟨_, _, _, rfl⟩ (fun _ e => by cases e) rfl rfl (fun h => absurd rfl h)) 
  (tys_cons (.of (i := Try.t96) (by kernel_rfl) Try.underlying96 rfl rfl rfl ⟨_, _, _, rfl⟩ (fun _ e => by cases e) rfl rfl (fun h => absurd rfl h)) 
  (tys_cons (.of (i := Try.t97) (by kernel_rfl) Try.underlying97 rfl rfl rfl rfl (fun _ e => by cases e) rfl rfl (fun h => absurd rfl h)) 
  (tys_cons (.of (i := Try.t98) (by kernel_rfl) Try.underlying98 rfl rfl rfl ⟨_, _, _, rfl⟩ (fun _ e => by cases e) rfl rfl (fun h => absurd rfl h)) 
  (tys_cons (.of (i := Try.t99) (by kernel_rfl) Try.underlying99 rfl rfl rfl ⟨_, _, _, rfl⟩ (fun _ e => by cases e) rfl rfl (fun h => absurd rfl h)) 
  (tys_cons (.of (i := Try.t100) (by kernel_rfl) Try.underlying100 rfl rfl rfl ⟨_, _, _, rfl⟩ (fun _ e => by cases e) rfl rfl (fun h => absurd rfl h)) 
  (tys_cons (.of (i := Try.t101) (by kernel_rfl) Try.underlying101 rfl rfl rfl ⟨_, _, _, rfl⟩ (fun _ e => by cases e) rfl rfl (fun h => absurd rfl h)) 
  (tys_cons (.of (i := Try.t102) (by kernel_rfl) Try.underlying102 rfl rfl rfl ⟨_, _, _, rfl⟩ (fun _ e => by cases e) rfl rfl (fun h => absurd rfl h)) 
  (tys_cons (.of (i := Try.t103) (by kernel_rfl) Try.underlying103 rfl rfl rfl ⟨_, _, _, rfl⟩ (fun _ e => by cases e) rfl rfl (fun h => absurd rfl h)) 
  (tys_cons (.of (i := Try.t104) (by kernel_rfl) Try.underlying104 rfl rfl rfl ⟨_, rfl, rfl⟩ (fun _ e => by cases e) rfl rfl (fun h => absurd rfl h)) 
  (tys_cons (.of (i := Try.t105) (by kernel_rfl) Try.underlying105 rfl rfl rfl ⟨_, rfl, rfl⟩ (fun _ e => by cases e) rfl rfl (fun h => absurd rfl h)) 
  (tys_cons (.of (i := Try.t106) (by kernel_rfl) Try.underlying106 rfl rfl rfl rfl (fun _ e => by cases e) rfl rfl (fun h => absurd rfl h)) 
  (tys_cons (.of (i := Try.t107) (by kernel_rfl) Try.underlying107 rfl rfl rfl ⟨_, rfl, rfl⟩ (fun _ e => by cases e) rfl rfl (fun h => absurd rfl h)) 
  (tys_cons (.of (i := Try.t108) (by kernel_rfl) Try.underlying108 rfl rfl rfl ⟨_, rfl, rfl⟩ (fun _ e => by cases e) rfl rfl (fun h => absurd rfl h)) 
  (tys_cons (.of (i := Try.t109) (by kernel_rfl) Try.underlying109 rfl rfl rfl ⟨_, _, _, rfl⟩ (fun _ e => by cases e) rfl rfl (fun h => absurd rfl h)) 
  (tys_cons (.of (i := Try.t110) (by kernel_rfl) Try.underlying110 rfl rfl rfl rfl (fun _ e => by cases e) rfl rfl (fun h => absurd rfl h)) 
  (tys_cons (.of (i := Try.t111) (by kernel_rfl) Try.underlying111 rfl rfl rfl rfl (fun _ e => by cases e) rfl rfl (fun h => absurd rfl h)) 
  (tys_cons (.of (i := Try.t112) (by kernel_rfl) Try.underlying112 rfl rfl rfl ⟨_, _, _, rfl⟩ (fun _ e => by cases e) rfl rfl (fun h => absurd rfl h)) 
  (tys_cons (.of (i := Try.t113) (by kernel_rfl) Try.underlying113 rfl rfl rfl rfl (fun _ e => by cases e) rfl rfl (fun h => absurd rfl h)) 
  (tys_cons (.of (i := Try.t114) (by kernel_rfl) Try.underlying114 rfl rfl rfl rfl (fun _ e => by cases e) rfl rfl (fun h => absurd rfl h)) 
  (tys_cons (.of (i := Try.t115) (by kernel_rfl) Try.underlying115 rfl rfl rfl rfl (fun _ e => by cases e) rfl rfl (fun h => absurd rfl h)) 
  (tys_cons (.of (i := Try.t116) (by kernel_rfl) Try.underlying116 rfl rfl rfl ⟨_, rfl, rfl⟩ (fun _ e => by cases e) rfl rfl (fun h => absurd rfl h)) 
  (tys_cons (.of (i := Try.t117) (by kernel_rfl) Try.underlying117 rfl rfl rfl ⟨_, rfl, rfl⟩ (fun _ e => by cases e) rfl rfl (fun h => absurd rfl h)) tys_nil))))))))))))))))))))))))))))))))))))))))))))))))))))))))))))))))))))))))))))))))))))))))))))))))))))))))))))))))))

/-- The program, behind a name. -/
class IsProg (P : Program) : Prop where
  eq : P = Try.prog
instance : IsProg Try.prog := ⟨rfl⟩
variable {P : Program} [IsProg P]
def tau : Tys := Ax.look tyList
theorem tau_ok0 : ∀ t ti, tau t = some ti → TIok Try.prog t ti := tys_ok tyList_ok
theorem tau_ok : ∀ t ti, tau t = some ti → TIok P t ti := by
  have h := IsProg.eq (P := P)
  subst h
  exact tau_ok0
theorem mix0 : Try.prog.follows .mixedOrders = true := by kernel_rfl
theorem mix : P.follows .mixedOrders = true := by
  have h := IsProg.eq (P := P)
  subst h
  exact mix0

variable {gl : Nat → Option (List AV)}

/- analemma/analemmalaw03.CheckedTwo -/
noncomputable def code3 : Code := Try.f3.body.getD .skip
theorem inl3 {J : Jd} {args : List AV} {H : Heap} {n : Nat} {R : AV → Heap → Nat → Prop} (hargs : args.length ≤ 46) (h : T.prop P gl n (resQ R) (bodyT tau gl J code3 46 [.tmp 4] args H n)) : CallA P gl 3 args H n R :=
  CallA.inlineE IsProg.eq tau_ok0 mix0 Try.func3 (by kernel_rfl) (by kernel_rfl) (by kernel_rfl) (by kernel_rfl) hargs h

/- analemma/analemmalaw03.CheckedSums -/
noncomputable def code4 : Code := Try.f4.body.getD .skip
theorem inl4 {J : Jd} {args : List AV} {H : Heap} {n : Nat} {R : AV → Heap → Nat → Prop} (hargs : args.length ≤ 37) (h : T.prop P gl n (resQ R) (bodyT tau gl J code4 37 [.tmp 2] args H n)) : CallA P gl 4 args H n R :=
  CallA.inlineE IsProg.eq tau_ok0 mix0 Try.func4 (by kernel_rfl) (by kernel_rfl) (by kernel_rfl) (by kernel_rfl) hargs h

/- analemma/analemmalaw03.CheckedBack -/
noncomputable def code5 : Code := Try.f5.body.getD .skip
theorem inl5 {J : Jd} {args : List AV} {H : Heap} {n : Nat} {R : AV → Heap → Nat → Prop} (hargs : args.length ≤ 173) (h : T.prop P gl n (resQ R) (bodyT tau gl J code5 173 [.tmp 4] args H n)) : CallA P gl 5 args H n R :=
  CallA.inlineE IsProg.eq tau_ok0 mix0 Try.func5 (by kernel_rfl) (by kernel_rfl) (by kernel_rfl) (by kernel_rfl) hargs h

/- analemma/analemmalaw03.CheckedJust -/
noncomputable def code6 : Code := Try.f6.body.getD .skip
theorem inl6 {J : Jd} {args : List AV} {H : Heap} {n : Nat} {R : AV → Heap → Nat → Prop} (hargs : args.length ≤ 165) (h : T.prop P gl n (resQ R) (bodyT tau gl J code6 165 [.tmp 4] args H n)) : CallA P gl 6 args H n R :=
  CallA.inlineE IsProg.eq tau_ok0 mix0 Try.func6 (by kernel_rfl) (by kernel_rfl) (by kernel_rfl) (by kernel_rfl) hargs h

/- analemma/analemmalaw03.CheckedSteps -/
noncomputable def code7 : Code := Try.f7.body.getD .skip
theorem inl7 {J : Jd} {args : List AV} {H : Heap} {n : Nat} {R : AV → Heap → Nat → Prop} (hargs : args.length ≤ 114) (h : T.prop P gl n (resQ R) (bodyT tau gl J code7 114 [.tmp 6] args H n)) : CallA P gl 7 args H n R :=
  CallA.inlineE IsProg.eq tau_ok0 mix0 Try.func7 (by kernel_rfl) (by kernel_rfl) (by kernel_rfl) (by kernel_rfl) hargs h

/- analemma/analemmalaw03.CheckedParts -/
noncomputable def code8 : Code := Try.f8.body.getD .skip
theorem inl8 {J : Jd} {args : List AV} {H : Heap} {n : Nat} {R : AV → Heap → Nat → Prop} (hargs : args.length ≤ 53) (h : T.prop P gl n (resQ R) (bodyT tau gl J code8 53 [.tmp 2] args H n)) : CallA P gl 8 args H n R :=
  CallA.inlineE IsProg.eq tau_ok0 mix0 Try.func8 (by kernel_rfl) (by kernel_rfl) (by kernel_rfl) (by kernel_rfl) hargs h

/- analemma/analemmalaw28.ShiftSets -/
noncomputable def code9 : Code := Try.f9.body.getD .skip
theorem inl9 {J : Jd} {args : List AV} {H : Heap} {n : Nat} {R : AV → Heap → Nat → Prop} (hargs : args.length ≤ 70) (h : T.prop P gl n (resQ R) (bodyT tau gl J code9 70 [.tmp 6] args H n)) : CallA P gl 9 args H n R :=
  CallA.inlineE IsProg.eq tau_ok0 mix0 Try.func9 (by kernel_rfl) (by kernel_rfl) (by kernel_rfl) (by kernel_rfl) hargs h

/- analemma/analemmalaw28.ShiftBack -/
noncomputable def code10 : Code := Try.f10.body.getD .skip
theorem inl10 {J : Jd} {args : List AV} {H : Heap} {n : Nat} {R : AV → Heap → Nat → Prop} (hargs : args.length ≤ 120) (h : T.prop P gl n (resQ R) (bodyT tau gl J code10 120 [.tmp 8] args H n)) : CallA P gl 10 args H n R :=
  CallA.inlineE IsProg.eq tau_ok0 mix0 Try.func10 (by kernel_rfl) (by kernel_rfl) (by kernel_rfl) (by kernel_rfl) hargs h

/- analemma/analemmalaw28.ShiftSums -/
noncomputable def code11 : Code := Try.f11.body.getD .skip
theorem inl11 {J : Jd} {args : List AV} {H : Heap} {n : Nat} {R : AV → Heap → Nat → Prop} (hargs : args.length ≤ 304) (h : T.prop P gl n (resQ R) (bodyT tau gl J code11 304 [.tmp 6] args H n)) : CallA P gl 11 args H n R :=
  CallA.inlineE IsProg.eq tau_ok0 mix0 Try.func11 (by kernel_rfl) (by kernel_rfl) (by kernel_rfl) (by kernel_rfl) hargs h

/- analemma/analemmalaw28.ShiftOrders -/
noncomputable def code12 : Code := Try.f12.body.getD .skip
theorem inl12 {J : Jd} {args : List AV} {H : Heap} {n : Nat} {R : AV → Heap → Nat → Prop} (hargs : args.length ≤ 112) (h : T.prop P gl n (resQ R) (bodyT tau gl J code12 112 [.tmp 10] args H n)) : CallA P gl 12 args H n R :=
  CallA.inlineE IsProg.eq tau_ok0 mix0 Try.func12 (by kernel_rfl) (by kernel_rfl) (by kernel_rfl) (by kernel_rfl) hargs h

/- analemma/analemmalaw28.ShiftApart -/
noncomputable def code13 : Code := Try.f13.body.getD .skip
theorem inl13 {J : Jd} {args : List AV} {H : Heap} {n : Nat} {R : AV → Heap → Nat → Prop} (hargs : args.length ≤ 143) (h : T.prop P gl n (resQ R) (bodyT tau gl J code13 143 [.tmp 6] args H n)) : CallA P gl 13 args H n R :=
  CallA.inlineE IsProg.eq tau_ok0 mix0 Try.func13 (by kernel_rfl) (by kernel_rfl) (by kernel_rfl) (by kernel_rfl) hargs h

/- analemma/analemmalaw28.ShiftOthers -/
noncomputable def code14 : Code := Try.f14.body.getD .skip
theorem inl14 {J : Jd} {args : List AV} {H : Heap} {n : Nat} {R : AV → Heap → Nat → Prop} (hargs : args.length ≤ 126) (h : T.prop P gl n (resQ R) (bodyT tau gl J code14 126 [.tmp 8] args H n)) : CallA P gl 14 args H n R :=
  CallA.inlineE IsProg.eq tau_ok0 mix0 Try.func14 (by kernel_rfl) (by kernel_rfl) (by kernel_rfl) (by kernel_rfl) hargs h

/- analemma/checked.Add -/
noncomputable def code15 : Code := Try.f15.body.getD .skip
theorem inl15 {J : Jd} {args : List AV} {H : Heap} {n : Nat} {R : AV → Heap → Nat → Prop} (hargs : args.length ≤ 16) (h : T.prop P gl n (resQ R) (bodyT tau gl J code15 16 [.tmp 4, .tmp 5] args H n)) : CallA P gl 15 args H n R :=
  CallA.inlineE IsProg.eq tau_ok0 mix0 Try.func15 (by kernel_rfl) (by kernel_rfl) (by kernel_rfl) (by kernel_rfl) hargs h

/- analemma/analemmaref03.Add -/
noncomputable def code16 : Code := Try.f16.body.getD .skip
theorem inl16 {J : Jd} {args : List AV} {H : Heap} {n : Nat} {R : AV → Heap → Nat → Prop} (hargs : args.length ≤ 27) (h : T.prop P gl n (resQ R) (bodyT tau gl J code16 27 [.tmp 4, .tmp 5] args H n)) : CallA P gl 16 args H n R :=
  CallA.inlineE IsProg.eq tau_ok0 mix0 Try.func16 (by kernel_rfl) (by kernel_rfl) (by kernel_rfl) (by kernel_rfl) hargs h

/- analemma/checked.Sub -/
noncomputable def code17 : Code := Try.f17.body.getD .skip
theorem inl17 {J : Jd} {args : List AV} {H : Heap} {n : Nat} {R : AV → Heap → Nat → Prop} (hargs : args.length ≤ 16) (h : T.prop P gl n (resQ R) (bodyT tau gl J code17 16 [.tmp 4, .tmp 5] args H n)) : CallA P gl 17 args H n R :=
  CallA.inlineE IsProg.eq tau_ok0 mix0 Try.func17 (by kernel_rfl) (by kernel_rfl) (by kernel_rfl) (by kernel_rfl) hargs h

/- analemma/analemmaref03.Sub -/
noncomputable def code18 : Code := Try.f18.body.getD .skip
theorem inl18 {J : Jd} {args : List AV} {H : Heap} {n : Nat} {R : AV → Heap → Nat → Prop} (hargs : args.length ≤ 27) (h : T.prop P gl n (resQ R) (bodyT tau gl J code18 27 [.tmp 4, .tmp 5] args H n)) : CallA P gl 18 args H n R :=
  CallA.inlineE IsProg.eq tau_ok0 mix0 Try.func18 (by kernel_rfl) (by kernel_rfl) (by kernel_rfl) (by kernel_rfl) hargs h

/- analemma/checked.Mul -/
noncomputable def code19 : Code := Try.f19.body.getD .skip
theorem inl19 {J : Jd} {args : List AV} {H : Heap} {n : Nat} {R : AV → Heap → Nat → Prop} (hargs : args.length ≤ 29) (h : T.prop P gl n (resQ R) (bodyT tau gl J code19 29 [.tmp 4, .tmp 5] args H n)) : CallA P gl 19 args H n R :=
  CallA.inlineE IsProg.eq tau_ok0 mix0 Try.func19 (by kernel_rfl) (by kernel_rfl) (by kernel_rfl) (by kernel_rfl) hargs h

/- analemma/analemmaref03.Mul -/
noncomputable def code20 : Code := Try.f20.body.getD .skip
theorem inl20 {J : Jd} {args : List AV} {H : Heap} {n : Nat} {R : AV → Heap → Nat → Prop} (hargs : args.length ≤ 42) (h : T.prop P gl n (resQ R) (bodyT tau gl J code20 42 [.tmp 4, .tmp 5] args H n)) : CallA P gl 20 args H n R :=
  CallA.inlineE IsProg.eq tau_ok0 mix0 Try.func20 (by kernel_rfl) (by kernel_rfl) (by kernel_rfl) (by kernel_rfl) hargs h

/- analemma/checked.Div -/
noncomputable def code21 : Code := Try.f21.body.getD .skip
theorem inl21 {J : Jd} {args : List AV} {H : Heap} {n : Nat} {R : AV → Heap → Nat → Prop} (hargs : args.length ≤ 33) (h : T.prop P gl n (resQ R) (bodyT tau gl J code21 33 [.tmp 4, .tmp 5] args H n)) : CallA P gl 21 args H n R :=
  CallA.inlineE IsProg.eq tau_ok0 mix0 Try.func21 (by kernel_rfl) (by kernel_rfl) (by kernel_rfl) (by kernel_rfl) hargs h

/- analemma/analemmaref03.Div -/
noncomputable def code22 : Code := Try.f22.body.getD .skip
theorem inl22 {J : Jd} {args : List AV} {H : Heap} {n : Nat} {R : AV → Heap → Nat → Prop} (hargs : args.length ≤ 36) (h : T.prop P gl n (resQ R) (bodyT tau gl J code22 36 [.tmp 4, .tmp 5] args H n)) : CallA P gl 22 args H n R :=
  CallA.inlineE IsProg.eq tau_ok0 mix0 Try.func22 (by kernel_rfl) (by kernel_rfl) (by kernel_rfl) (by kernel_rfl) hargs h

/- analemma/checked.Mod -/
noncomputable def code23 : Code := Try.f23.body.getD .skip
theorem inl23 {J : Jd} {args : List AV} {H : Heap} {n : Nat} {R : AV → Heap → Nat → Prop} (hargs : args.length ≤ 24) (h : T.prop P gl n (resQ R) (bodyT tau gl J code23 24 [.tmp 4, .tmp 5] args H n)) : CallA P gl 23 args H n R :=
  CallA.inlineE IsProg.eq tau_ok0 mix0 Try.func23 (by kernel_rfl) (by kernel_rfl) (by kernel_rfl) (by kernel_rfl) hargs h

/- analemma/analemmaref03.Mod -/
noncomputable def code24 : Code := Try.f24.body.getD .skip
theorem inl24 {J : Jd} {args : List AV} {H : Heap} {n : Nat} {R : AV → Heap → Nat → Prop} (hargs : args.length ≤ 36) (h : T.prop P gl n (resQ R) (bodyT tau gl J code24 36 [.tmp 4, .tmp 5] args H n)) : CallA P gl 24 args H n R :=
  CallA.inlineE IsProg.eq tau_ok0 mix0 Try.func24 (by kernel_rfl) (by kernel_rfl) (by kernel_rfl) (by kernel_rfl) hargs h

/- analemma/analemmalaw03.is -/
noncomputable def code25 : Code := Try.f25.body.getD .skip
theorem inl25 {J : Jd} {args : List AV} {H : Heap} {n : Nat} {R : AV → Heap → Nat → Prop} (hargs : args.length ≤ 17) (h : T.prop P gl n (resQ R) (bodyT tau gl J code25 17 [.tmp 8] args H n)) : CallA P gl 25 args H n R :=
  CallA.inlineE IsProg.eq tau_ok0 mix0 Try.func25 (by kernel_rfl) (by kernel_rfl) (by kernel_rfl) (by kernel_rfl) hargs h

/- analemma/analemmalaw03.works -/
noncomputable def code26 : Code := Try.f26.body.getD .skip
theorem inl26 {J : Jd} {args : List AV} {H : Heap} {n : Nat} {R : AV → Heap → Nat → Prop} (hargs : args.length ≤ 82) (h : T.prop P gl n (resQ R) (bodyT tau gl J code26 82 [.tmp 0] args H n)) : CallA P gl 26 args H n R :=
  CallA.inlineE IsProg.eq tau_ok0 mix0 Try.func26 (by kernel_rfl) (by kernel_rfl) (by kernel_rfl) (by kernel_rfl) hargs h

/- slices.Clone[[]int64,int64] -/
noncomputable def code27 : Code := Try.f27.body.getD .skip
theorem inl27 {J : Jd} {args : List AV} {H : Heap} {n : Nat} {R : AV → Heap → Nat → Prop} (hargs : args.length ≤ 8) (h : T.prop P gl n (resQ R) (bodyT tau gl J code27 8 [.tmp 2] args H n)) : CallA P gl 27 args H n R :=
  CallA.inlineE IsProg.eq tau_ok0 mix0 Try.func27 (by kernel_rfl) (by kernel_rfl) (by kernel_rfl) (by kernel_rfl) hargs h

/- analemma/checked.Sum -/
noncomputable def code28 : Code := Try.f28.body.getD .skip
theorem inl28 {J : Jd} {args : List AV} {H : Heap} {n : Nat} {R : AV → Heap → Nat → Prop} (hargs : args.length ≤ 14) (h : T.prop P gl n (resQ R) (bodyT tau gl J code28 14 [.cell 2 2, .cell 3 4] args H n)) : CallA P gl 28 args H n R :=
  CallA.inlineE IsProg.eq tau_ok0 mix0 Try.func28 (by kernel_rfl) (by kernel_rfl) (by kernel_rfl) (by kernel_rfl) hargs h

/- analemma/analemmaref03.Sum -/
noncomputable def code29 : Code := Try.f29.body.getD .skip
theorem inl29 {J : Jd} {args : List AV} {H : Heap} {n : Nat} {R : AV → Heap → Nat → Prop} (hargs : args.length ≤ 27) (h : T.prop P gl n (resQ R) (bodyT tau gl J code29 27 [.tmp 2, .tmp 3] args H n)) : CallA P gl 29 args H n R :=
  CallA.inlineE IsProg.eq tau_ok0 mix0 Try.func29 (by kernel_rfl) (by kernel_rfl) (by kernel_rfl) (by kernel_rfl) hargs h

/- slices.Equal[[]int64,int64] -/
noncomputable def code30 : Code := Try.f30.body.getD .skip
theorem inl30 {J : Jd} {args : List AV} {H : Heap} {n : Nat} {R : AV → Heap → Nat → Prop} (hargs : args.length ≤ 26) (h : T.prop P gl n (resQ R) (bodyT tau gl J code30 26 [.tmp 4] args H n)) : CallA P gl 30 args H n R :=
  CallA.inlineE IsProg.eq tau_ok0 mix0 Try.func30 (by kernel_rfl) (by kernel_rfl) (by kernel_rfl) (by kernel_rfl) hargs h

/- analemma/analemmalaw28.Few -/
noncomputable def code31 : Code := Try.f31.body.getD .skip
theorem inl31 {J : Jd} {args : List AV} {H : Heap} {n : Nat} {R : AV → Heap → Nat → Prop} (hargs : args.length ≤ 41) (h : T.prop P gl n (resQ R) (bodyT tau gl J code31 41 [.tmp 2] args H n)) : CallA P gl 31 args H n R :=
  CallA.inlineE IsProg.eq tau_ok0 mix0 Try.func31 (by kernel_rfl) (by kernel_rfl) (by kernel_rfl) (by kernel_rfl) hargs h

/- analemma/analemmalaw28.works -/
noncomputable def code32 : Code := Try.f32.body.getD .skip
theorem inl32 {J : Jd} {args : List AV} {H : Heap} {n : Nat} {R : AV → Heap → Nat → Prop} (hargs : args.length ≤ 159) (h : T.prop P gl n (resQ R) (bodyT tau gl J code32 159 [.tmp 0] args H n)) : CallA P gl 32 args H n R :=
  CallA.inlineE IsProg.eq tau_ok0 mix0 Try.func32 (by kernel_rfl) (by kernel_rfl) (by kernel_rfl) (by kernel_rfl) hargs h

/- analemma/analemmaref28.Copy -/
noncomputable def code33 : Code := Try.f33.body.getD .skip
theorem inl33 {J : Jd} {args : List AV} {H : Heap} {n : Nat} {R : AV → Heap → Nat → Prop} (hargs : args.length ≤ 55) (h : T.prop P gl n (resQ R) (bodyT tau gl J code33 55 [.cell 2 42] args H n)) : CallA P gl 33 args H n R :=
  CallA.inlineE IsProg.eq tau_ok0 mix0 Try.func33 (by kernel_rfl) (by kernel_rfl) (by kernel_rfl) (by kernel_rfl) hargs h

/- analemma/shift.Set -/
noncomputable def code34 : Code := Try.f34.body.getD .skip
theorem inl34 {J : Jd} {args : List AV} {H : Heap} {n : Nat} {R : AV → Heap → Nat → Prop} (hargs : args.length ≤ 27) (h : T.prop P gl n (resQ R) (bodyT tau gl J code34 27 [.cell 6 42, .tmp 7] args H n)) : CallA P gl 34 args H n R :=
  CallA.inlineE IsProg.eq tau_ok0 mix0 Try.func34 (by kernel_rfl) (by kernel_rfl) (by kernel_rfl) (by kernel_rfl) hargs h

/- analemma/analemmaref28.Set -/
noncomputable def code35 : Code := Try.f35.body.getD .skip
theorem inl35 {J : Jd} {args : List AV} {H : Heap} {n : Nat} {R : AV → Heap → Nat → Prop} (hargs : args.length ≤ 48) (h : T.prop P gl n (resQ R) (bodyT tau gl J code35 48 [.cell 6 42, .tmp 7] args H n)) : CallA P gl 35 args H n R :=
  CallA.inlineE IsProg.eq tau_ok0 mix0 Try.func35 (by kernel_rfl) (by kernel_rfl) (by kernel_rfl) (by kernel_rfl) hargs h

/- analemma/analemmaref28.Same -/
noncomputable def code36 : Code := Try.f36.body.getD .skip
theorem inl36 {J : Jd} {args : List AV} {H : Heap} {n : Nat} {R : AV → Heap → Nat → Prop} (hargs : args.length ≤ 113) (h : T.prop P gl n (resQ R) (bodyT tau gl J code36 113 [.tmp 4] args H n)) : CallA P gl 36 args H n R :=
  CallA.inlineE IsProg.eq tau_ok0 mix0 Try.func36 (by kernel_rfl) (by kernel_rfl) (by kernel_rfl) (by kernel_rfl) hargs h

/- analemma/shift.Eras -/
noncomputable def code37 : Code := Try.f37.body.getD .skip
theorem inl37 {J : Jd} {args : List AV} {H : Heap} {n : Nat} {R : AV → Heap → Nat → Prop} (hargs : args.length ≤ 21) (h : T.prop P gl n (resQ R) (bodyT tau gl J code37 21 [.cell 6 42] args H n)) : CallA P gl 37 args H n R :=
  CallA.inlineE IsProg.eq tau_ok0 mix0 Try.func37 (by kernel_rfl) (by kernel_rfl) (by kernel_rfl) (by kernel_rfl) hargs h

/- analemma/analemmaref28.Eras -/
noncomputable def code38 : Code := Try.f38.body.getD .skip
theorem inl38 {J : Jd} {args : List AV} {H : Heap} {n : Nat} {R : AV → Heap → Nat → Prop} (hargs : args.length ≤ 61) (h : T.prop P gl n (resQ R) (bodyT tau gl J code38 61 [.cell 6 42] args H n)) : CallA P gl 38 args H n R :=
  CallA.inlineE IsProg.eq tau_ok0 mix0 Try.func38 (by kernel_rfl) (by kernel_rfl) (by kernel_rfl) (by kernel_rfl) hargs h

/- analemma/analemmaref28.SameRules -/
noncomputable def code39 : Code := Try.f39.body.getD .skip
theorem inl39 {J : Jd} {args : List AV} {H : Heap} {n : Nat} {R : AV → Heap → Nat → Prop} (hargs : args.length ≤ 26) (h : T.prop P gl n (resQ R) (bodyT tau gl J code39 26 [.tmp 4] args H n)) : CallA P gl 39 args H n R :=
  CallA.inlineE IsProg.eq tau_ok0 mix0 Try.func39 (by kernel_rfl) (by kernel_rfl) (by kernel_rfl) (by kernel_rfl) hargs h

/- analemma/shift.Rules -/
noncomputable def code40 : Code := Try.f40.body.getD .skip
theorem inl40 {J : Jd} {args : List AV} {H : Heap} {n : Nat} {R : AV → Heap → Nat → Prop} (hargs : args.length ≤ 8) (h : T.prop P gl n (resQ R) (bodyT tau gl J code40 8 [.tmp 4] args H n)) : CallA P gl 40 args H n R :=
  CallA.inlineE IsProg.eq tau_ok0 mix0 Try.func40 (by kernel_rfl) (by kernel_rfl) (by kernel_rfl) (by kernel_rfl) hargs h

/- analemma/analemmaref28.Rules -/
noncomputable def code41 : Code := Try.f41.body.getD .skip
theorem inl41 {J : Jd} {args : List AV} {H : Heap} {n : Nat} {R : AV → Heap → Nat → Prop} (hargs : args.length ≤ 39) (h : T.prop P gl n (resQ R) (bodyT tau gl J code41 39 [.tmp 4] args H n)) : CallA P gl 41 args H n R :=
  CallA.inlineE IsProg.eq tau_ok0 mix0 Try.func41 (by kernel_rfl) (by kernel_rfl) (by kernel_rfl) (by kernel_rfl) hargs h

/- analemma/analemmaref28.SameEras -/
noncomputable def code42 : Code := Try.f42.body.getD .skip
theorem inl42 {J : Jd} {args : List AV} {H : Heap} {n : Nat} {R : AV → Heap → Nat → Prop} (hargs : args.length ≤ 26) (h : T.prop P gl n (resQ R) (bodyT tau gl J code42 26 [.tmp 4] args H n)) : CallA P gl 42 args H n R :=
  CallA.inlineE IsProg.eq tau_ok0 mix0 Try.func42 (by kernel_rfl) (by kernel_rfl) (by kernel_rfl) (by kernel_rfl) hargs h

/- analemma/analemmalaw28.first -/
noncomputable def code43 : Code := Try.f43.body.getD .skip
theorem inl43 {J : Jd} {args : List AV} {H : Heap} {n : Nat} {R : AV → Heap → Nat → Prop} (hargs : args.length ≤ 12) (h : T.prop P gl n (resQ R) (bodyT tau gl J code43 12 [.tmp 2] args H n)) : CallA P gl 43 args H n R :=
  CallA.inlineE IsProg.eq tau_ok0 mix0 Try.func43 (by kernel_rfl) (by kernel_rfl) (by kernel_rfl) (by kernel_rfl) hargs h

/- math/bits.Mul64 -/
noncomputable def code44 : Code := Try.f44.body.getD .skip
theorem inl44 {J : Jd} {args : List AV} {H : Heap} {n : Nat} {R : AV → Heap → Nat → Prop} (hargs : args.length ≤ 51) (h : T.prop P gl n (resQ R) (bodyT tau gl J code44 51 [.tmp 4, .tmp 5] args H n)) : CallA P gl 44 args H n R :=
  CallA.inlineE IsProg.eq tau_ok0 mix0 Try.func44 (by kernel_rfl) (by kernel_rfl) (by kernel_rfl) (by kernel_rfl) hargs h

/- analemma/analemmaref03.size -/
noncomputable def code45 : Code := Try.f45.body.getD .skip
theorem inl45 {J : Jd} {args : List AV} {H : Heap} {n : Nat} {R : AV → Heap → Nat → Prop} (hargs : args.length ≤ 12) (h : T.prop P gl n (resQ R) (bodyT tau gl J code45 12 [.tmp 2] args H n)) : CallA P gl 45 args H n R :=
  CallA.inlineE IsProg.eq tau_ok0 mix0 Try.func45 (by kernel_rfl) (by kernel_rfl) (by kernel_rfl) (by kernel_rfl) hargs h

/- analemma/analemmaref03.parts -/
noncomputable def code46 : Code := Try.f46.body.getD .skip
theorem inl46 {J : Jd} {args : List AV} {H : Heap} {n : Nat} {R : AV → Heap → Nat → Prop} (hargs : args.length ≤ 16) (h : T.prop P gl n (resQ R) (bodyT tau gl J code46 16 [.tmp 4, .tmp 5] args H n)) : CallA P gl 46 args H n R :=
  CallA.inlineE IsProg.eq tau_ok0 mix0 Try.func46 (by kernel_rfl) (by kernel_rfl) (by kernel_rfl) (by kernel_rfl) hargs h

/- analemma/checked.firstSums -/
noncomputable def code47 : Code := Try.f47.body.getD .skip
theorem inl47 {J : Jd} {args : List AV} {H : Heap} {n : Nat} {R : AV → Heap → Nat → Prop} (hargs : args.length ≤ 4) (h : T.prop P gl n (resQ R) (bodyT tau gl J code47 4 [.tmp 2] args H n)) : CallA P gl 47 args H n R :=
  CallA.inlineE IsProg.eq tau_ok0 mix0 Try.func47 (by kernel_rfl) (by kernel_rfl) (by kernel_rfl) (by kernel_rfl) hargs h

/- analemma/analemmalaw28.example -/
noncomputable def code48 : Code := Try.f48.body.getD .skip
theorem inl48 {J : Jd} {args : List AV} {H : Heap} {n : Nat} {R : AV → Heap → Nat → Prop} (hargs : args.length ≤ 20) (h : T.prop P gl n (resQ R) (bodyT tau gl J code48 20 [.cell 0 42] args H n)) : CallA P gl 48 args H n R :=
  CallA.inlineE IsProg.eq tau_ok0 mix0 Try.func48 (by kernel_rfl) (by kernel_rfl) (by kernel_rfl) (by kernel_rfl) hargs h

/- analemma/shift.Set$1 -/
noncomputable def code49 : Code := Try.f49.body.getD .skip
theorem inl49 {J : Jd} {args : List AV} {H : Heap} {n : Nat} {R : AV → Heap → Nat → Prop} (hargs : args.length ≤ 8) (h : T.prop P gl n (resQ R) (bodyT tau gl J code49 8 [.tmp 3] args H n)) : CallA P gl 49 args H n R :=
  CallA.inlineE IsProg.eq tau_ok0 mix0 Try.func49 (by kernel_rfl) (by kernel_rfl) (by kernel_rfl) (by kernel_rfl) hargs h

/- slices.ContainsFunc[[]analemma/api.Rule,analemma/api.Rule] -/
noncomputable def code50 : Code := Try.f50.body.getD .skip
theorem inl50 {J : Jd} {args : List AV} {H : Heap} {n : Nat} {R : AV → Heap → Nat → Prop} (hargs : args.length ≤ 9) (h : T.prop P gl n (resQ R) (bodyT tau gl J code50 9 [.tmp 4] args H n)) : CallA P gl 50 args H n R :=
  CallA.inlineE IsProg.eq tau_ok0 mix0 Try.func50 (by kernel_rfl) (by kernel_rfl) (by kernel_rfl) (by kernel_rfl) hargs h

/- analemma/shift.each[analemma/api.Rule] -/
noncomputable def code51 : Code := Try.f51.body.getD .skip
theorem inl51 {J : Jd} {args : List AV} {H : Heap} {n : Nat} {R : AV → Heap → Nat → Prop} (hargs : args.length ≤ 25) (h : T.prop P gl n (resQ R) (bodyT tau gl J code51 25 [.tmp 4] args H n)) : CallA P gl 51 args H n R :=
  CallA.inlineE IsProg.eq tau_ok0 mix0 Try.func51 (by kernel_rfl) (by kernel_rfl) (by kernel_rfl) (by kernel_rfl) hargs h

/- analemma/shift.Set$2 -/
noncomputable def code52 : Code := Try.f52.body.getD .skip
theorem inl52 {J : Jd} {args : List AV} {H : Heap} {n : Nat} {R : AV → Heap → Nat → Prop} (hargs : args.length ≤ 13) (h : T.prop P gl n (resQ R) (bodyT tau gl J code52 13 [.cell 4 58] args H n)) : CallA P gl 52 args H n R :=
  CallA.inlineE IsProg.eq tau_ok0 mix0 Try.func52 (by kernel_rfl) (by kernel_rfl) (by kernel_rfl) (by kernel_rfl) hargs h

/- analemma/shift.rule -/
noncomputable def code53 : Code := Try.f53.body.getD .skip
theorem inl53 {J : Jd} {args : List AV} {H : Heap} {n : Nat} {R : AV → Heap → Nat → Prop} (hargs : args.length ≤ 16) (h : T.prop P gl n (resQ R) (bodyT tau gl J code53 16 [.cell 4 58] args H n)) : CallA P gl 53 args H n R :=
  CallA.inlineE IsProg.eq tau_ok0 mix0 Try.func53 (by kernel_rfl) (by kernel_rfl) (by kernel_rfl) (by kernel_rfl) hargs h

/- slices.Clone[[]analemma/api.Rule,analemma/api.Rule] -/
noncomputable def code54 : Code := Try.f54.body.getD .skip
theorem inl54 {J : Jd} {args : List AV} {H : Heap} {n : Nat} {R : AV → Heap → Nat → Prop} (hargs : args.length ≤ 8) (h : T.prop P gl n (resQ R) (bodyT tau gl J code54 8 [.tmp 2] args H n)) : CallA P gl 54 args H n R :=
  CallA.inlineE IsProg.eq tau_ok0 mix0 Try.func54 (by kernel_rfl) (by kernel_rfl) (by kernel_rfl) (by kernel_rfl) hargs h

/- analemma/shift.each[analemma/api.Zone] -/
noncomputable def code55 : Code := Try.f55.body.getD .skip
theorem inl55 {J : Jd} {args : List AV} {H : Heap} {n : Nat} {R : AV → Heap → Nat → Prop} (hargs : args.length ≤ 25) (h : T.prop P gl n (resQ R) (bodyT tau gl J code55 25 [.tmp 4] args H n)) : CallA P gl 55 args H n R :=
  CallA.inlineE IsProg.eq tau_ok0 mix0 Try.func55 (by kernel_rfl) (by kernel_rfl) (by kernel_rfl) (by kernel_rfl) hargs h

/- analemma/shift.Eras$1 -/
noncomputable def code56 : Code := Try.f56.body.getD .skip
theorem inl56 {J : Jd} {args : List AV} {H : Heap} {n : Nat} {R : AV → Heap → Nat → Prop} (hargs : args.length ≤ 11) (h : T.prop P gl n (resQ R) (bodyT tau gl J code56 11 [.cell 4 62] args H n)) : CallA P gl 56 args H n R :=
  CallA.inlineE IsProg.eq tau_ok0 mix0 Try.func56 (by kernel_rfl) (by kernel_rfl) (by kernel_rfl) (by kernel_rfl) hargs h

/- analemma/shift.each[analemma/api.Era] -/
noncomputable def code57 : Code := Try.f57.body.getD .skip
theorem inl57 {J : Jd} {args : List AV} {H : Heap} {n : Nat} {R : AV → Heap → Nat → Prop} (hargs : args.length ≤ 25) (h : T.prop P gl n (resQ R) (bodyT tau gl J code57 25 [.tmp 4] args H n)) : CallA P gl 57 args H n R :=
  CallA.inlineE IsProg.eq tau_ok0 mix0 Try.func57 (by kernel_rfl) (by kernel_rfl) (by kernel_rfl) (by kernel_rfl) hargs h

/- analemma/shift.Eras$1$1 -/
noncomputable def code58 : Code := Try.f58.body.getD .skip
theorem inl58 {J : Jd} {args : List AV} {H : Heap} {n : Nat} {R : AV → Heap → Nat → Prop} (hargs : args.length ≤ 18) (h : T.prop P gl n (resQ R) (bodyT tau gl J code58 18 [.cell 4 66] args H n)) : CallA P gl 58 args H n R :=
  CallA.inlineE IsProg.eq tau_ok0 mix0 Try.func58 (by kernel_rfl) (by kernel_rfl) (by kernel_rfl) (by kernel_rfl) hargs h

/- analemma/shift.era -/
noncomputable def code59 : Code := Try.f59.body.getD .skip
theorem inl59 {J : Jd} {args : List AV} {H : Heap} {n : Nat} {R : AV → Heap → Nat → Prop} (hargs : args.length ≤ 21) (h : T.prop P gl n (resQ R) (bodyT tau gl J code59 21 [.cell 4 66] args H n)) : CallA P gl 59 args H n R :=
  CallA.inlineE IsProg.eq tau_ok0 mix0 Try.func59 (by kernel_rfl) (by kernel_rfl) (by kernel_rfl) (by kernel_rfl) hargs h

/- slices.Clone[[]analemma/api.Link,analemma/api.Link] -/
noncomputable def code60 : Code := Try.f60.body.getD .skip
theorem inl60 {J : Jd} {args : List AV} {H : Heap} {n : Nat} {R : AV → Heap → Nat → Prop} (hargs : args.length ≤ 8) (h : T.prop P gl n (resQ R) (bodyT tau gl J code60 8 [.tmp 2] args H n)) : CallA P gl 60 args H n R :=
  CallA.inlineE IsProg.eq tau_ok0 mix0 Try.func60 (by kernel_rfl) (by kernel_rfl) (by kernel_rfl) (by kernel_rfl) hargs h

/- slices.Clone[[]string,string] -/
noncomputable def code61 : Code := Try.f61.body.getD .skip
theorem inl61 {J : Jd} {args : List AV} {H : Heap} {n : Nat} {R : AV → Heap → Nat → Prop} (hargs : args.length ≤ 8) (h : T.prop P gl n (resQ R) (bodyT tau gl J code61 8 [.tmp 2] args H n)) : CallA P gl 61 args H n R :=
  CallA.inlineE IsProg.eq tau_ok0 mix0 Try.func61 (by kernel_rfl) (by kernel_rfl) (by kernel_rfl) (by kernel_rfl) hargs h

/- analemma/analemmaref28.era -/
noncomputable def code62 : Code := Try.f62.body.getD .skip
theorem inl62 {J : Jd} {args : List AV} {H : Heap} {n : Nat} {R : AV → Heap → Nat → Prop} (hargs : args.length ≤ 30) (h : T.prop P gl n (resQ R) (bodyT tau gl J code62 30 [.cell 4 66] args H n)) : CallA P gl 62 args H n R :=
  CallA.inlineE IsProg.eq tau_ok0 mix0 Try.func62 (by kernel_rfl) (by kernel_rfl) (by kernel_rfl) (by kernel_rfl) hargs h

/- analemma/shift.Rules$1 -/
noncomputable def code63 : Code := Try.f63.body.getD .skip
theorem inl63 {J : Jd} {args : List AV} {H : Heap} {n : Nat} {R : AV → Heap → Nat → Prop} (hargs : args.length ≤ 7) (h : T.prop P gl n (resQ R) (bodyT tau gl J code63 7 [.cell 3 58] args H n)) : CallA P gl 63 args H n R :=
  CallA.inlineE IsProg.eq tau_ok0 mix0 Try.func63 (by kernel_rfl) (by kernel_rfl) (by kernel_rfl) (by kernel_rfl) hargs h

/- analemma/checked.firstSums$1 -/
noncomputable def code64 : Code := Try.f64.body.getD .skip
theorem inl64 {J : Jd} {args : List AV} {H : Heap} {n : Nat} {R : AV → Heap → Nat → Prop} (hargs : args.length ≤ 29) (h : T.prop P gl n (resQ R) (bodyT tau gl J code64 29 [] args H n)) : CallA P gl 64 args H n R :=
  CallA.inlineE IsProg.eq tau_ok0 mix0 Try.func64 (by kernel_rfl) (by kernel_rfl) (by kernel_rfl) (by kernel_rfl) hargs h

/- slices.IndexFunc[[]analemma/api.Rule,analemma/api.Rule] -/
noncomputable def code65 : Code := Try.f65.body.getD .skip
theorem inl65 {J : Jd} {args : List AV} {H : Heap} {n : Nat} {R : AV → Heap → Nat → Prop} (hargs : args.length ≤ 19) (h : T.prop P gl n (resQ R) (bodyT tau gl J code65 19 [.tmp 4] args H n)) : CallA P gl 65 args H n R :=
  CallA.inlineE IsProg.eq tau_ok0 mix0 Try.func65 (by kernel_rfl) (by kernel_rfl) (by kernel_rfl) (by kernel_rfl) hargs h

/- analemma/shift.less -/
noncomputable def code66 : Code := Try.f66.body.getD .skip
theorem inl66 {J : Jd} {args : List AV} {H : Heap} {n : Nat} {R : AV → Heap → Nat → Prop} (hargs : args.length ≤ 14) (h : T.prop P gl n (resQ R) (bodyT tau gl J code66 14 [.cell 4 56] args H n)) : CallA P gl 66 args H n R :=
  CallA.inlineE IsProg.eq tau_ok0 mix0 Try.func66 (by kernel_rfl) (by kernel_rfl) (by kernel_rfl) (by kernel_rfl) hargs h

/- slices.Clone[[]analemma/api.Zone,analemma/api.Zone] -/
noncomputable def code67 : Code := Try.f67.body.getD .skip
theorem inl67 {J : Jd} {args : List AV} {H : Heap} {n : Nat} {R : AV → Heap → Nat → Prop} (hargs : args.length ≤ 8) (h : T.prop P gl n (resQ R) (bodyT tau gl J code67 8 [.tmp 2] args H n)) : CallA P gl 67 args H n R :=
  CallA.inlineE IsProg.eq tau_ok0 mix0 Try.func67 (by kernel_rfl) (by kernel_rfl) (by kernel_rfl) (by kernel_rfl) hargs h

/- slices.Clone[[]analemma/api.Era,analemma/api.Era] -/
noncomputable def code68 : Code := Try.f68.body.getD .skip
theorem inl68 {J : Jd} {args : List AV} {H : Heap} {n : Nat} {R : AV → Heap → Nat → Prop} (hargs : args.length ≤ 8) (h : T.prop P gl n (resQ R) (bodyT tau gl J code68 8 [.tmp 2] args H n)) : CallA P gl 68 args H n R :=
  CallA.inlineE IsProg.eq tau_ok0 mix0 Try.func68 (by kernel_rfl) (by kernel_rfl) (by kernel_rfl) (by kernel_rfl) hargs h

noncomputable def fnList : List (Nat × FDesc) := [(3, code3, 46, [.tmp 4]),
  (4, code4, 37, [.tmp 2]),
  (5, code5, 173, [.tmp 4]),
  (6, code6, 165, [.tmp 4]),
  (7, code7, 114, [.tmp 6]),
  (8, code8, 53, [.tmp 2]),
  (9, code9, 70, [.tmp 6]),
  (10, code10, 120, [.tmp 8]),
  (11, code11, 304, [.tmp 6]),
  (12, code12, 112, [.tmp 10]),
  (13, code13, 143, [.tmp 6]),
  (14, code14, 126, [.tmp 8]),
  (15, code15, 16, [.tmp 4, .tmp 5]),
  (16, code16, 27, [.tmp 4, .tmp 5]),
  (17, code17, 16, [.tmp 4, .tmp 5]),
  (18, code18, 27, [.tmp 4, .tmp 5]),
  (19, code19, 29, [.tmp 4, .tmp 5]),
  (20, code20, 42, [.tmp 4, .tmp 5]),
  (21, code21, 33, [.tmp 4, .tmp 5]),
  (22, code22, 36, [.tmp 4, .tmp 5]),
  (23, code23, 24, [.tmp 4, .tmp 5]),
  (24, code24, 36, [.tmp 4, .tmp 5]),
  (25, code25, 17, [.tmp 8]),
  (26, code26, 82, [.tmp 0]),
  (27, code27, 8, [.tmp 2]),
  (28, code28, 14, [.cell 2 2, .cell 3 4]),
  (29, code29, 27, [.tmp 2, .tmp 3]),
  (30, code30, 26, [.tmp 4]),
  (31, code31, 41, [.tmp 2]),
  (32, code32, 159, [.tmp 0]),
  (33, code33, 55, [.cell 2 42]),
  (34, code34, 27, [.cell 6 42, .tmp 7]),
  (35, code35, 48, [.cell 6 42, .tmp 7]),
  (36, code36, 113, [.tmp 4]),
  (37, code37, 21, [.cell 6 42]),
  (38, code38, 61, [.cell 6 42]),
  (39, code39, 26, [.tmp 4]),
  (40, code40, 8, [.tmp 4]),
  (41, code41, 39, [.tmp 4]),
  (42, code42, 26, [.tmp 4]),
  (43, code43, 12, [.tmp 2]),
  (44, code44, 51, [.tmp 4, .tmp 5]),
  (45, code45, 12, [.tmp 2]),
  (46, code46, 16, [.tmp 4, .tmp 5]),
  (47, code47, 4, [.tmp 2]),
  (48, code48, 20, [.cell 0 42]),
  (49, code49, 8, [.tmp 3]),
  (50, code50, 9, [.tmp 4]),
  (51, code51, 25, [.tmp 4]),
  (52, code52, 13, [.cell 4 58]),
  (53, code53, 16, [.cell 4 58]),
  (54, code54, 8, [.tmp 2]),
  (55, code55, 25, [.tmp 4]),
  (56, code56, 11, [.cell 4 62]),
  (57, code57, 25, [.tmp 4]),
  (58, code58, 18, [.cell 4 66]),
  (59, code59, 21, [.cell 4 66]),
  (60, code60, 8, [.tmp 2]),
  (61, code61, 8, [.tmp 2]),
  (62, code62, 30, [.cell 4 66]),
  (63, code63, 7, [.cell 3 58]),
  (64, code64, 29, []),
  (65, code65, 19, [.tmp 4]),
  (66, code66, 14, [.cell 4 56]),
  (67, code67, 8, [.tmp 2]),
  (68, code68, 8, [.tmp 2])]
theorem fnD_ok : DOk P gl tau (Ax.look fnList) := dok
  (dok_cons (fun _ _ _ _ _ => inl3) 
  (dok_cons (fun _ _ _ _ _ => inl4) 
  (dok_cons (fun _ _ _ _ _ => inl5) 
  (dok_cons (fun _ _ _ _ _ => inl6) 
  (dok_cons (fun _ _ _ _ _ => inl7) 
  (dok_cons (fun _ _ _ _ _ => inl8) 
  (dok_cons (fun _ _ _ _ _ => inl9) 
  (dok_cons (fun _ _ _ _ _ => inl10) 
  (dok_cons (fun _ _ _ _ _ => inl11) 
  (dok_cons (fun _ _ _ _ _ => inl12) 
  (dok_cons (fun _ _ _ _ _ => inl13) 
  (dok_cons (fun _ _ _ _ _ => inl14) 
  (dok_cons (fun _ _ _ _ _ => inl15) 
  (dok_cons (fun _ _ _ _ _ => inl16) 
  (dok_cons (fun _ _ _ _ _ => inl17) 
  (dok_cons (fun _ _ _ _ _ => inl18) 
  (dok_cons (fun _ _ _ _ _ => inl19) 
  (dok_cons (fun _ _ _ _ _ => inl20) 
  (dok_cons (fun _ _ _ _ _ => inl21) 
  (dok_cons (fun _ _ _ _ _ => inl22) 
  (dok_cons (fun _ _ _ _ _ => inl23) 
  (dok_cons (fun _ _ _ _ _ => inl24) 
  (dok_cons (fun _ _ _ _ _ => inl25) 
  (dok_cons (fun _ _ _ _ _ => inl26) 
  (dok_cons (fun _ _ _ _ _ => inl27) 
  (dok_cons (fun _ _ _ _ _ => inl28) 
  (dok_cons (fun _ _ _ _ _ => inl29) 
  (dok_cons (fun _ _ _ _ _ => inl30) 
  (dok_cons (fun _ _ _ _ _ => inl31) 
  (dok_cons (fun _ _ _ _ _ => inl32) 
  (dok_cons (fun _ _ _ _ _ => inl33) 
  (dok_cons (fun _ _ _ _ _ => inl34) 
  (dok_cons (fun _ _ _ _ _ => inl35) 
  (dok_cons (fun _ _ _ _ _ => inl36) 
  (dok_cons (fun _ _ _ _ _ => inl37) 
  (dok_cons (fun _ _ _ _ _ => inl38) 
  (dok_cons (fun _ _ _ _ _ => inl39) 
  (dok_cons (fun _ _ _ _ _ => inl40) 
  (dok_cons (fun _ _ _ _ _ => inl41) 
  (dok_cons (fun _ _ _ _ _ => inl42) 
  (dok_cons (fun _ _ _ _ _ => inl43) 
  (dok_cons (fun _ _ _ _ _ => inl44) 
  (dok_cons (fun _ _ _ _ _ => inl45) 
  (dok_cons (fun _ _ _ _ _ => inl46) 
  (dok_cons (fun _ _ _ _ _ => inl47) 
  (dok_cons (fun _ _ _ _ _ => inl48) 
  (dok_cons (fun _ _ _ _ _ => inl49) 
  (dok_cons (fun _ _ _ _ _ => inl50) 
  (dok_cons (fun _ _ _ _ _ => inl51) 
  (dok_cons (fun _ _ _ _ _ => inl52) 
  (dok_cons (fun _ _ _ _ _ => inl53) 
  (dok_cons (fun _ _ _ _ _ => inl54) 
  (dok_cons (fun _ _ _ _ _ => inl55) 
  (dok_cons (fun _ _ _ _ _ => inl56) 
  (dok_cons (fun _ _ _ _ _ => inl57) 
  (dok_cons (fun _ _ _ _ _ => inl58) 
  (dok_cons (fun _ _ _ _ _ => inl59) 
  (dok_cons (fun _ _ _ _ _ => inl60) 
  (dok_cons (fun _ _ _ _ _ => inl61) 
  (dok_cons (fun _ _ _ _ _ => inl62) 
  (dok_cons (fun _ _ _ _ _ => inl63) 
  (dok_cons (fun _ _ _ _ _ => inl64) 
  (dok_cons (fun _ _ _ _ _ => inl65) 
  (dok_cons (fun _ _ _ _ _ => inl66) 
  (dok_cons (fun _ _ _ _ _ => inl67) 
  (dok_cons (fun _ _ _ _ _ => inl68) dok_nil))))))))))))))))))))))))))))))))))))))))))))))))))))))))))))))))))
def jList : List (Nat × Jd) := [(3, ⟨[], [], [(9, [4]), (8, [0, 1, 16, 17, 18]), (7, [4]), (6, [0, 1, 16, 17, 18, 43]), (5, [0, 1, 7, 8, 9, 10, 16, 17, 18]), (4, [0, 1, 6, 7, 8, 16, 17, 18]), (3, [0, 1, 6, 16, 17, 18]), (2, [0, 1, 16, 17, 18, 19]), (1, [0, 1, 16, 17, 18]), (0, [0, 1])]⟩), (4, ⟨[], [], [(6, [2]), (5, [0, 3, 4, 5, 6, 7]), (4, [0, 3, 4, 5]), (3, [0, 3]), (2, [2]), (1, [0, 10]), (0, [0])]⟩), (5, ⟨[(13, 88), (20, 150), (23, 160)], [3, 9, 14], [(27, [4]), (26, [4]), (25, [171]), (24, [0, 27, 28]), (23, [0, 23, 25, 160]), (22, [0, 22, 23, 25, 26]), (21, [4]), (20, [0, 1, 21, 22, 23, 150]), (19, [0, 1, 21, 22, 23, 24]), (18, [0, 1, 21, 22]), (17, [4]), (16, [0, 1, 111]), (15, [0, 1, 17, 18, 19, 20]), (14, [0, 1, 15, 17, 18]), (13, [0, 1, 15, 88]), (12, [0, 1, 15, 16]), (11, [4]), (10, [0, 1, 77]), (9, [0, 1, 13, 14]), (8, [0, 1, 11, 66]), (7, [0, 1, 11, 12]), (6, [4]), (5, [0, 1, 59]), (4, [0, 1, 7, 8, 9, 10]), (3, [0, 1, 5, 7, 8]), (2, [0, 1, 5, 35]), (1, [0, 1, 5, 6]), (0, [0, 1])]⟩), (6, ⟨[(2, 27), (3, 5), (4, 39), (5, 5)], [3, 5, 13], [(19, [4]), (18, [0, 1, 19, 21]), (17, [0, 1, 19]), (16, [4]), (15, [0, 1, 131]), (14, [0, 1, 14, 15, 16, 17]), (13, [0, 1, 14, 15]), (12, [0, 1, 112]), (11, [4]), (10, [0, 1, 110]), (9, [0, 1, 5, 6, 7, 8, 9, 10, 11, 12, 13]), (8, [0, 1, 5, 6, 7, 8, 9, 10, 11]), (7, [0, 1, 5, 6, 7, 8, 9]), (6, [0, 1, 5, 6, 7]), (5, [0, 1, 5]), (4, [0, 1, 5, 39]), (3, [0, 1, 5]), (2, [0, 1, 5, 27]), (1, [0, 1, 5]), (0, [0, 1])]⟩), (7, ⟨[(12, 85)], [3], [(18, [6]), (17, [0, 19, 20]), (16, [6]), (15, [0, 13, 14, 18, 92]), (14, [0, 13, 14, 18, 19]), (13, [6]), (12, [0, 13, 14, 85]), (11, [0, 13, 14, 16, 17]), (10, [6]), (9, [0, 13, 14, 73]), (8, [0, 13, 14, 15]), (7, [0, 13]), (6, [6]), (5, [0, 2, 62]), (4, [0, 2, 8, 9, 10, 11, 12]), (3, [0, 2, 7, 8, 9, 10]), (2, [0, 1, 2, 7, 8, 28]), (1, [0, 1, 2, 7, 8]), (0, [0, 1, 2])]⟩), (8, ⟨[(8, 4), (13, 50)], [11], [(16, [2]), (15, [0, 3, 4, 15, 16, 17]), (14, [2]), (13, [0, 3, 4, 15, 16, 17, 50]), (12, [0, 3, 4, 9, 10, 15, 16, 17]), (11, [0, 3, 4, 5, 15, 16, 17]), (10, [0, 3, 4, 5, 15, 16, 17, 34]), (9, [0, 3, 4, 5, 15, 16, 17]), (8, [0, 4, 5, 7, 15, 16, 17]), (7, [0, 4, 5, 7, 8, 15, 16, 17]), (6, [0, 3, 4, 5, 6, 15, 16, 17]), (5, [0, 3, 4, 15, 16, 17, 18]), (4, [0, 3, 4, 15, 16, 17]), (3, [0, 3, 4]), (2, [2]), (1, [0, 13]), (0, [0])]⟩), (9, ⟨[], [], [(8, [6]), (7, [6]), (6, [2, 3, 7, 52]), (5, [1, 2, 3, 7, 8, 9, 10, 11]), (4, [1, 2, 3, 7, 8, 9]), (3, [1, 2, 3, 7]), (2, [6]), (1, [1, 2, 3, 14]), (0, [1, 2, 3])]⟩), (10, ⟨[], [], [(15, [8]), (14, [4, 12, 13, 14, 15, 16, 17, 18, 19]), (13, [1, 4, 12, 13, 14, 15, 16, 17]), (12, [1, 2, 3, 4, 12, 13, 14, 15]), (11, [1, 2, 3, 4, 9, 12, 13]), (10, [8]), (7, [1, 4, 9, 10, 11]), (9, [8]), (8, [1, 4, 9, 10, 11, 47]), (6, [1, 4, 9, 10, 11, 37]), (5, [1, 4, 9, 10, 11]), (4, [1, 2, 3, 4, 9, 10, 32]), (3, [1, 2, 3, 4, 9, 10]), (2, [8]), (1, [1, 2, 3, 4, 22]), (0, [1, 2, 3, 4])]⟩), (11, ⟨[(6, 74), (15, 135), (30, 201), (39, 257)], [], [(58, [6]), (57, [7, 288, 289, 290]), (56, [6]), (55, [7, 288, 289, 290, 301]), (54, [7, 21, 22, 288, 289, 290]), (53, [7, 288, 289, 290, 291]), (52, [7, 288, 289, 290]), (51, [3, 7, 272, 273, 274]), (50, [6]), (49, [3, 7, 272, 273, 274, 285]), (48, [3, 7, 19, 20, 272, 273, 274]), (47, [3, 7, 272, 273, 274, 275]), (46, [3, 7, 272, 273, 274]), (45, [1, 2, 3, 7, 147, 148, 149]), (44, [1, 2, 3, 7, 12, 147, 148, 149, 177, 178, 179]), (43, [6]), (42, [1, 2, 3, 7, 12, 147, 148, 149, 177, 178, 179, 268]), (41, [1, 2, 3, 7, 12, 15, 16, 147, 148, 149, 177, 178, 179]), (40, [6]), (39, [1, 2, 3, 7, 12, 15, 16, 147, 148, 149, 177, 178, 179, 257]), (38, [1, 2, 3, 7, 12, 15, 16, 147, 148, 149, 177, 178, 179, 206, 207, 208]), (37, [6]), (36, [1, 2, 3, 7, 12, 15, 16, 147, 148, 149, 177, 178, 179, 206, 207, 208, 233]), (35, [1, 2, 3, 7, 12, 15, 16, 17, 18, 147, 148, 149, 177, 178, 179, 206, 207, 208]), (34, [1, 2, 3, 7, 12, 15, 16, 147, 148, 149, 177, 178, 179, 206, 207, 208, 209]), (33, [1, 2, 3, 7, 12, 15, 16, 147, 148, 149, 177, 178, 179, 206, 207, 208]), (32, [6]), (31, [1, 2, 3, 7, 12, 147, 148, 149, 177, 178, 179, 204]), (30, [1, 2, 3, 7, 12, 15, 16, 147, 148, 149, 177, 178, 179, 201]), (29, [1, 2, 3, 7, 12, 15, 16, 147, 148, 149, 177, 178, 179]), (28, [1, 2, 3, 7, 12, 14, 15, 147, 148, 149, 177, 178, 179]), (27, [1, 2, 3, 7, 12, 147, 148, 149, 177, 178, 179, 180]), (26, [1, 2, 3, 7, 12, 147, 148, 149, 177, 178, 179]), (25, [6]), (24, [1, 2, 3, 7, 12, 13, 147, 148, 149, 175]), (23, [1, 2, 3, 7, 12, 13, 147, 148, 149]), (22, [1, 2, 3, 7, 147, 148, 149, 150]), (21, [1, 2, 3, 7, 147, 148, 149]), (20, [1, 2, 3, 7, 76, 77, 78]), (19, [6]), (18, [1, 2, 3, 7, 76, 77, 78, 144]), (17, [1, 2, 3, 7, 10, 11, 76, 77, 78]), (16, [6]), (15, [1, 2, 3, 7, 10, 11, 76, 77, 78, 135]), (14, [6]), (13, [1, 2, 3, 7, 76, 77, 78, 94]), (12, [1, 2, 3, 7, 10, 11, 76, 77, 78, 91]), (11, [1, 2, 3, 7, 10, 11, 76, 77, 78]), (10, [1, 2, 3, 7, 9, 10, 76, 77, 78]), (9, [1, 2, 3, 7, 76, 77, 78, 79]), (8, [1, 2, 3, 7, 76, 77, 78]), (7, [6]), (6, [1, 2, 3, 7, 74]), (5, [6]), (4, [1, 2, 3, 7, 8, 35]), (3, [1, 2, 3, 7, 8]), (2, [6]), (1, [1, 2, 3, 25]), (0, [1, 2, 3])]⟩), (12, ⟨[(11, 75)], [4], [(15, [10]), (14, [11, 17, 18, 19, 20]), (13, [1, 3, 11, 15, 17, 18]), (12, [10]), (11, [1, 2, 3, 4, 11, 13, 15, 75]), (10, [1, 2, 3, 4, 11, 13, 14, 15, 16]), (9, [1, 2, 3, 4, 5, 11, 13, 14]), (8, [10]), (7, [1, 2, 3, 4, 5, 11, 55]), (6, [1, 2, 3, 4, 5, 11, 12]), (5, [1, 2, 3, 4, 5, 11]), (4, [1, 2, 3, 4, 5]), (3, [1, 2, 3, 4, 5, 27]), (2, [10]), (1, [1, 2, 3, 4, 5, 23]), (0, [1, 2, 3, 4, 5])]⟩), (13, ⟨[], [], [(36, [6]), (35, [3, 7, 44, 45, 46]), (34, [3, 7, 13, 44, 45, 46, 124, 125]), (33, [3, 7, 13, 44, 45, 46, 124, 125]), (32, [3, 7, 13, 18, 44, 45, 46, 124, 125]), (31, [3, 7, 13, 44, 45, 46, 124, 125, 126]), (30, [3, 7, 13, 44, 45, 46, 124, 125]), (29, [3, 7, 13, 44, 45, 46, 108, 109]), (28, [3, 7, 13, 44, 45, 46, 108, 109]), (27, [3, 7, 13, 17, 44, 45, 46, 108, 109]), (26, [3, 7, 13, 44, 45, 46, 108, 109, 110]), (25, [3, 7, 13, 44, 45, 46, 108, 109]), (24, [3, 7, 13, 44, 45, 46, 68, 69]), (23, [3, 7, 13, 15, 44, 45, 46, 68, 69, 87, 88]), (22, [3, 7, 13, 15, 44, 45, 46, 68, 69, 87, 88]), (21, [3, 7, 13, 15, 16, 44, 45, 46, 68, 69, 87, 88]), (20, [3, 7, 13, 15, 44, 45, 46, 68, 69, 87, 88, 89]), (19, [3, 7, 13, 15, 44, 45, 46, 68, 69, 87, 88]), (18, [3, 7, 13, 15, 44, 45, 46, 68, 69]), (17, [3, 7, 13, 15, 44, 45, 46, 68, 69]), (16, [3, 7, 13, 44, 45, 46, 68, 69, 70]), (15, [3, 7, 13, 44, 45, 46, 68, 69]), (14, [3, 7, 13, 44, 45, 46, 52, 53]), (13, [3, 7, 13, 44, 45, 46, 52, 53]), (12, [3, 7, 13, 14, 44, 45, 46, 52, 53]), (11, [3, 7, 13, 44, 45, 46, 52, 53, 54]), (10, [3, 7, 13, 44, 45, 46, 52, 53]), (9, [3, 7, 13, 44, 45, 46]), (8, [3, 7, 44, 45, 46, 47]), (7, [3, 7, 44, 45, 46]), (6, [3, 7, 8, 10, 11]), (5, [2, 3, 7, 8, 10]), (4, [1, 2, 3, 7, 8]), (3, [1, 2, 3, 7]), (2, [6]), (1, [1, 2, 3, 21]), (0, [1, 2, 3])]⟩), (14, ⟨[(11, 110)], [], [(13, [8]), (12, [9, 14]), (11, [0, 9, 14, 110]), (10, [0, 2, 9, 14]), (9, [0, 2, 9, 14, 97]), (8, [0, 2, 9, 14]), (7, [8]), (6, [0, 2, 9, 12, 87]), (5, [0, 2, 9, 10, 11, 12, 13]), (4, [0, 2, 9, 10, 11]), (3, [0, 2, 9, 10]), (2, [0, 2, 9, 10]), (1, [0, 2, 9]), (0, [0, 1, 2, 3])]⟩), (15, ⟨[(2, 14)], [], [(4, [4, 5]), (3, [4, 5]), (2, [4, 14]), (1, [0, 1, 4]), (0, [0, 1])]⟩), (16, ⟨[(1, 23)], [], [(3, [4, 5]), (2, [4, 5]), (1, [0, 1, 23]), (0, [0, 1])]⟩), (17, ⟨[(2, 14)], [], [(4, [4, 5]), (3, [4, 5]), (2, [4, 14]), (1, [0, 1, 4]), (0, [0, 1])]⟩), (18, ⟨[(1, 23)], [], [(3, [4, 5]), (2, [4, 5]), (1, [0, 1, 23]), (0, [0, 1])]⟩), (19, ⟨[(1, 11), (4, 27)], [], [(6, [4, 5]), (5, [4, 5]), (4, [4, 27]), (3, [0, 1, 4]), (2, [4, 5]), (1, [0, 1, 11]), (0, [0, 1])]⟩), (20, ⟨[(2, 20), (3, 26), (6, 34)], [], [(10, [4, 5]), (9, [4, 5]), (8, [7, 36]), (7, [4, 5]), (6, [7, 34]), (5, [4, 5]), (4, [4, 5]), (3, [7, 26]), (2, [6, 7, 20]), (1, [0, 1, 6, 7]), (0, [0, 1])]⟩), (21, ⟨[(1, 15), (4, 29)], [], [(6, [4, 5]), (5, [4]), (4, [4, 29]), (3, [0, 1, 4]), (2, [4, 5]), (1, [0, 1, 15]), (0, [0, 1])]⟩), (22, ⟨[(4, 20)], [], [(12, [4, 5]), (11, [4, 5]), (10, [6, 30]), (9, [6]), (8, [6, 26]), (7, [4, 5]), (6, [4, 5]), (5, [6, 22]), (4, [6, 7, 20]), (3, [0, 1, 6, 7]), (2, [4, 5]), (1, [0, 1, 9]), (0, [0, 1])]⟩), (23, ⟨[(4, 19)], [], [(6, [4, 5]), (5, [4]), (4, [1, 4, 19]), (3, [1, 4]), (2, [4, 5]), (1, [0, 1, 7]), (0, [0, 1])]⟩), (24, ⟨[(4, 24)], [], [(8, [4, 5]), (7, [4, 5]), (6, [7, 30]), (5, [1, 7]), (4, [1, 7, 24]), (3, [0, 1, 7]), (2, [4, 5]), (1, [0, 1, 9]), (0, [0, 1])]⟩), (25, ⟨[(1, 8)], [], [(1, [8]), (0, [0, 1, 2, 3])]⟩), (26, ⟨[], [], [(11, [0]), (10, [5, 6, 7, 8, 9, 10]), (9, [5, 6, 7, 8]), (8, [5, 6]), (7, [30, 31, 32]), (6, [0]), (5, [30, 31, 32, 53]), (4, [2, 3, 4, 30, 31, 32]), (3, [2, 30, 31, 32]), (2, [30, 31, 32, 33]), (1, [30, 31, 32]), (0, [])]⟩), (27, ⟨[], [], [(3, [2]), (2, [2]), (1, [0, 4]), (0, [0])]⟩), (28, ⟨[], [], [(7, [2, 3]), (1, [2, 3, 4, 5, 7, 8, 9, 10, 11, 12]), (0, [0, 2, 3, 4, 5, 8, 9, 10, 11, 12])]⟩), (29, ⟨[], [], [(9, [2, 3]), (4, [0, 4, 5]), (8, [0, 4, 5]), (7, [2, 3]), (6, [0, 5, 6, 24]), (5, [0, 5, 6, 7]), (3, [0, 4, 5, 11]), (2, [0, 4, 5]), (1, [0, 4]), (0, [0])]⟩), (30, ⟨[], [], [(9, [4]), (8, [0, 1, 12, 13]), (7, [4]), (6, [0, 1, 12, 13, 24]), (5, [0, 1, 5, 12, 13]), (4, [0, 1, 12, 13, 14]), (3, [0, 1, 12, 13]), (2, [4]), (1, [0, 1, 10]), (0, [0, 1])]⟩), (31, ⟨[(1, 25)], [], [(8, [2]), (5, [1, 3]), (7, [2]), (6, [1, 3, 40]), (4, [1, 3, 30]), (3, [1, 3]), (2, [2]), (1, [1, 25]), (0, [1])]⟩), (32, ⟨[(6, 65)], [], [(11, [0]), (10, [1, 2, 3, 4, 8]), (9, [0]), (8, [1, 2, 3, 4, 86]), (7, [0]), (6, [1, 2, 3, 4, 65]), (5, [1, 2, 3, 4, 5, 7]), (4, [1, 2, 3, 4, 5]), (3, [1, 2, 3]), (2, [1, 2]), (1, [1]), (0, [])]⟩), (33, ⟨[], [], [(11, [2]), (10, [2, 3]), (9, [1, 2, 3]), (5, [1, 2, 3, 4]), (8, [1, 2, 3, 4]), (7, [1, 2, 3, 4, 5]), (6, [1, 2, 3, 4, 5]), (4, [1, 2, 3, 4, 16]), (3, [1, 2, 3, 4]), (2, [1, 2, 3]), (1, [1, 2, 3]), (0, [1, 2])]⟩), (34, ⟨[], [], [(6, [6, 7]), (5, [6, 9]), (4, [3, 5, 6, 8, 9]), (3, [6, 7]), (2, [3, 4, 5, 6, 8, 15]), (1, [3, 4, 5, 6, 8]), (0, [3, 4, 5, 6])]⟩), (35, ⟨[], [], [(11, [6, 7]), (10, [6, 7]), (9, [6, 8, 45]), (5, [1, 2, 6, 8, 9, 10]), (8, [1, 2, 6, 8, 9, 10]), (7, [1, 2, 6, 8, 10]), (6, [1, 2, 6, 8, 9, 10, 29]), (4, [1, 2, 6, 8, 9, 10, 19]), (3, [1, 2, 6, 8, 9, 10]), (2, [1, 2, 6, 8, 9]), (1, [1, 2, 6, 8]), (0, [1, 2, 3, 6])]⟩), (36, ⟨[], [], [(18, [4]), (15, [2, 3, 7]), (17, [4]), (16, [2, 3, 7, 112]), (14, [2, 3, 7, 99]), (13, [2, 3, 7]), (10, [2, 3, 6]), (12, [4]), (11, [2, 3, 6, 94]), (9, [2, 3, 6, 81]), (8, [2, 3, 6]), (5, [2, 3, 5]), (7, [4]), (6, [2, 3, 5, 76]), (4, [2, 3, 5, 45]), (3, [2, 3, 5]), (2, [4]), (1, [2, 3, 40]), (0, [2, 3])]⟩), (37, ⟨[], [], [(1, [6]), (0, [3, 4, 5, 6])]⟩), (38, ⟨[(9, 48)], [], [(11, [6]), (4, [1, 2, 6, 7, 8]), (7, [1, 2, 6, 7, 8, 9]), (10, [1, 2, 6, 7, 8, 9]), (9, [1, 2, 6, 7, 8, 9, 10, 48]), (8, [1, 2, 6, 7, 8, 9, 10]), (6, [1, 2, 6, 7, 8, 9, 28]), (5, [1, 2, 6, 7, 8, 9]), (3, [1, 2, 6, 7, 8, 17]), (2, [1, 2, 6, 7, 8]), (1, [1, 2, 6, 7]), (0, [1, 2, 3, 6])]⟩), (39, ⟨[], [], [(8, [4]), (5, [0, 1, 5]), (7, [4]), (6, [0, 1, 5, 25]), (4, [0, 1, 5, 14]), (3, [0, 1, 5]), (2, [4]), (1, [0, 1, 10]), (0, [0, 1])]⟩), (40, ⟨[], [], [(1, [4]), (0, [0, 3])]⟩), (41, ⟨[], [], [(10, [4]), (4, [0, 1, 5, 6]), (9, [0, 1, 5, 6]), (8, [0, 1, 5, 6, 7]), (7, [0, 1, 5, 6, 7, 26]), (6, [0, 1, 5, 6, 7]), (5, [0, 1, 5, 6, 7]), (3, [0, 1, 5, 6, 11]), (2, [0, 1, 5, 6]), (1, [0, 1, 5]), (0, [0, 1])]⟩), (42, ⟨[], [], [(8, [4]), (5, [0, 1, 5]), (7, [4]), (6, [0, 1, 5, 25]), (4, [0, 1, 5, 14]), (3, [0, 1, 5]), (2, [4]), (1, [0, 1, 10]), (0, [0, 1])]⟩), (43, ⟨[], [], [(3, [2]), (2, [2]), (1, [1, 6]), (0, [1])]⟩), (44, ⟨[], [], [(11, [4, 5]), (10, [0, 1, 4]), (9, [0, 1, 7, 9, 12, 13]), (8, [0, 1, 6, 7, 9, 12, 13]), (7, [0, 1, 6, 7, 9, 11, 12]), (6, [0, 1, 6, 7, 9, 11]), (5, [0, 1, 6, 7, 8, 9, 10]), (4, [0, 1, 6, 7, 8, 9]), (3, [0, 1, 6, 7, 8]), (2, [0, 1, 6, 7]), (1, [0, 1, 6]), (0, [0, 1])]⟩), (45, ⟨[], [], [(3, [2]), (2, [2]), (1, [0, 4]), (0, [0])]⟩), (46, ⟨[], [], [(1, [4, 5]), (0, [0, 1])]⟩), (47, ⟨[], [], [(1, [2]), (0, [1])]⟩), (48, ⟨[], [], [(1, [0]), (0, [0])]⟩), (49, ⟨[(1, 3)], [], [(1, [3]), (0, [1, 2])]⟩), (50, ⟨[], [], [(1, [4]), (0, [0, 1])]⟩), (51, ⟨[], [], [(7, [4]), (6, [1, 5, 10, 11, 12]), (5, [1, 5, 10, 11, 12]), (4, [1, 5, 6, 7, 10, 11, 12]), (3, [1, 5, 10, 11, 12, 13]), (2, [1, 5, 10, 11, 12]), (1, [1, 5]), (0, [0, 1])]⟩), (52, ⟨[], [], [(3, [4]), (2, [4]), (1, [2, 3, 4, 8]), (0, [1, 2, 3, 4])]⟩), (53, ⟨[], [], [(3, [4]), (2, [2, 4]), (1, [1, 2, 4]), (0, [1, 2, 4])]⟩), (54, ⟨[], [], [(3, [2]), (2, [2]), (1, [0, 4]), (0, [0])]⟩), (55, ⟨[], [], [(7, [4]), (6, [1, 5, 10, 11, 12]), (5, [1, 5, 10, 11, 12]), (4, [1, 5, 6, 7, 10, 11, 12]), (3, [1, 5, 10, 11, 12, 13]), (2, [1, 5, 10, 11, 12]), (1, [1, 5]), (0, [0, 1])]⟩), (56, ⟨[], [], [(2, [4]), (1, [3, 4]), (0, [1, 2, 3, 4])]⟩), (57, ⟨[], [], [(7, [4]), (6, [1, 5, 10, 11, 12]), (5, [1, 5, 10, 11, 12]), (4, [1, 5, 6, 7, 10, 11, 12]), (3, [1, 5, 10, 11, 12, 13]), (2, [1, 5, 10, 11, 12]), (1, [1, 5]), (0, [0, 1])]⟩), (58, ⟨[(1, 13)], [], [(3, [4]), (2, [4]), (1, [2, 3, 4, 13]), (0, [1, 2, 3, 4])]⟩), (59, ⟨[], [], [(4, [4]), (3, [2, 4]), (2, [1, 2, 4, 12]), (1, [1, 2, 4]), (0, [1, 2, 4])]⟩), (60, ⟨[], [], [(3, [2]), (2, [2]), (1, [0, 4]), (0, [0])]⟩), (61, ⟨[], [], [(3, [2]), (2, [2]), (1, [0, 4]), (0, [0])]⟩), (62, ⟨[(2, 19)], [], [(4, [4]), (3, [2, 4]), (2, [1, 2, 4, 19]), (1, [1, 2, 4]), (0, [1, 2, 4])]⟩), (63, ⟨[], [], [(1, [3]), (0, [1, 2, 3])]⟩), (64, ⟨[], [], [(6, [0, 3, 7, 8, 9]), (5, [0, 3, 7, 8, 9, 27]), (4, [0, 3, 4, 7, 8, 9]), (3, [0, 3, 6, 7, 8, 9]), (2, [0, 3, 7, 8, 9, 10]), (1, [0, 3, 7, 8, 9]), (0, [0, 1, 3])]⟩), (65, ⟨[], [], [(7, [4]), (6, [0, 1, 7, 8]), (5, [4]), (4, [0, 1, 5, 7, 8, 16]), (3, [0, 1, 5, 7, 8]), (2, [0, 1, 7, 8, 9]), (1, [0, 1, 7, 8]), (0, [0, 1])]⟩), (66, ⟨[], [], [(3, [4]), (2, [2, 4]), (1, [1, 2, 4, 7]), (0, [1, 2, 4])]⟩), (67, ⟨[], [], [(3, [2]), (2, [2]), (1, [0, 4]), (0, [0])]⟩), (68, ⟨[], [], [(3, [2]), (2, [2]), (1, [0, 4]), (0, [0])]⟩)]
/-- The functions, each with the tests of its regions and the shapes of its loops. -/
noncomputable def xd (tms : List (Nat × List (Nat × Nat × Tm))) (f : Nat) : Option XDesc :=
  match Ax.look fnList f with
  | some (c, nt, rs) => some (c, nt, rs, ⟨(Ax.look jList f).getD noJ, (Ax.look tms f).getD []⟩)
  | none => none

theorem xd_ok (tms : List (Nat × List (Nat × Nat × Tm))) : DXOk P gl tau (xd tms) := by
  intro f c nt res cx h J args H n R ha hp
  unfold xd at h
  split at h
  · rename_i c' nt' rs' hf
    cases h
    exact fnD_ok f c nt res hf J args H n R ha hp
  · cases h
end Go.Proofs.Ytkjlobjnboljbaa
