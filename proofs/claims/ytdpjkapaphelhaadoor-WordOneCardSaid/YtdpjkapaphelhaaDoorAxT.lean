/-
  The types and the functions of this seat, for the small abstract machine.
-/
import Derived.Test.YtdpjkapaphelhaaDoorAx27
import Derived.Test.YtdpjkapaphelhaaDoorProg
import Derived.KernelRfl
namespace Go.Proofs.YtdpjkapaphelhaaDoor
open Go.Ax
set_option linter.unusedVariables false
set_option maxRecDepth 100000

def tyList : List (Nat × TI) := [(1, ⟨.func, 1, 8, [.nilFunc], []⟩),
  (2, ⟨.int .i64, 1, 8, [.int .i64 (.lit 0)], []⟩),
  (3, ⟨.int .i64, 1, 8, [.int .i64 (.lit 0)], []⟩),
  (4, ⟨.bool, 1, 1, [.bool false], []⟩),
  (5, ⟨.int .u8, 1, 1, [.int .u8 (.lit 0)], []⟩),
  (6, ⟨.int .u8, 1, 1, [.int .u8 (.lit 0)], []⟩),
  (7, ⟨.struct [(0, 2), (1, 3), (2, 4), (3, 6)], 4, 24, [.int .i64 (.lit 0), .int .i64 (.lit 0), .bool false, .int .u8 (.lit 0)], []⟩),
  (8, ⟨.struct [(0, 2), (1, 3), (2, 4), (3, 6)], 4, 24, [.int .i64 (.lit 0), .int .i64 (.lit 0), .bool false, .int .u8 (.lit 0)], []⟩),
  (9, ⟨.string, 1, 16, [.str (.lit [])], []⟩),
  (10, ⟨.string, 1, 16, [.str (.lit [])], []⟩),
  (11, ⟨.string, 1, 16, [.str (.lit [])], []⟩),
  (12, ⟨.int .u64, 1, 8, [.int .u64 (.lit 0)], []⟩),
  (13, ⟨.struct [(0, 9), (1, 12)], 2, 24, [.str (.lit []), .int .u64 (.lit 0)], []⟩),
  (14, ⟨.struct [(0, 9), (1, 12)], 2, 24, [.str (.lit []), .int .u64 (.lit 0)], []⟩),
  (15, ⟨.ptr 106, 1, 8, [.nilptr], []⟩),
  (16, ⟨.ptr 109, 1, 8, [.nilptr], []⟩),
  (17, ⟨.ptr 118, 1, 8, [.nilptr], []⟩),
  (18, ⟨.struct [(0, 17)], 1, 8, [.nilptr], []⟩),
  (19, ⟨.struct [(0, 17)], 1, 8, [.nilptr], []⟩),
  (20, ⟨.iface, 1, 16, [.nilIface], []⟩),
  (21, ⟨.int .i32, 1, 4, [.int .i32 (.lit 0)], []⟩),
  (22, ⟨.func, 1, 8, [.nilFunc], []⟩),
  (23, ⟨.int .i64, 1, 8, [.int .i64 (.lit 0)], []⟩),
  (25, ⟨.func, 1, 8, [.nilFunc], []⟩),
  (26, ⟨.func, 1, 8, [.nilFunc], []⟩),
  (28, ⟨.func, 1, 8, [.nilFunc], []⟩),
  (29, ⟨.func, 1, 8, [.nilFunc], []⟩),
  (30, ⟨.int .u32, 1, 4, [.int .u32 (.lit 0)], []⟩),
  (31, ⟨.func, 1, 8, [.nilFunc], []⟩),
  (32, ⟨.slice 5, 1, 24, [.nil], []⟩),
  (33, ⟨.func, 1, 8, [.nilFunc], []⟩),
  (35, ⟨.func, 1, 8, [.nilFunc], []⟩),
  (36, ⟨.slice 9, 1, 24, [.nil], []⟩),
  (37, ⟨.func, 1, 8, [.nilFunc], []⟩),
  (38, ⟨.func, 1, 8, [.nilFunc], []⟩),
  (39, ⟨.func, 1, 8, [.nilFunc], []⟩),
  (40, ⟨.func, 1, 8, [.nilFunc], []⟩),
  (41, ⟨.slice 2, 1, 24, [.nil], []⟩),
  (42, ⟨.func, 1, 8, [.nilFunc], []⟩),
  (44, ⟨.func, 1, 8, [.nilFunc], []⟩),
  (45, ⟨.func, 1, 8, [.nilFunc], []⟩),
  (46, ⟨.func, 1, 8, [.nilFunc], []⟩),
  (47, ⟨.int .u16, 1, 2, [.int .u16 (.lit 0)], []⟩),
  (48, ⟨.struct [(0, 36), (1, 44), (2, 3)], 3, 40, [.nil, .nilFunc, .int .i64 (.lit 0)], []⟩),
  (49, ⟨.slice 48, 1, 24, [.nil], []⟩),
  (50, ⟨.func, 1, 8, [.nilFunc], []⟩),
  (51, ⟨.func, 1, 8, [.nilFunc], []⟩),
  (52, ⟨.func, 1, 8, [.nilFunc], []⟩),
  (53, ⟨.func, 1, 8, [.nilFunc], []⟩),
  (54, ⟨.func, 1, 8, [.nilFunc], []⟩),
  (55, ⟨.func, 1, 8, [.nilFunc], []⟩),
  (56, ⟨.func, 1, 8, [.nilFunc], []⟩),
  (57, ⟨.struct [(0, 9), (1, 2), (2, 23)], 3, 32, [.str (.lit []), .int .i64 (.lit 0), .int .i64 (.lit 0)], []⟩),
  (58, ⟨.slice 57, 1, 24, [.nil], []⟩),
  (59, ⟨.struct [(0, 2), (1, 9), (2, 23)], 3, 32, [.int .i64 (.lit 0), .str (.lit []), .int .i64 (.lit 0)], []⟩),
  (60, ⟨.slice 59, 1, 24, [.nil], []⟩),
  (62, ⟨.func, 1, 8, [.nilFunc], []⟩),
  (63, ⟨.array 3 2, 3, 24, [.int .i64 (.lit 0), .int .i64 (.lit 0), .int .i64 (.lit 0)], []⟩),
  (65, ⟨.func, 1, 8, [.nilFunc], []⟩),
  (67, ⟨.func, 1, 8, [.nilFunc], []⟩),
  (68, ⟨.func, 1, 8, [.nilFunc], []⟩),
  (69, ⟨.struct [(0, 44), (1, 9), (2, 3), (3, 23)], 4, 40, [.nilFunc, .str (.lit []), .int .i64 (.lit 0), .int .i64 (.lit 0)], []⟩),
  (70, ⟨.slice 69, 1, 24, [.nil], []⟩),
  (71, ⟨.func, 1, 8, [.nilFunc], []⟩),
  (72, ⟨.array 12 9, 12, 192, [.str (.lit []), .str (.lit []), .str (.lit []), .str (.lit []), .str (.lit []), .str (.lit []), .str (.lit []), .str (.lit []), .str (.lit []), .str (.lit []), .str (.lit []), .str (.lit [])], []⟩),
  (73, ⟨.array 12 9, 12, 192, [.str (.lit []), .str (.lit []), .str (.lit []), .str (.lit []), .str (.lit []), .str (.lit []), .str (.lit []), .str (.lit []), .str (.lit []), .str (.lit []), .str (.lit []), .str (.lit [])], []⟩),
  (74, ⟨.func, 1, 8, [.nilFunc], []⟩),
  (75, ⟨.func, 1, 8, [.nilFunc], []⟩),
  (76, ⟨.func, 1, 8, [.nilFunc], []⟩),
  (77, ⟨.func, 1, 8, [.nilFunc], []⟩),
  (78, ⟨.func, 1, 8, [.nilFunc], []⟩),
  (79, ⟨.func, 1, 8, [.nilFunc], []⟩),
  (80, ⟨.func, 1, 8, [.nilFunc], []⟩),
  (81, ⟨.func, 1, 8, [.nilFunc], []⟩),
  (82, ⟨.func, 1, 8, [.nilFunc], []⟩),
  (83, ⟨.int .u64, 1, 8, [.int .u64 (.lit 0)], []⟩),
  (84, ⟨.func, 1, 8, [.nilFunc], []⟩),
  (85, ⟨.func, 1, 8, [.nilFunc], []⟩),
  (86, ⟨.func, 1, 8, [.nilFunc], []⟩),
  (87, ⟨.func, 1, 8, [.nilFunc], []⟩),
  (88, ⟨.array 24 5, 24, 24, [.int .u8 (.lit 0), .int .u8 (.lit 0), .int .u8 (.lit 0), .int .u8 (.lit 0), .int .u8 (.lit 0), .int .u8 (.lit 0), .int .u8 (.lit 0), .int .u8 (.lit 0), .int .u8 (.lit 0), .int .u8 (.lit 0), .int .u8 (.lit 0), .int .u8 (.lit 0), .int .u8 (.lit 0), .int .u8 (.lit 0), .int .u8 (.lit 0), .int .u8 (.lit 0), .int .u8 (.lit 0), .int .u8 (.lit 0), .int .u8 (.lit 0), .int .u8 (.lit 0), .int .u8 (.lit 0), .int .u8 (.lit 0), .int .u8 (.lit 0), .int .u8 (.lit 0)], []⟩),
  (89, ⟨.int .u64, 1, 8, [.int .u64 (.lit 0)], []⟩),
  (90, ⟨.func, 1, 8, [.nilFunc], []⟩),
  (91, ⟨.func, 1, 8, [.nilFunc], []⟩),
  (93, ⟨.func, 1, 8, [.nilFunc], []⟩),
  (95, ⟨.func, 1, 8, [.nilFunc], []⟩),
  (96, ⟨.func, 1, 8, [.nilFunc], []⟩),
  (97, ⟨.func, 1, 8, [.nilFunc], []⟩),
  (98, ⟨.array 20 89, 20, 160, [.int .u64 (.lit 0), .int .u64 (.lit 0), .int .u64 (.lit 0), .int .u64 (.lit 0), .int .u64 (.lit 0), .int .u64 (.lit 0), .int .u64 (.lit 0), .int .u64 (.lit 0), .int .u64 (.lit 0), .int .u64 (.lit 0), .int .u64 (.lit 0), .int .u64 (.lit 0), .int .u64 (.lit 0), .int .u64 (.lit 0), .int .u64 (.lit 0), .int .u64 (.lit 0), .int .u64 (.lit 0), .int .u64 (.lit 0), .int .u64 (.lit 0), .int .u64 (.lit 0)], []⟩),
  (99, ⟨.array 65 5, 65, 65, [.int .u8 (.lit 0), .int .u8 (.lit 0), .int .u8 (.lit 0), .int .u8 (.lit 0), .int .u8 (.lit 0), .int .u8 (.lit 0), .int .u8 (.lit 0), .int .u8 (.lit 0), .int .u8 (.lit 0), .int .u8 (.lit 0), .int .u8 (.lit 0), .int .u8 (.lit 0), .int .u8 (.lit 0), .int .u8 (.lit 0), .int .u8 (.lit 0), .int .u8 (.lit 0), .int .u8 (.lit 0), .int .u8 (.lit 0), .int .u8 (.lit 0), .int .u8 (.lit 0), .int .u8 (.lit 0), .int .u8 (.lit 0), .int .u8 (.lit 0), .int .u8 (.lit 0), .int .u8 (.lit 0), .int .u8 (.lit 0), .int .u8 (.lit 0), .int .u8 (.lit 0), .int .u8 (.lit 0), .int .u8 (.lit 0), .int .u8 (.lit 0), .int .u8 (.lit 0), .int .u8 (.lit 0), .int .u8 (.lit 0), .int .u8 (.lit 0), .int .u8 (.lit 0), .int .u8 (.lit 0), .int .u8 (.lit 0), .int .u8 (.lit 0), .int .u8 (.lit 0), .int .u8 (.lit 0), .int .u8 (.lit 0), .int .u8 (.lit 0), .int .u8 (.lit 0), .int .u8 (.lit 0), .int .u8 (.lit 0), .int .u8 (.lit 0), .int .u8 (.lit 0), .int .u8 (.lit 0), .int .u8 (.lit 0), .int .u8 (.lit 0), .int .u8 (.lit 0), .int .u8 (.lit 0), .int .u8 (.lit 0), .int .u8 (.lit 0), .int .u8 (.lit 0), .int .u8 (.lit 0), .int .u8 (.lit 0), .int .u8 (.lit 0), .int .u8 (.lit 0), .int .u8 (.lit 0), .int .u8 (.lit 0), .int .u8 (.lit 0), .int .u8 (.lit 0), .int .u8 (.lit 0)], []⟩),
  (100, ⟨.func, 1, 8, [.nilFunc], []⟩),
  (101, ⟨.func, 1, 8, [.nilFunc], []⟩),
  (102, ⟨.array 32 5, 32, 32, [.int .u8 (.lit 0), .int .u8 (.lit 0), .int .u8 (.lit 0), .int .u8 (.lit 0), .int .u8 (.lit 0), .int .u8 (.lit 0), .int .u8 (.lit 0), .int .u8 (.lit 0), .int .u8 (.lit 0), .int .u8 (.lit 0), .int .u8 (.lit 0), .int .u8 (.lit 0), .int .u8 (.lit 0), .int .u8 (.lit 0), .int .u8 (.lit 0), .int .u8 (.lit 0), .int .u8 (.lit 0), .int .u8 (.lit 0), .int .u8 (.lit 0), .int .u8 (.lit 0), .int .u8 (.lit 0), .int .u8 (.lit 0), .int .u8 (.lit 0), .int .u8 (.lit 0), .int .u8 (.lit 0), .int .u8 (.lit 0), .int .u8 (.lit 0), .int .u8 (.lit 0), .int .u8 (.lit 0), .int .u8 (.lit 0), .int .u8 (.lit 0), .int .u8 (.lit 0)], []⟩),
  (103, ⟨.array 64 5, 64, 64, [.int .u8 (.lit 0), .int .u8 (.lit 0), .int .u8 (.lit 0), .int .u8 (.lit 0), .int .u8 (.lit 0), .int .u8 (.lit 0), .int .u8 (.lit 0), .int .u8 (.lit 0), .int .u8 (.lit 0), .int .u8 (.lit 0), .int .u8 (.lit 0), .int .u8 (.lit 0), .int .u8 (.lit 0), .int .u8 (.lit 0), .int .u8 (.lit 0), .int .u8 (.lit 0), .int .u8 (.lit 0), .int .u8 (.lit 0), .int .u8 (.lit 0), .int .u8 (.lit 0), .int .u8 (.lit 0), .int .u8 (.lit 0), .int .u8 (.lit 0), .int .u8 (.lit 0), .int .u8 (.lit 0), .int .u8 (.lit 0), .int .u8 (.lit 0), .int .u8 (.lit 0), .int .u8 (.lit 0), .int .u8 (.lit 0), .int .u8 (.lit 0), .int .u8 (.lit 0), .int .u8 (.lit 0), .int .u8 (.lit 0), .int .u8 (.lit 0), .int .u8 (.lit 0), .int .u8 (.lit 0), .int .u8 (.lit 0), .int .u8 (.lit 0), .int .u8 (.lit 0), .int .u8 (.lit 0), .int .u8 (.lit 0), .int .u8 (.lit 0), .int .u8 (.lit 0), .int .u8 (.lit 0), .int .u8 (.lit 0), .int .u8 (.lit 0), .int .u8 (.lit 0), .int .u8 (.lit 0), .int .u8 (.lit 0), .int .u8 (.lit 0), .int .u8 (.lit 0), .int .u8 (.lit 0), .int .u8 (.lit 0), .int .u8 (.lit 0), .int .u8 (.lit 0), .int .u8 (.lit 0), .int .u8 (.lit 0), .int .u8 (.lit 0), .int .u8 (.lit 0), .int .u8 (.lit 0), .int .u8 (.lit 0), .int .u8 (.lit 0), .int .u8 (.lit 0)], []⟩),
  (104, ⟨.func, 1, 8, [.nilFunc], []⟩),
  (105, ⟨.struct [(0, 17), (1, 17), (2, 17), (3, 9)], 4, 40, [.nilptr, .nilptr, .nilptr, .str (.lit [])], []⟩),
  (106, ⟨.struct [(0, 17), (1, 17), (2, 17), (3, 9)], 4, 40, [.nilptr, .nilptr, .nilptr, .str (.lit [])], []⟩),
  (107, ⟨.array 0 16, 0, 0, [], []⟩),
  (108, ⟨.struct [(0, 107)], 0, 0, [], []⟩),
  (109, ⟨.struct [(0, 107)], 0, 0, [], []⟩),
  (110, ⟨.func, 1, 8, [.nilFunc], []⟩),
  (111, ⟨.int .u8, 1, 1, [.int .u8 (.lit 0)], []⟩),
  (112, ⟨.int .u8, 1, 1, [.int .u8 (.lit 0)], []⟩),
  (113, ⟨.func, 1, 8, [.nilFunc], []⟩),
  (114, ⟨.ptr 5, 1, 8, [.nilptr], []⟩),
  (115, ⟨.int .i32, 1, 4, [.int .i32 (.lit 0)], []⟩),
  (116, ⟨.int .i32, 1, 4, [.int .i32 (.lit 0)], []⟩),
  (117, ⟨.struct [(0, 12), (1, 12), (2, 30), (3, 111), (4, 5), (5, 5), (6, 112), (7, 113), (8, 114), (9, 115), (10, 116)], 11, 48, [.int .u64 (.lit 0), .int .u64 (.lit 0), .int .u32 (.lit 0), .int .u8 (.lit 0), .int .u8 (.lit 0), .int .u8 (.lit 0), .int .u8 (.lit 0), .nilFunc, .nilptr, .int .i32 (.lit 0), .int .i32 (.lit 0)], []⟩),
  (118, ⟨.struct [(0, 12), (1, 12), (2, 30), (3, 111), (4, 5), (5, 5), (6, 112), (7, 113), (8, 114), (9, 115), (10, 116)], 11, 48, [.int .u64 (.lit 0), .int .u64 (.lit 0), .int .u32 (.lit 0), .int .u8 (.lit 0), .int .u8 (.lit 0), .int .u8 (.lit 0), .int .u8 (.lit 0), .nilFunc, .nilptr, .int .i32 (.lit 0), .int .i32 (.lit 0)], []⟩)]

theorem tyList_ok : ∀ p ∈ tyList, TIok Tryd.prog p.1 p.2 :=
  (tys_cons (.of (i := Tryd.t1) (by kernel_rfl) Tryd.underlying1 rfl rfl rfl ⟨_, _, _, rfl⟩ (fun _ e => by cases e) rfl rfl (fun h => absurd rfl h)) 
  (tys_cons (.of (i := Tryd.t2) (by kernel_rfl) Tryd.underlying2 rfl rfl rfl rfl (fun _ e => by cases e) rfl rfl (fun h => absurd rfl h)) 
  (tys_cons (.of (i := Tryd.t3) (by kernel_rfl) Tryd.underlying3 rfl rfl rfl rfl (fun _ e => by cases e) rfl rfl (fun h => absurd rfl h)) 
  (tys_cons (.of (i := Tryd.t4) (by kernel_rfl) Tryd.underlying4 rfl rfl rfl rfl (fun _ e => by cases e) rfl rfl (fun h => absurd rfl h)) 
  (tys_cons (.of (i := Tryd.t5) (by kernel_rfl) Tryd.underlying5 rfl rfl rfl rfl (fun _ e => by cases e) rfl rfl (fun h => absurd rfl h)) 
  (tys_cons (.of (i := Tryd.t6) (by kernel_rfl) Tryd.underlying6 rfl rfl rfl rfl (fun _ e => by cases e) rfl rfl (fun h => absurd rfl h)) 
  (tys_cons (.of (i := Tryd.t7) (by kernel_rfl) Tryd.underlying7 rfl rfl rfl ⟨_, rfl, rfl⟩ (fun _ e => by cases e) rfl rfl (fun h => absurd rfl h)) 
  (tys_cons (.of (i := Tryd.t8) (by kernel_rfl) Tryd.underlying8 rfl rfl rfl ⟨_, rfl, rfl⟩ (fun _ e => by cases e) rfl rfl (fun h => absurd rfl h)) 
  (tys_cons (.of (i := Tryd.t9) (by kernel_rfl) Tryd.underlying9 rfl rfl rfl rfl (fun _ e => by cases e) rfl rfl (fun h => absurd rfl h)) 
  (tys_cons (.of (i := Tryd.t10) (by kernel_rfl) Tryd.underlying10 rfl rfl rfl rfl (fun _ e => by cases e) rfl rfl (fun h => absurd rfl h)) 
  (tys_cons (.of (i := Tryd.t11) (by kernel_rfl) Tryd.underlying11 rfl rfl rfl rfl (fun _ e => by cases e) rfl rfl (fun h => absurd rfl h)) 
  (tys_cons (.of (i := Tryd.t12) (by kernel_rfl) Tryd.underlying12 rfl rfl rfl rfl (fun _ e => by cases e) rfl rfl (fun h => absurd rfl h)) 
  (tys_cons (.of (i := Tryd.t13) (by kernel_rfl) Tryd.underlying13 rfl rfl rfl ⟨_, rfl, rfl⟩ (fun _ e => by cases e) rfl rfl (fun h => absurd rfl h)) 
  (tys_cons (.of (i := Tryd.t14) (by kernel_rfl) Tryd.underlying14 rfl rfl rfl ⟨_, rfl, rfl⟩ (fun _ e => by cases e) rfl rfl (fun h => absurd rfl h)) 
  (tys_cons (.of (i := Tryd.t15) (by kernel_rfl) Tryd.underlying15 rfl rfl rfl rfl (fun _ e => by cases e) rfl rfl (fun h => absurd rfl h)) 
  (tys_cons (.of (i := Tryd.t16) (by kernel_rfl) Tryd.underlying16 rfl rfl rfl rfl (fun _ e => by cases e) rfl rfl (fun h => absurd rfl h)) 
  (tys_cons (.of (i := Tryd.t17) (by kernel_rfl) Tryd.underlying17 rfl rfl rfl rfl (fun _ e => by cases e) rfl rfl (fun h => absurd rfl h)) 
  (tys_cons (.of (i := Tryd.t18) (by kernel_rfl) Tryd.underlying18 rfl rfl rfl ⟨_, rfl, rfl⟩ (fun _ e => by cases e) rfl rfl (fun h => absurd rfl h)) 
  (tys_cons (.of (i := Tryd.t19) (by kernel_rfl) Tryd.underlying19 rfl rfl rfl ⟨_, rfl, rfl⟩ (fun _ e => by cases e) rfl rfl (fun h => absurd rfl h)) 
  (tys_cons (.of (i := Tryd.t20) (by kernel_rfl) Tryd.underlying20 rfl rfl rfl ⟨_, rfl⟩ (fun _ _ => rfl) rfl rfl (fun h => absurd rfl h)) 
  (tys_cons (.of (i := Tryd.t21) (by kernel_rfl) Tryd.underlying21 rfl rfl rfl rfl (fun _ e => by cases e) rfl rfl (fun h => absurd rfl h)) 
  (tys_cons (.of (i := Tryd.t22) (by kernel_rfl) Tryd.underlying22 rfl rfl rfl ⟨_, _, _, rfl⟩ (fun _ e => by cases e) rfl rfl (fun h => absurd rfl h)) 
  (tys_cons (.of (i := Tryd.t23) (by kernel_rfl) Tryd.underlying23 rfl rfl rfl rfl (fun _ e => by cases e) rfl rfl (fun h => absurd rfl h)) 
  (tys_cons (.of (i := Tryd.t25) (by kernel_rfl) Tryd.underlying25 rfl rfl rfl ⟨_, _, _, rfl⟩ (fun _ e => by cases e) rfl rfl (fun h => absurd rfl h)) 
  (tys_cons (.of (i := Tryd.t26) (by kernel_rfl) Tryd.underlying26 rfl rfl rfl ⟨_, _, _, rfl⟩ (fun _ e => by cases e) rfl rfl (fun h => absurd rfl h)) 
  (tys_cons (.of (i := Tryd.t28) (by kernel_rfl) Tryd.underlying28 rfl rfl rfl ⟨_, _, _, rfl⟩ (fun _ e => by cases e) rfl rfl (fun h => absurd rfl h)) 
  (tys_cons (.of (i := Tryd.t29) (by kernel_rfl) Tryd.underlying29 rfl rfl rfl ⟨_, _, _, rfl⟩ (fun _ e => by cases e) rfl rfl (fun h => absurd rfl h)) 
  (tys_cons (.of (i := Tryd.t30) (by kernel_rfl) Tryd.underlying30 rfl rfl rfl rfl (fun _ e => by cases e) rfl rfl (fun h => absurd rfl h)) 
  (tys_cons (.of (i := Tryd.t31) (by kernel_rfl) Tryd.underlying31 rfl rfl rfl ⟨_, _, _, rfl⟩ (fun _ e => by cases e) rfl rfl (fun h => absurd rfl h)) 
  (tys_cons (.of (i := Tryd.t32) (by kernel_rfl) Tryd.underlying32 rfl rfl rfl rfl (fun _ e => by cases e) rfl rfl (fun h => absurd rfl h)) 
  (tys_cons (.of (i := Tryd.t33) (by kernel_rfl) Tryd.underlying33 rfl rfl rfl ⟨_, _, _, rfl⟩ (fun _ e => by cases e) rfl rfl (fun h => absurd rfl h)) 
  (tys_cons (.of (i := Tryd.t35) (by kernel_rfl) Tryd.underlying35 rfl rfl rfl ⟨_, _, _, rfl⟩ (fun _ e => by cases e) rfl rfl (fun h => absurd rfl h)) 
  (tys_cons (.of (i := Tryd.t36) (by kernel_rfl) Tryd.underlying36 rfl rfl rfl rfl (fun _ e => by cases e) rfl rfl (fun h => absurd rfl h)) 
  (tys_cons (.of (i := Tryd.t37) (by kernel_rfl) Tryd.underlying37 rfl rfl rfl ⟨_, _, _, rfl⟩ (fun _ e => by cases e) rfl rfl (fun h => absurd rfl h)) 
  (tys_cons (.of (i := Tryd.t38) (by kernel_rfl) Tryd.underlying38 rfl rfl rfl ⟨_, _, _, rfl⟩ (fun _ e => by cases e) rfl rfl (fun h => absurd rfl h)) 
  (tys_cons (.of (i := Tryd.t39) (by kernel_rfl) Tryd.underlying39 rfl rfl rfl ⟨_, _, _, rfl⟩ (fun _ e => by cases e) rfl rfl (fun h => absurd rfl h)) 
  (tys_cons (.of (i := Tryd.t40) (by kernel_rfl) Tryd.underlying40 rfl rfl rfl ⟨_, _, _, rfl⟩ (fun _ e => by cases e) rfl rfl (fun h => absurd rfl h)) 
  (tys_cons (.of (i := Tryd.t41) (by kernel_rfl) Tryd.underlying41 rfl rfl rfl rfl (fun _ e => by cases e) rfl rfl (fun h => absurd rfl h)) 
  (tys_cons (.of (i := Tryd.t42) (by kernel_rfl) Tryd.underlying42 rfl rfl rfl ⟨_, _, _, rfl⟩ (fun _ e => by cases e) rfl rfl (fun h => absurd rfl h)) 
  (tys_cons (.of (i := Tryd.t44) (by kernel_rfl) Tryd.underlying44 rfl rfl rfl ⟨_, _, _, rfl⟩ (fun _ e => by cases e) rfl rfl (fun h => absurd rfl h)) 
  (tys_cons (.of (i := Tryd.t45) (by kernel_rfl) Tryd.underlying45 rfl rfl rfl ⟨_, _, _, rfl⟩ (fun _ e => by cases e) rfl rfl (fun h => absurd rfl h)) 
  (tys_cons (.of (i := Tryd.t46) (by kernel_rfl) Tryd.underlying46 rfl rfl rfl ⟨_, _, _, rfl⟩ (fun _ e => by cases e) rfl rfl (fun h => absurd rfl h)) 
  (tys_cons (.of (i := Tryd.t47) (by kernel_rfl) Tryd.underlying47 rfl rfl rfl rfl (fun _ e => by cases e) rfl rfl (fun h => absurd rfl h)) 
  (tys_cons (.of (i := Tryd.t48) (by kernel_rfl) Tryd.underlying48 rfl rfl rfl ⟨_, rfl, rfl⟩ (fun _ e => by cases e) rfl rfl (fun h => absurd rfl h)) 
  (tys_cons (.of (i := Tryd.t49) (by kernel_rfl) Tryd.underlying49 rfl rfl rfl rfl (fun _ e => by cases e) rfl rfl (fun h => absurd rfl h)) 
  (tys_cons (.of (i := Tryd.t50) (by kernel_rfl) Tryd.underlying50 rfl rfl rfl ⟨_, _, _, rfl⟩ (fun _ e => by cases e) rfl rfl (fun h => absurd rfl h)) 
  (tys_cons (.of (i := Tryd.t51) (by kernel_rfl) Tryd.underlying51 rfl rfl rfl ⟨_, _, _, rfl⟩ (fun _ e => by cases e) rfl rfl (fun h => absurd rfl h)) 
  (tys_cons (.of (i := Tryd.t52) (by kernel_rfl) Tryd.underlying52 rfl rfl rfl ⟨_, _, _, rfl⟩ (fun _ e => by cases e) rfl rfl (fun h => absurd rfl h)) 
  (tys_cons (.of (i := Tryd.t53) (by kernel_rfl) Tryd.underlying53 rfl rfl rfl ⟨_, _, _, rfl⟩ (fun _ e => by cases e) rfl rfl (fun h => absurd rfl h)) 
  (tys_cons (.of (i := Tryd.t54) (by kernel_rfl) Tryd.underlying54 rfl rfl rfl ⟨_, _, _, rfl⟩ (fun _ e => by cases e) rfl rfl (fun h => absurd rfl h)) 
  (tys_cons (.of (i := Tryd.t55) (by kernel_rfl) Tryd.underlying55 rfl rfl rfl ⟨_, _, _, rfl⟩ (fun _ e => by cases e) rfl rfl (fun h => absurd rfl h)) 
  (tys_cons (.of (i := Tryd.t56) (by kernel_rfl) Tryd.underlying56 rfl rfl rfl ⟨_, _, _, rfl⟩ (fun _ e => by cases e) rfl rfl (fun h => absurd rfl h)) 
  (tys_cons (.of (i := Tryd.t57) (by kernel_rfl) Tryd.underlying57 rfl rfl rfl ⟨_, rfl, rfl⟩ (fun _ e => by cases e) rfl rfl (fun h => absurd rfl h)) 
  (tys_cons (.of (i := Tryd.t58) (by kernel_rfl) Tryd.underlying58 rfl rfl rfl rfl (fun _ e => by cases e) rfl rfl (fun h => absurd rfl h)) 
  (tys_cons (.of (i := Tryd.t59) (by kernel_rfl) Tryd.underlying59 rfl rfl rfl ⟨_, rfl, rfl⟩ (fun _ e => by cases e) rfl rfl (fun h => absurd rfl h)) 
  (tys_cons (.of (i := Tryd.t60) (by kernel_rfl) Tryd.underlying60 rfl rfl rfl rfl (fun _ e => by cases e) rfl rfl (fun h => absurd rfl h)) 
  (tys_cons (.of (i := Tryd.t62) (by kernel_rfl) Tryd.underlying62 rfl rfl rfl ⟨_, _, _, rfl⟩ (fun _ e => by cases e) rfl rfl (fun h => absurd rfl h)) 
  (tys_cons (.of (i := Tryd.t63) (by kernel_rfl) Tryd.underlying63 rfl rfl rfl rfl (fun _ e => by cases e) rfl rfl (fun h => absurd rfl h)) 
  (tys_cons (.of (i := Tryd.t65) (by kernel_rfl) Tryd.underlying65 rfl rfl rfl ⟨_, _, _, rfl⟩ (fun _ e => by cases e) rfl rfl (fun h => absurd rfl h)) 
  (tys_cons (.of (i := Tryd.t67) (by kernel_rfl) Tryd.underlying67 rfl rfl rfl ⟨_, _, _, rfl⟩ (fun _ e => by cases e) rfl rfl (fun h => absurd rfl h)) 
  (tys_cons (.of (i := Tryd.t68) (by kernel_rfl) Tryd.underlying68 rfl rfl rfl ⟨_, _, _, rfl⟩ (fun _ e => by cases e) rfl rfl (fun h => absurd rfl h)) 
  (tys_cons (.of (i := Tryd.t69) (by kernel_rfl) Tryd.underlying69 rfl rfl rfl ⟨_, rfl, rfl⟩ (fun _ e => by cases e) rfl rfl (fun h => absurd rfl h)) 
  (tys_cons (.of (i := Tryd.t70) (by kernel_rfl) Tryd.underlying70 rfl rfl rfl rfl (fun _ e => by cases e) rfl rfl (fun h => absurd rfl h)) 
  (tys_cons (.of (i := Tryd.t71) (by kernel_rfl) Tryd.underlying71 rfl rfl rfl ⟨_, _, _, rfl⟩ (fun _ e => by cases e) rfl rfl (fun h => absurd rfl h)) 
  (tys_cons (.of (i := Tryd.t72) (by kernel_rfl) Tryd.underlying72 rfl rfl rfl rfl (fun _ e => by cases e) rfl rfl (fun h => absurd rfl h)) 
  (tys_cons (.of (i := Tryd.t73) (by kernel_rfl) Tryd.underlying73 rfl rfl rfl rfl (fun _ e => by cases e) rfl rfl (fun h => absurd rfl h)) 
  (tys_cons (.of (i := Tryd.t74) (by kernel_rfl) Tryd.underlying74 rfl rfl rfl ⟨_, _, _, rfl⟩ (fun _ e => by cases e) rfl rfl (fun h => absurd rfl h)) 
  (tys_cons (.of (i := Tryd.t75) (by kernel_rfl) Tryd.underlying75 rfl rfl rfl ⟨_, _, _, rfl⟩ (fun _ e => by cases e) rfl rfl (fun h => absurd rfl h)) 
  (tys_cons (.of (i := Tryd.t76) (by kernel_rfl) Tryd.underlying76 rfl rfl rfl ⟨_, _, _, rfl⟩ (fun _ e => by cases e) rfl rfl (fun h => absurd rfl h)) 
  (tys_cons (.of (i := Tryd.t77) (by kernel_rfl) Tryd.underlying77 rfl rfl rfl ⟨_, _, _, rfl⟩ (fun _ e => by cases e) rfl rfl (fun h => absurd rfl h)) 
  (tys_cons (.of (i := Tryd.t78) (by kernel_rfl) Tryd.underlying78 rfl rfl rfl ⟨_, _, _, rfl⟩ (fun _ e => by cases e) rfl rfl (fun h => absurd rfl h)) 
  (tys_cons (.of (i := Tryd.t79) (by kernel_rfl) Tryd.underlying79 rfl rfl rfl ⟨_, _, _, rfl⟩ (fun _ e => by cases e) rfl rfl (fun h => absurd rfl h)) 
  (tys_cons (.of (i := Tryd.t80) (by kernel_rfl) Tryd.underlying80 rfl rfl rfl ⟨_, _, _, rfl⟩ (fun _ e => by cases e) rfl rfl (fun h => absurd rfl h)) 
  (tys_cons (.of (i := Tryd.t81) (by kernel_rfl) Tryd.underlying81 rfl rfl rfl ⟨_, _, _, rfl⟩ (fun _ e => by cases e) rfl rfl (fun h => absurd rfl h)) 
  (tys_cons (.of (i := Tryd.t82) (by kernel_rfl) Tryd.underlying82 rfl rfl rfl ⟨_, _, _, rfl⟩ (fun _ e => by cases e) rfl rfl (fun h => absurd rfl h)) 
  (tys_cons (.of (i := Tryd.t83) (by kernel_rfl) Tryd.underlying83 rfl rfl rfl rfl (fun _ e => by cases e) rfl rfl (fun h => absurd rfl h)) 
  (tys_cons (.of (i := Tryd.t84) (by kernel_rfl) Tryd.underlying84 rfl rfl rfl ⟨_, _, _, rfl⟩ (fun _ e => by cases e) rfl rfl (fun h => absurd rfl h)) 
  (tys_cons (.of (i := Tryd.t85) (by kernel_rfl) Tryd.underlying85 rfl rfl rfl ⟨_, _, _, rfl⟩ (fun _ e => by cases e) rfl rfl (fun h => absurd rfl h)) 
  (tys_cons (.of (i := Tryd.t86) (by kernel_rfl) Tryd.underlying86 rfl rfl rfl ⟨_, _, _, rfl⟩ (fun _ e => by cases e) rfl rfl (fun h => absurd rfl h)) 
  (tys_cons (.of (i := Tryd.t87) (by kernel_rfl) Tryd.underlying87 rfl rfl rfl ⟨_, _, _, rfl⟩ (fun _ e => by cases e) rfl rfl (fun h => absurd rfl h)) 
  (tys_cons (.of (i := Tryd.t88) (by kernel_rfl) Tryd.underlying88 rfl rfl rfl rfl (fun _ e => by cases e) rfl rfl (fun h => absurd rfl h)) 
  (tys_cons (.of (i := Tryd.t89) (by kernel_rfl) Tryd.underlying89 rfl rfl rfl rfl (fun _ e => by cases e) rfl rfl (fun h => absurd rfl h)) 
  (tys_cons (.of (i := Tryd.t90) (by kernel_rfl) Tryd.underlying90 rfl rfl rfl ⟨_, _, _, rfl⟩ (fun _ e => by cases e) rfl rfl (fun h => absurd rfl h)) 
  (tys_cons (.of (i := Tryd.t91) (by kernel_rfl) Tryd.underlying91 rfl rfl rfl ⟨_, _, _, rfl⟩ (fun _ e => by cases e) rfl rfl (fun h => absurd rfl h)) 
  (tys_cons (.of (i := Tryd.t93) (by kernel_rfl) Tryd.underlying93 rfl rfl rfl ⟨_, _, _, rfl⟩ (fun _ e => by cases e) rfl rfl (fun h => absurd rfl h)) 
  (tys_cons (.of (i := Tryd.t95) (by kernel_rfl) Tryd.underlying95 rfl rfl rfl ⟨_, _, _, rfl⟩ (fun _ e => by cases e) rfl rfl (fun h => absurd rfl h)) 
  (tys_cons (.of (i := Tryd.t96) (by kernel_rfl) Tryd.underlying96 rfl rfl rfl ⟨_, _, _, rfl⟩ (fun _ e => by cases e) rfl rfl (fun h => absurd rfl h)) 
  (tys_cons (.of (i := Tryd.t97) (by kernel_rfl) Tryd.underlying97 rfl rfl rfl ⟨_, _, _, rfl⟩ (fun _ e => by cases e) rfl rfl (fun h => absurd rfl h)) 
  (tys_cons (.of (i := Tryd.t98) (by kernel_rfl) Tryd.underlying98 rfl rfl rfl rfl (fun _ e => by cases e) rfl rfl (fun h => absurd rfl h)) 
  (tys_cons (.of (i := Tryd.t99) (by kernel_rfl) Tryd.underlying99 rfl rfl rfl rfl (fun _ e => by cases e) rfl rfl (fun h => absurd rfl h)) 
  (tys_cons (.of (i := Tryd.t100) (by kernel_rfl) Tryd.underlying100 rfl rfl rfl ⟨_, _, _, rfl⟩ (fun _ e => by cases e) rfl rfl (fun h => absurd rfl h)) 
  (tys_cons (.of (i := Tryd.t101) (by kernel_rfl) Tryd.underlying101 rfl rfl rfl ⟨_, _, _, rfl⟩ (fun _ e => by cases e) rfl rfl (fun h => absurd rfl h)) 
  (tys_cons (.of (i := Tryd.t102) (by kernel_rfl) Tryd.underlying102 rfl rfl rfl rfl (fun _ e => by cases e) rfl rfl (fun h => absurd rfl h)) 
  (tys_cons (.of (i := Tryd.t103) (by kernel_rfl) Tryd.underlying103 rfl rfl rfl rfl (fun _ e => by cases e) rfl rfl (fun h => absurd rfl h)) 
  (tys_cons (.of (i := Tryd.t104) (by kernel_rfl) Tryd.underlying104 rfl rfl rfl ⟨_, _, _, rfl⟩ (fun _ e => by cases e) rfl rfl (fun h => absurd rfl h)) 
  (tys_cons (.of (i := Tryd.t105) (by kernel_rfl) Tryd.underlying105 rfl rfl rfl ⟨_, rfl, rfl⟩ (fun _ e => by cases e) rfl rfl (fun h => absurd rfl h)) 
  (tys_cons (.of (i := Tryd.t106) (by kernel_rfl) Tryd.underlying106 rfl rfl rfl ⟨_, rfl, rfl⟩ (fun _ e => by cases e) rfl rfl (fun h => absurd rfl h)) 
  (tys_cons (.of (i := Tryd.t107) (by kernel_rfl) Tryd.underlying107 rfl rfl rfl rfl (fun _ e => by cases e) rfl rfl (fun h => absurd rfl h)) 
  (tys_cons (.of (i := Tryd.t108) (by kernel_rfl) Tryd.underlying108 rfl rfl rfl ⟨_, rfl, rfl⟩ (fun _ e => by cases e) rfl rfl (fun h => absurd rfl h)) 
  (tys_cons (.of (i := Tryd.t109) (by kernel_rfl) Tryd.underlying109 rfl rfl rfl ⟨_, rfl, rfl⟩ (fun _ e => by cases e) rfl rfl (fun h => absurd rfl h)) 
  (tys_cons (.of (i := Tryd.t110) (by kernel_rfl) Tryd.underlying110 rfl rfl rfl ⟨_, _, _, rfl⟩ (fun _ e => by cases e) rfl rfl (fun h => absurd rfl h)) 
  (tys_cons (.of (i := Tryd.t111) (by kernel_rfl) Tryd.underlying111 rfl rfl rfl rfl (fun _ e => by cases e) rfl rfl (fun h => absurd rfl h)) 
  (tys_cons (.of (i := Tryd.t112) (by kernel_rfl) Tryd.underlying112 rfl rfl rfl rfl (fun _ e => by cases e) rfl rfl (fun h => absurd rfl h)) 
  (tys_cons (.of (i := Tryd.t113) (by kernel_rfl) Tryd.underlying113 rfl rfl rfl ⟨_, _, _, rfl⟩ (fun _ e => by cases e) rfl rfl (fun h => absurd rfl h)) 
  (tys_cons (.of (i := Tryd.t114) (by kernel_rfl) Tryd.underlying114 rfl rfl rfl rfl (fun _ e => by cases e) rfl rfl (fun h => absurd rfl h)) 
  (tys_cons (.of (i := Tryd.t115) (by kernel_rfl) Tryd.underlying115 rfl rfl rfl rfl (fun _ e => by cases e) rfl rfl (fun h => absurd rfl h)) 
  (tys_cons (.of (i := Tryd.t116) (by kernel_rfl) Tryd.underlying116 rfl rfl rfl rfl (fun _ e => by cases e) rfl rfl (fun h => absurd rfl h)) 
  (tys_cons (.of (i := Tryd.t117) (by kernel_rfl) Tryd.underlying117 rfl rfl rfl ⟨_, rfl, rfl⟩ (fun _ e => by cases e) rfl rfl (fun h => absurd rfl h)) 
  (tys_cons (.of (i := Tryd.t118) (by kernel_rfl) Tryd.underlying118 rfl rfl rfl ⟨_, rfl, rfl⟩ (fun _ e => by cases e) rfl rfl (fun h => absurd rfl h)) tys_nil)))))))))))))))))))))))))))))))))))))))))))))))))))))))))))))))))))))))))))))))))))))))))))))))))))))))))))))

/-- The program, behind a name. -/
class IsProg (P : Program) : Prop where
  eq : P = Tryd.prog
instance : IsProg Tryd.prog := ⟨rfl⟩
variable {P : Program} [IsProg P]
def tau : Tys := Ax.look tyList
theorem tau_ok0 : ∀ t ti, tau t = some ti → TIok Tryd.prog t ti := tys_ok tyList_ok
theorem tau_ok : ∀ t ti, tau t = some ti → TIok P t ti := by
  have h := IsProg.eq (P := P)
  subst h
  exact tau_ok0
theorem mix0 : Tryd.prog.follows .mixedOrders = true := by kernel_rfl
theorem mix : P.follows .mixedOrders = true := by
  have h := IsProg.eq (P := P)
  subst h
  exact mix0

variable {gl : Nat → Option (List AV)}

/- analemma/analemmalaw04.OffsetParses -/
noncomputable def code3 : Code := Tryd.f3.body.getD .skip
theorem inl3 {J : Jd} {args : List AV} {H : Heap} {n : Nat} {R : AV → Heap → Nat → Prop} (hargs : args.length ≤ 32) (h : T.prop P gl n (resQ R) (bodyT tau gl J code3 32 [.tmp 2] args H n)) : CallA P gl 3 args H n R :=
  CallA.inlineE IsProg.eq tau_ok0 mix0 Tryd.func3 (by kernel_rfl) (by kernel_rfl) (by kernel_rfl) (by kernel_rfl) hargs h

/- analemma/analemmalaw04.OffsetPrints -/
noncomputable def code4 : Code := Tryd.f4.body.getD .skip
theorem inl4 {J : Jd} {args : List AV} {H : Heap} {n : Nat} {R : AV → Heap → Nat → Prop} (hargs : args.length ≤ 28) (h : T.prop P gl n (resQ R) (bodyT tau gl J code4 28 [.tmp 2] args H n)) : CallA P gl 4 args H n R :=
  CallA.inlineE IsProg.eq tau_ok0 mix0 Tryd.func4 (by kernel_rfl) (by kernel_rfl) (by kernel_rfl) (by kernel_rfl) hargs h

/- analemma/analemmalaw04.OffsetBack -/
noncomputable def code5 : Code := Tryd.f5.body.getD .skip
theorem inl5 {J : Jd} {args : List AV} {H : Heap} {n : Nat} {R : AV → Heap → Nat → Prop} (hargs : args.length ≤ 104) (h : T.prop P gl n (resQ R) (bodyT tau gl J code5 104 [.tmp 2] args H n)) : CallA P gl 5 args H n R :=
  CallA.inlineE IsProg.eq tau_ok0 mix0 Tryd.func5 (by kernel_rfl) (by kernel_rfl) (by kernel_rfl) (by kernel_rfl) hargs h

/- analemma/analemmalaw04.OffsetFields -/
noncomputable def code6 : Code := Tryd.f6.body.getD .skip
theorem inl6 {J : Jd} {args : List AV} {H : Heap} {n : Nat} {R : AV → Heap → Nat → Prop} (hargs : args.length ≤ 150) (h : T.prop P gl n (resQ R) (bodyT tau gl J code6 150 [.tmp 8] args H n)) : CallA P gl 6 args H n R :=
  CallA.inlineE IsProg.eq tau_ok0 mix0 Tryd.func6 (by kernel_rfl) (by kernel_rfl) (by kernel_rfl) (by kernel_rfl) hargs h

/- analemma/analemmalaw04.OffsetOrder -/
noncomputable def code7 : Code := Tryd.f7.body.getD .skip
theorem inl7 {J : Jd} {args : List AV} {H : Heap} {n : Nat} {R : AV → Heap → Nat → Prop} (hargs : args.length ≤ 64) (h : T.prop P gl n (resQ R) (bodyT tau gl J code7 64 [.tmp 4] args H n)) : CallA P gl 7 args H n R :=
  CallA.inlineE IsProg.eq tau_ok0 mix0 Tryd.func7 (by kernel_rfl) (by kernel_rfl) (by kernel_rfl) (by kernel_rfl) hargs h

/- analemma/analemmalaw04.OffsetSpoilt -/
noncomputable def code8 : Code := Tryd.f8.body.getD .skip
theorem inl8 {J : Jd} {args : List AV} {H : Heap} {n : Nat} {R : AV → Heap → Nat → Prop} (hargs : args.length ≤ 122) (h : T.prop P gl n (resQ R) (bodyT tau gl J code8 122 [.tmp 8] args H n)) : CallA P gl 8 args H n R :=
  CallA.inlineE IsProg.eq tau_ok0 mix0 Tryd.func8 (by kernel_rfl) (by kernel_rfl) (by kernel_rfl) (by kernel_rfl) hargs h

/- analemma/analemmalaw04.OffsetRefuses -/
noncomputable def code9 : Code := Tryd.f9.body.getD .skip
theorem inl9 {J : Jd} {args : List AV} {H : Heap} {n : Nat} {R : AV → Heap → Nat → Prop} (hargs : args.length ≤ 165) (h : T.prop P gl n (resQ R) (bodyT tau gl J code9 165 [.tmp 6] args H n)) : CallA P gl 9 args H n R :=
  CallA.inlineE IsProg.eq tau_ok0 mix0 Tryd.func9 (by kernel_rfl) (by kernel_rfl) (by kernel_rfl) (by kernel_rfl) hargs h

/- analemma/analemmalaw08.WordFinds -/
noncomputable def code10 : Code := Tryd.f10.body.getD .skip
theorem inl10 {J : Jd} {args : List AV} {H : Heap} {n : Nat} {R : AV → Heap → Nat → Prop} (hargs : args.length ≤ 94) (h : T.prop P gl n (resQ R) (bodyT tau gl J code10 94 [.tmp 2] args H n)) : CallA P gl 10 args H n R :=
  CallA.inlineE IsProg.eq tau_ok0 mix0 Tryd.func10 (by kernel_rfl) (by kernel_rfl) (by kernel_rfl) (by kernel_rfl) hargs h

/- analemma/analemmalaw08.WordTexts -/
noncomputable def code11 : Code := Tryd.f11.body.getD .skip
theorem inl11 {J : Jd} {args : List AV} {H : Heap} {n : Nat} {R : AV → Heap → Nat → Prop} (hargs : args.length ≤ 18) (h : T.prop P gl n (resQ R) (bodyT tau gl J code11 18 [.tmp 2] args H n)) : CallA P gl 11 args H n R :=
  CallA.inlineE IsProg.eq tau_ok0 mix0 Tryd.func11 (by kernel_rfl) (by kernel_rfl) (by kernel_rfl) (by kernel_rfl) hargs h

/- analemma/analemmalaw08.WordBack -/
noncomputable def code12 : Code := Tryd.f12.body.getD .skip
theorem inl12 {J : Jd} {args : List AV} {H : Heap} {n : Nat} {R : AV → Heap → Nat → Prop} (hargs : args.length ≤ 139) (h : T.prop P gl n (resQ R) (bodyT tau gl J code12 139 [.tmp 8] args H n)) : CallA P gl 12 args H n R :=
  CallA.inlineE IsProg.eq tau_ok0 mix0 Tryd.func12 (by kernel_rfl) (by kernel_rfl) (by kernel_rfl) (by kernel_rfl) hargs h

/- analemma/analemmalaw08.WordShort -/
noncomputable def code13 : Code := Tryd.f13.body.getD .skip
theorem inl13 {J : Jd} {args : List AV} {H : Heap} {n : Nat} {R : AV → Heap → Nat → Prop} (hargs : args.length ≤ 106) (h : T.prop P gl n (resQ R) (bodyT tau gl J code13 106 [.tmp 4] args H n)) : CallA P gl 13 args H n R :=
  CallA.inlineE IsProg.eq tau_ok0 mix0 Tryd.func13 (by kernel_rfl) (by kernel_rfl) (by kernel_rfl) (by kernel_rfl) hargs h

/- analemma/analemmalaw08.WordMore -/
noncomputable def code14 : Code := Tryd.f14.body.getD .skip
theorem inl14 {J : Jd} {args : List AV} {H : Heap} {n : Nat} {R : AV → Heap → Nat → Prop} (hargs : args.length ≤ 64) (h : T.prop P gl n (resQ R) (bodyT tau gl J code14 64 [.tmp 8] args H n)) : CallA P gl 14 args H n R :=
  CallA.inlineE IsProg.eq tau_ok0 mix0 Tryd.func14 (by kernel_rfl) (by kernel_rfl) (by kernel_rfl) (by kernel_rfl) hargs h

/- analemma/analemmalaw08.WordOne -/
noncomputable def code15 : Code := Tryd.f15.body.getD .skip
theorem inl15 {J : Jd} {args : List AV} {H : Heap} {n : Nat} {R : AV → Heap → Nat → Prop} (hargs : args.length ≤ 118) (h : T.prop P gl n (resQ R) (bodyT tau gl J code15 118 [.tmp 2] args H n)) : CallA P gl 15 args H n R :=
  CallA.inlineE IsProg.eq tau_ok0 mix0 Tryd.func15 (by kernel_rfl) (by kernel_rfl) (by kernel_rfl) (by kernel_rfl) hargs h

/- analemma/analemmalaw08.WordNumbers -/
noncomputable def code16 : Code := Tryd.f16.body.getD .skip
theorem inl16 {J : Jd} {args : List AV} {H : Heap} {n : Nat} {R : AV → Heap → Nat → Prop} (hargs : args.length ≤ 31) (h : T.prop P gl n (resQ R) (bodyT tau gl J code16 31 [.tmp 2] args H n)) : CallA P gl 16 args H n R :=
  CallA.inlineE IsProg.eq tau_ok0 mix0 Tryd.func16 (by kernel_rfl) (by kernel_rfl) (by kernel_rfl) (by kernel_rfl) hargs h

/- analemma/analemmalaw04.works -/
noncomputable def code17 : Code := Tryd.f17.body.getD .skip
theorem inl17 {J : Jd} {args : List AV} {H : Heap} {n : Nat} {R : AV → Heap → Nat → Prop} (hargs : args.length ≤ 82) (h : T.prop P gl n (resQ R) (bodyT tau gl J code17 82 [.tmp 0] args H n)) : CallA P gl 17 args H n R :=
  CallA.inlineE IsProg.eq tau_ok0 mix0 Tryd.func17 (by kernel_rfl) (by kernel_rfl) (by kernel_rfl) (by kernel_rfl) hargs h

/- analemma/offset.Parse -/
noncomputable def code18 : Code := Tryd.f18.body.getD .skip
theorem inl18 {J : Jd} {args : List AV} {H : Heap} {n : Nat} {R : AV → Heap → Nat → Prop} (hargs : args.length ≤ 48) (h : T.prop P gl n (resQ R) (bodyT tau gl J code18 48 [.tmp 2, .tmp 3] args H n)) : CallA P gl 18 args H n R :=
  CallA.inlineE IsProg.eq tau_ok0 mix0 Tryd.func18 (by kernel_rfl) (by kernel_rfl) (by kernel_rfl) (by kernel_rfl) hargs h

/- analemma/analemmaref04.Parse -/
noncomputable def code19 : Code := Tryd.f19.body.getD .skip
theorem inl19 {J : Jd} {args : List AV} {H : Heap} {n : Nat} {R : AV → Heap → Nat → Prop} (hargs : args.length ≤ 38) (h : T.prop P gl n (resQ R) (bodyT tau gl J code19 38 [.tmp 2, .tmp 3] args H n)) : CallA P gl 19 args H n R :=
  CallA.inlineE IsProg.eq tau_ok0 mix0 Tryd.func19 (by kernel_rfl) (by kernel_rfl) (by kernel_rfl) (by kernel_rfl) hargs h

/- analemma/offset.Print -/
noncomputable def code20 : Code := Tryd.f20.body.getD .skip
theorem inl20 {J : Jd} {args : List AV} {H : Heap} {n : Nat} {R : AV → Heap → Nat → Prop} (hargs : args.length ≤ 40) (h : T.prop P gl n (resQ R) (bodyT tau gl J code20 40 [.tmp 2, .tmp 3] args H n)) : CallA P gl 20 args H n R :=
  CallA.inlineE IsProg.eq tau_ok0 mix0 Tryd.func20 (by kernel_rfl) (by kernel_rfl) (by kernel_rfl) (by kernel_rfl) hargs h

/- analemma/analemmaref04.Print -/
noncomputable def code21 : Code := Tryd.f21.body.getD .skip
theorem inl21 {J : Jd} {args : List AV} {H : Heap} {n : Nat} {R : AV → Heap → Nat → Prop} (hargs : args.length ≤ 42) (h : T.prop P gl n (resQ R) (bodyT tau gl J code21 42 [.tmp 2, .tmp 3] args H n)) : CallA P gl 21 args H n R :=
  CallA.inlineE IsProg.eq tau_ok0 mix0 Tryd.func21 (by kernel_rfl) (by kernel_rfl) (by kernel_rfl) (by kernel_rfl) hargs h

/- analemma/analemmalaw04.OffsetFields$1 -/
noncomputable def code22 : Code := Tryd.f22.body.getD .skip
theorem inl22 {J : Jd} {args : List AV} {H : Heap} {n : Nat} {R : AV → Heap → Nat → Prop} (hargs : args.length ≤ 13) (h : T.prop P gl n (resQ R) (bodyT tau gl J code22 13 [.tmp 2] args H n)) : CallA P gl 22 args H n R :=
  CallA.inlineE IsProg.eq tau_ok0 mix0 Tryd.func22 (by kernel_rfl) (by kernel_rfl) (by kernel_rfl) (by kernel_rfl) hargs h

/- strings.Cut -/
noncomputable def code23 : Code := Tryd.f23.body.getD .skip
theorem inl23 {J : Jd} {args : List AV} {H : Heap} {n : Nat} {R : AV → Heap → Nat → Prop} (hargs : args.length ≤ 13) (h : T.prop P gl n (resQ R) (bodyT tau gl J code23 13 [.tmp 4, .tmp 5, .tmp 6] args H n)) : CallA P gl 23 args H n R :=
  CallA.inlineE IsProg.eq tau_ok0 mix0 Tryd.func23 (by kernel_rfl) (by kernel_rfl) (by kernel_rfl) (by kernel_rfl) hargs h

/- strings.Index -/
noncomputable def code24 : Code := Tryd.f24.body.getD .skip
theorem inl24 {J : Jd} {args : List AV} {H : Heap} {n : Nat} {R : AV → Heap → Nat → Prop} (hargs : args.length ≤ 8) (h : T.prop P gl n (resQ R) (bodyT tau gl J code24 8 [.tmp 4] args H n)) : CallA P gl 24 args H n R :=
  CallA.inlineE IsProg.eq tau_ok0 mix0 Tryd.func24 (by kernel_rfl) (by kernel_rfl) (by kernel_rfl) (by kernel_rfl) hargs h

/- analemma/analemmalaw08.works -/
noncomputable def code25 : Code := Tryd.f25.body.getD .skip
theorem inl25 {J : Jd} {args : List AV} {H : Heap} {n : Nat} {R : AV → Heap → Nat → Prop} (hargs : args.length ≤ 67) (h : T.prop P gl n (resQ R) (bodyT tau gl J code25 67 [.tmp 0] args H n)) : CallA P gl 25 args H n R :=
  CallA.inlineE IsProg.eq tau_ok0 mix0 Tryd.func25 (by kernel_rfl) (by kernel_rfl) (by kernel_rfl) (by kernel_rfl) hargs h

/- analemma/word.Line -/
noncomputable def code26 : Code := Tryd.f26.body.getD .skip
theorem inl26 {J : Jd} {args : List AV} {H : Heap} {n : Nat} {R : AV → Heap → Nat → Prop} (hargs : args.length ≤ 9) (h : T.prop P gl n (resQ R) (bodyT tau gl J code26 9 [.tmp 2, .tmp 3] args H n)) : CallA P gl 26 args H n R :=
  CallA.inlineE IsProg.eq tau_ok0 mix0 Tryd.func26 (by kernel_rfl) (by kernel_rfl) (by kernel_rfl) (by kernel_rfl) hargs h

/- analemma/analemmaref08.Line -/
noncomputable def code27 : Code := Tryd.f27.body.getD .skip
theorem inl27 {J : Jd} {args : List AV} {H : Heap} {n : Nat} {R : AV → Heap → Nat → Prop} (hargs : args.length ≤ 17) (h : T.prop P gl n (resQ R) (bodyT tau gl J code27 17 [.tmp 2, .tmp 3] args H n)) : CallA P gl 27 args H n R :=
  CallA.inlineE IsProg.eq tau_ok0 mix0 Tryd.func27 (by kernel_rfl) (by kernel_rfl) (by kernel_rfl) (by kernel_rfl) hargs h

/- analemma/word.Month -/
noncomputable def code28 : Code := Tryd.f28.body.getD .skip
theorem inl28 {J : Jd} {args : List AV} {H : Heap} {n : Nat} {R : AV → Heap → Nat → Prop} (hargs : args.length ≤ 9) (h : T.prop P gl n (resQ R) (bodyT tau gl J code28 9 [.tmp 2, .tmp 3] args H n)) : CallA P gl 28 args H n R :=
  CallA.inlineE IsProg.eq tau_ok0 mix0 Tryd.func28 (by kernel_rfl) (by kernel_rfl) (by kernel_rfl) (by kernel_rfl) hargs h

/- analemma/analemmaref08.Month -/
noncomputable def code29 : Code := Tryd.f29.body.getD .skip
theorem inl29 {J : Jd} {args : List AV} {H : Heap} {n : Nat} {R : AV → Heap → Nat → Prop} (hargs : args.length ≤ 17) (h : T.prop P gl n (resQ R) (bodyT tau gl J code29 17 [.tmp 2, .tmp 3] args H n)) : CallA P gl 29 args H n R :=
  CallA.inlineE IsProg.eq tau_ok0 mix0 Tryd.func29 (by kernel_rfl) (by kernel_rfl) (by kernel_rfl) (by kernel_rfl) hargs h

/- analemma/word.Week -/
noncomputable def code30 : Code := Tryd.f30.body.getD .skip
theorem inl30 {J : Jd} {args : List AV} {H : Heap} {n : Nat} {R : AV → Heap → Nat → Prop} (hargs : args.length ≤ 9) (h : T.prop P gl n (resQ R) (bodyT tau gl J code30 9 [.tmp 2, .tmp 3] args H n)) : CallA P gl 30 args H n R :=
  CallA.inlineE IsProg.eq tau_ok0 mix0 Tryd.func30 (by kernel_rfl) (by kernel_rfl) (by kernel_rfl) (by kernel_rfl) hargs h

/- analemma/analemmaref08.Week -/
noncomputable def code31 : Code := Tryd.f31.body.getD .skip
theorem inl31 {J : Jd} {args : List AV} {H : Heap} {n : Nat} {R : AV → Heap → Nat → Prop} (hargs : args.length ≤ 9) (h : T.prop P gl n (resQ R) (bodyT tau gl J code31 9 [.tmp 2, .tmp 3] args H n)) : CallA P gl 31 args H n R :=
  CallA.inlineE IsProg.eq tau_ok0 mix0 Tryd.func31 (by kernel_rfl) (by kernel_rfl) (by kernel_rfl) (by kernel_rfl) hargs h

/- analemma/word.To -/
noncomputable def code32 : Code := Tryd.f32.body.getD .skip
theorem inl32 {J : Jd} {args : List AV} {H : Heap} {n : Nat} {R : AV → Heap → Nat → Prop} (hargs : args.length ≤ 9) (h : T.prop P gl n (resQ R) (bodyT tau gl J code32 9 [.tmp 2, .tmp 3] args H n)) : CallA P gl 32 args H n R :=
  CallA.inlineE IsProg.eq tau_ok0 mix0 Tryd.func32 (by kernel_rfl) (by kernel_rfl) (by kernel_rfl) (by kernel_rfl) hargs h

/- analemma/analemmaref08.To -/
noncomputable def code33 : Code := Tryd.f33.body.getD .skip
theorem inl33 {J : Jd} {args : List AV} {H : Heap} {n : Nat} {R : AV → Heap → Nat → Prop} (hargs : args.length ≤ 17) (h : T.prop P gl n (resQ R) (bodyT tau gl J code33 17 [.tmp 2, .tmp 3] args H n)) : CallA P gl 33 args H n R :=
  CallA.inlineE IsProg.eq tau_ok0 mix0 Tryd.func33 (by kernel_rfl) (by kernel_rfl) (by kernel_rfl) (by kernel_rfl) hargs h

/- analemma/word.MonthText -/
noncomputable def code34 : Code := Tryd.f34.body.getD .skip
theorem inl34 {J : Jd} {args : List AV} {H : Heap} {n : Nat} {R : AV → Heap → Nat → Prop} (hargs : args.length ≤ 7) (h : T.prop P gl n (resQ R) (bodyT tau gl J code34 7 [.tmp 2] args H n)) : CallA P gl 34 args H n R :=
  CallA.inlineE IsProg.eq tau_ok0 mix0 Tryd.func34 (by kernel_rfl) (by kernel_rfl) (by kernel_rfl) (by kernel_rfl) hargs h

/- analemma/analemmaref08.MonthText -/
noncomputable def code35 : Code := Tryd.f35.body.getD .skip
theorem inl35 {J : Jd} {args : List AV} {H : Heap} {n : Nat} {R : AV → Heap → Nat → Prop} (hargs : args.length ≤ 15) (h : T.prop P gl n (resQ R) (bodyT tau gl J code35 15 [.tmp 2] args H n)) : CallA P gl 35 args H n R :=
  CallA.inlineE IsProg.eq tau_ok0 mix0 Tryd.func35 (by kernel_rfl) (by kernel_rfl) (by kernel_rfl) (by kernel_rfl) hargs h

/- analemma/word.WeekText -/
noncomputable def code36 : Code := Tryd.f36.body.getD .skip
theorem inl36 {J : Jd} {args : List AV} {H : Heap} {n : Nat} {R : AV → Heap → Nat → Prop} (hargs : args.length ≤ 6) (h : T.prop P gl n (resQ R) (bodyT tau gl J code36 6 [.tmp 2] args H n)) : CallA P gl 36 args H n R :=
  CallA.inlineE IsProg.eq tau_ok0 mix0 Tryd.func36 (by kernel_rfl) (by kernel_rfl) (by kernel_rfl) (by kernel_rfl) hargs h

/- analemma/analemmaref08.WeekText -/
noncomputable def code37 : Code := Tryd.f37.body.getD .skip
theorem inl37 {J : Jd} {args : List AV} {H : Heap} {n : Nat} {R : AV → Heap → Nat → Prop} (hargs : args.length ≤ 14) (h : T.prop P gl n (resQ R) (bodyT tau gl J code37 14 [.tmp 2] args H n)) : CallA P gl 37 args H n R :=
  CallA.inlineE IsProg.eq tau_ok0 mix0 Tryd.func37 (by kernel_rfl) (by kernel_rfl) (by kernel_rfl) (by kernel_rfl) hargs h

/- analemma/analemmalaw08.lists -/
noncomputable def code38 : Code := Tryd.f38.body.getD .skip
theorem inl38 {J : Jd} {args : List AV} {H : Heap} {n : Nat} {R : AV → Heap → Nat → Prop} (hargs : args.length ≤ 10) (h : T.prop P gl n (resQ R) (bodyT tau gl J code38 10 [.tmp 0] args H n)) : CallA P gl 38 args H n R :=
  CallA.inlineE IsProg.eq tau_ok0 mix0 Tryd.func38 (by kernel_rfl) (by kernel_rfl) (by kernel_rfl) (by kernel_rfl) hargs h

/- analemma/analemmalaw08.cased -/
noncomputable def code39 : Code := Tryd.f39.body.getD .skip
theorem inl39 {J : Jd} {args : List AV} {H : Heap} {n : Nat} {R : AV → Heap → Nat → Prop} (hargs : args.length ≤ 43) (h : T.prop P gl n (resQ R) (bodyT tau gl J code39 43 [.tmp 4] args H n)) : CallA P gl 39 args H n R :=
  CallA.inlineE IsProg.eq tau_ok0 mix0 Tryd.func39 (by kernel_rfl) (by kernel_rfl) (by kernel_rfl) (by kernel_rfl) hargs h

/- analemma/analemmalaw08.WordShort$1 -/
noncomputable def code40 : Code := Tryd.f40.body.getD .skip
theorem inl40 {J : Jd} {args : List AV} {H : Heap} {n : Nat} {R : AV → Heap → Nat → Prop} (hargs : args.length ≤ 12) (h : T.prop P gl n (resQ R) (bodyT tau gl J code40 12 [.tmp 2] args H n)) : CallA P gl 40 args H n R :=
  CallA.inlineE IsProg.eq tau_ok0 mix0 Tryd.func40 (by kernel_rfl) (by kernel_rfl) (by kernel_rfl) (by kernel_rfl) hargs h

/- strings.CutPrefix -/
noncomputable def code41 : Code := Tryd.f41.body.getD .skip
theorem inl41 {J : Jd} {args : List AV} {H : Heap} {n : Nat} {R : AV → Heap → Nat → Prop} (hargs : args.length ≤ 11) (h : T.prop P gl n (resQ R) (bodyT tau gl J code41 11 [.tmp 4, .tmp 5] args H n)) : CallA P gl 41 args H n R :=
  CallA.inlineE IsProg.eq tau_ok0 mix0 Tryd.func41 (by kernel_rfl) (by kernel_rfl) (by kernel_rfl) (by kernel_rfl) hargs h

/- analemma/offset.split -/
noncomputable def code42 : Code := Tryd.f42.body.getD .skip
theorem inl42 {J : Jd} {args : List AV} {H : Heap} {n : Nat} {R : AV → Heap → Nat → Prop} (hargs : args.length ≤ 66) (h : T.prop P gl n (resQ R) (bodyT tau gl J code42 66 [.cell 2 63, .tmp 3] args H n)) : CallA P gl 42 args H n R :=
  CallA.inlineE IsProg.eq tau_ok0 mix0 Tryd.func42 (by kernel_rfl) (by kernel_rfl) (by kernel_rfl) (by kernel_rfl) hargs h

/- analemma/analemmaref04.form -/
noncomputable def code43 : Code := Tryd.f43.body.getD .skip
theorem inl43 {J : Jd} {args : List AV} {H : Heap} {n : Nat} {R : AV → Heap → Nat → Prop} (hargs : args.length ≤ 96) (h : T.prop P gl n (resQ R) (bodyT tau gl J code43 96 [.tmp 2, .tmp 3] args H n)) : CallA P gl 43 args H n R :=
  CallA.inlineE IsProg.eq tau_ok0 mix0 Tryd.func43 (by kernel_rfl) (by kernel_rfl) (by kernel_rfl) (by kernel_rfl) hargs h

/- strconv.FormatInt -/
noncomputable def code44 : Code := Tryd.f44.body.getD .skip
theorem inl44 {J : Jd} {args : List AV} {H : Heap} {n : Nat} {R : AV → Heap → Nat → Prop} (hargs : args.length ≤ 8) (h : T.prop P gl n (resQ R) (bodyT tau gl J code44 8 [.tmp 4] args H n)) : CallA P gl 44 args H n R :=
  CallA.inlineE IsProg.eq tau_ok0 mix0 Tryd.func44 (by kernel_rfl) (by kernel_rfl) (by kernel_rfl) (by kernel_rfl) hargs h

/- analemma/offset.two -/
noncomputable def code45 : Code := Tryd.f45.body.getD .skip
theorem inl45 {J : Jd} {args : List AV} {H : Heap} {n : Nat} {R : AV → Heap → Nat → Prop} (hargs : args.length ≤ 11) (h : T.prop P gl n (resQ R) (bodyT tau gl J code45 11 [.tmp 2] args H n)) : CallA P gl 45 args H n R :=
  CallA.inlineE IsProg.eq tau_ok0 mix0 Tryd.func45 (by kernel_rfl) (by kernel_rfl) (by kernel_rfl) (by kernel_rfl) hargs h

/- analemma/analemmaref04.Decimal -/
noncomputable def code46 : Code := Tryd.f46.body.getD .skip
theorem inl46 {J : Jd} {args : List AV} {H : Heap} {n : Nat} {R : AV → Heap → Nat → Prop} (hargs : args.length ≤ 16) (h : T.prop P gl n (resQ R) (bodyT tau gl J code46 16 [.tmp 2] args H n)) : CallA P gl 46 args H n R :=
  CallA.inlineE IsProg.eq tau_ok0 mix0 Tryd.func46 (by kernel_rfl) (by kernel_rfl) (by kernel_rfl) (by kernel_rfl) hargs h

/- analemma/analemmaref04.Two -/
noncomputable def code47 : Code := Tryd.f47.body.getD .skip
theorem inl47 {J : Jd} {args : List AV} {H : Heap} {n : Nat} {R : AV → Heap → Nat → Prop} (hargs : args.length ≤ 10) (h : T.prop P gl n (resQ R) (bodyT tau gl J code47 10 [.tmp 2] args H n)) : CallA P gl 47 args H n R :=
  CallA.inlineE IsProg.eq tau_ok0 mix0 Tryd.func47 (by kernel_rfl) (by kernel_rfl) (by kernel_rfl) (by kernel_rfl) hargs h

/- internal/stringslite.Cut -/
noncomputable def code48 : Code := Tryd.f48.body.getD .skip
theorem inl48 {J : Jd} {args : List AV} {H : Heap} {n : Nat} {R : AV → Heap → Nat → Prop} (hargs : args.length ≤ 23) (h : T.prop P gl n (resQ R) (bodyT tau gl J code48 23 [.tmp 4, .tmp 5, .tmp 6] args H n)) : CallA P gl 48 args H n R :=
  CallA.inlineE IsProg.eq tau_ok0 mix0 Tryd.func48 (by kernel_rfl) (by kernel_rfl) (by kernel_rfl) (by kernel_rfl) hargs h

/- internal/stringslite.Index -/
noncomputable def code49 : Code := Tryd.f49.body.getD .skip
theorem inl49 {J : Jd} {args : List AV} {H : Heap} {n : Nat} {R : AV → Heap → Nat → Prop} (hargs : args.length ≤ 143) (h : T.prop P gl n (resQ R) (bodyT tau gl J code49 143 [.tmp 4] args H n)) : CallA P gl 49 args H n R :=
  CallA.inlineE IsProg.eq tau_ok0 mix0 Tryd.func49 (by kernel_rfl) (by kernel_rfl) (by kernel_rfl) (by kernel_rfl) hargs h

/- analemma/word.find -/
noncomputable def code50 : Code := Tryd.f50.body.getD .skip
theorem inl50 {J : Jd} {args : List AV} {H : Heap} {n : Nat} {R : AV → Heap → Nat → Prop} (hargs : args.length ≤ 37) (h : T.prop P gl n (resQ R) (bodyT tau gl J code50 37 [.cell 6 3, .cell 7 23] args H n)) : CallA P gl 50 args H n R :=
  CallA.inlineE IsProg.eq tau_ok0 mix0 Tryd.func50 (by kernel_rfl) (by kernel_rfl) (by kernel_rfl) (by kernel_rfl) hargs h

/- analemma/analemmaref08.find -/
noncomputable def code51 : Code := Tryd.f51.body.getD .skip
theorem inl51 {J : Jd} {args : List AV} {H : Heap} {n : Nat} {R : AV → Heap → Nat → Prop} (hargs : args.length ≤ 53) (h : T.prop P gl n (resQ R) (bodyT tau gl J code51 53 [.tmp 4, .tmp 5] args H n)) : CallA P gl 51 args H n R :=
  CallA.inlineE IsProg.eq tau_ok0 mix0 Tryd.func51 (by kernel_rfl) (by kernel_rfl) (by kernel_rfl) (by kernel_rfl) hargs h

/- analemma/analemmaref08.lines -/
noncomputable def code52 : Code := Tryd.f52.body.getD .skip
theorem inl52 {J : Jd} {args : List AV} {H : Heap} {n : Nat} {R : AV → Heap → Nat → Prop} (hargs : args.length ≤ 2) (h : T.prop P gl n (resQ R) (bodyT tau gl J code52 2 [.tmp 0] args H n)) : CallA P gl 52 args H n R :=
  CallA.inlineE IsProg.eq tau_ok0 mix0 Tryd.func52 (by kernel_rfl) (by kernel_rfl) (by kernel_rfl) (by kernel_rfl) hargs h

/- analemma/analemmaref08.more -/
noncomputable def code53 : Code := Tryd.f53.body.getD .skip
theorem inl53 {J : Jd} {args : List AV} {H : Heap} {n : Nat} {R : AV → Heap → Nat → Prop} (hargs : args.length ≤ 11) (h : T.prop P gl n (resQ R) (bodyT tau gl J code53 11 [.tmp 4, .tmp 5] args H n)) : CallA P gl 53 args H n R :=
  CallA.inlineE IsProg.eq tau_ok0 mix0 Tryd.func53 (by kernel_rfl) (by kernel_rfl) (by kernel_rfl) (by kernel_rfl) hargs h

/- analemma/analemmaref08.months -/
noncomputable def code54 : Code := Tryd.f54.body.getD .skip
theorem inl54 {J : Jd} {args : List AV} {H : Heap} {n : Nat} {R : AV → Heap → Nat → Prop} (hargs : args.length ≤ 2) (h : T.prop P gl n (resQ R) (bodyT tau gl J code54 2 [.tmp 0] args H n)) : CallA P gl 54 args H n R :=
  CallA.inlineE IsProg.eq tau_ok0 mix0 Tryd.func54 (by kernel_rfl) (by kernel_rfl) (by kernel_rfl) (by kernel_rfl) hargs h

/- analemma/analemmaref08.weeks -/
noncomputable def code55 : Code := Tryd.f55.body.getD .skip
theorem inl55 {J : Jd} {args : List AV} {H : Heap} {n : Nat} {R : AV → Heap → Nat → Prop} (hargs : args.length ≤ 2) (h : T.prop P gl n (resQ R) (bodyT tau gl J code55 2 [.tmp 0] args H n)) : CallA P gl 55 args H n R :=
  CallA.inlineE IsProg.eq tau_ok0 mix0 Tryd.func55 (by kernel_rfl) (by kernel_rfl) (by kernel_rfl) (by kernel_rfl) hargs h

/- analemma/analemmaref08.years -/
noncomputable def code56 : Code := Tryd.f56.body.getD .skip
theorem inl56 {J : Jd} {args : List AV} {H : Heap} {n : Nat} {R : AV → Heap → Nat → Prop} (hargs : args.length ≤ 2) (h : T.prop P gl n (resQ R) (bodyT tau gl J code56 2 [.tmp 0] args H n)) : CallA P gl 56 args H n R :=
  CallA.inlineE IsProg.eq tau_ok0 mix0 Tryd.func56 (by kernel_rfl) (by kernel_rfl) (by kernel_rfl) (by kernel_rfl) hargs h

/- analemma/word.short -/
noncomputable def code57 : Code := Tryd.f57.body.getD .skip
theorem inl57 {J : Jd} {args : List AV} {H : Heap} {n : Nat} {R : AV → Heap → Nat → Prop} (hargs : args.length ≤ 29) (h : T.prop P gl n (resQ R) (bodyT tau gl J code57 29 [.tmp 4] args H n)) : CallA P gl 57 args H n R :=
  CallA.inlineE IsProg.eq tau_ok0 mix0 Tryd.func57 (by kernel_rfl) (by kernel_rfl) (by kernel_rfl) (by kernel_rfl) hargs h

/- analemma/analemmaref08.short -/
noncomputable def code58 : Code := Tryd.f58.body.getD .skip
theorem inl58 {J : Jd} {args : List AV} {H : Heap} {n : Nat} {R : AV → Heap → Nat → Prop} (hargs : args.length ≤ 12) (h : T.prop P gl n (resQ R) (bodyT tau gl J code58 12 [.tmp 2] args H n)) : CallA P gl 58 args H n R :=
  CallA.inlineE IsProg.eq tau_ok0 mix0 Tryd.func58 (by kernel_rfl) (by kernel_rfl) (by kernel_rfl) (by kernel_rfl) hargs h

/- internal/stringslite.CutPrefix -/
noncomputable def code59 : Code := Tryd.f59.body.getD .skip
theorem inl59 {J : Jd} {args : List AV} {H : Heap} {n : Nat} {R : AV → Heap → Nat → Prop} (hargs : args.length ≤ 15) (h : T.prop P gl n (resQ R) (bodyT tau gl J code59 15 [.tmp 4, .tmp 5] args H n)) : CallA P gl 59 args H n R :=
  CallA.inlineE IsProg.eq tau_ok0 mix0 Tryd.func59 (by kernel_rfl) (by kernel_rfl) (by kernel_rfl) (by kernel_rfl) hargs h

/- analemma/offset.split$1 -/
noncomputable def code60 : Code := Tryd.f60.body.getD .skip
theorem inl60 {J : Jd} {args : List AV} {H : Heap} {n : Nat} {R : AV → Heap → Nat → Prop} (hargs : args.length ≤ 32) (h : T.prop P gl n (resQ R) (bodyT tau gl J code60 32 [.tmp 2] args H n)) : CallA P gl 60 args H n R :=
  CallA.inlineE IsProg.eq tau_ok0 mix0 Tryd.func60 (by kernel_rfl) (by kernel_rfl) (by kernel_rfl) (by kernel_rfl) hargs h

/- analemma/analemmaref04.digit -/
noncomputable def code61 : Code := Tryd.f61.body.getD .skip
theorem inl61 {J : Jd} {args : List AV} {H : Heap} {n : Nat} {R : AV → Heap → Nat → Prop} (hargs : args.length ≤ 12) (h : T.prop P gl n (resQ R) (bodyT tau gl J code61 12 [.tmp 2] args H n)) : CallA P gl 61 args H n R :=
  CallA.inlineE IsProg.eq tau_ok0 mix0 Tryd.func61 (by kernel_rfl) (by kernel_rfl) (by kernel_rfl) (by kernel_rfl) hargs h

/- analemma/analemmaref04.pair -/
noncomputable def code62 : Code := Tryd.f62.body.getD .skip
theorem inl62 {J : Jd} {args : List AV} {H : Heap} {n : Nat} {R : AV → Heap → Nat → Prop} (hargs : args.length ≤ 43) (h : T.prop P gl n (resQ R) (bodyT tau gl J code62 43 [.tmp 4] args H n)) : CallA P gl 62 args H n R :=
  CallA.inlineE IsProg.eq tau_ok0 mix0 Tryd.func62 (by kernel_rfl) (by kernel_rfl) (by kernel_rfl) (by kernel_rfl) hargs h

/- internal/strconv.FormatInt -/
noncomputable def code63 : Code := Tryd.f63.body.getD .skip
theorem inl63 {J : Jd} {args : List AV} {H : Heap} {n : Nat} {R : AV → Heap → Nat → Prop} (hargs : args.length ≤ 54) (h : T.prop P gl n (resQ R) (bodyT tau gl J code63 54 [.tmp 4] args H n)) : CallA P gl 63 args H n R :=
  CallA.inlineE IsProg.eq tau_ok0 mix0 Tryd.func63 (by kernel_rfl) (by kernel_rfl) (by kernel_rfl) (by kernel_rfl) hargs h

/- internal/stringslite.IndexByte -/
noncomputable def code64 : Code := Tryd.f64.body.getD .skip
theorem inl64 {J : Jd} {args : List AV} {H : Heap} {n : Nat} {R : AV → Heap → Nat → Prop} (hargs : args.length ≤ 8) (h : T.prop P gl n (resQ R) (bodyT tau gl J code64 8 [.tmp 4] args H n)) : CallA P gl 64 args H n R :=
  CallA.inlineE IsProg.eq tau_ok0 mix0 Tryd.func64 (by kernel_rfl) (by kernel_rfl) (by kernel_rfl) (by kernel_rfl) hargs h

/- internal/bytealg.Cutover -/
noncomputable def code66 : Code := Tryd.f66.body.getD .skip
theorem inl66 {J : Jd} {args : List AV} {H : Heap} {n : Nat} {R : AV → Heap → Nat → Prop} (hargs : args.length ≤ 6) (h : T.prop P gl n (resQ R) (bodyT tau gl J code66 6 [.tmp 2] args H n)) : CallA P gl 66 args H n R :=
  CallA.inlineE IsProg.eq tau_ok0 mix0 Tryd.func66 (by kernel_rfl) (by kernel_rfl) (by kernel_rfl) (by kernel_rfl) hargs h

/- internal/bytealg.IndexRabinKarp[string] -/
noncomputable def code67 : Code := Tryd.f67.body.getD .skip
theorem inl67 {J : Jd} {args : List AV} {H : Heap} {n : Nat} {R : AV → Heap → Nat → Prop} (hargs : args.length ≤ 81) (h : T.prop P gl n (resQ R) (bodyT tau gl J code67 81 [.tmp 4] args H n)) : CallA P gl 67 args H n R :=
  CallA.inlineE IsProg.eq tau_ok0 mix0 Tryd.func67 (by kernel_rfl) (by kernel_rfl) (by kernel_rfl) (by kernel_rfl) hargs h

/- analemma/word.small -/
noncomputable def code68 : Code := Tryd.f68.body.getD .skip
theorem inl68 {J : Jd} {args : List AV} {H : Heap} {n : Nat} {R : AV → Heap → Nat → Prop} (hargs : args.length ≤ 33) (h : T.prop P gl n (resQ R) (bodyT tau gl J code68 33 [.tmp 2] args H n)) : CallA P gl 68 args H n R :=
  CallA.inlineE IsProg.eq tau_ok0 mix0 Tryd.func68 (by kernel_rfl) (by kernel_rfl) (by kernel_rfl) (by kernel_rfl) hargs h

/- analemma/word.beginning -/
noncomputable def code69 : Code := Tryd.f69.body.getD .skip
theorem inl69 {J : Jd} {args : List AV} {H : Heap} {n : Nat} {R : AV → Heap → Nat → Prop} (hargs : args.length ≤ 6) (h : T.prop P gl n (resQ R) (bodyT tau gl J code69 6 [.tmp 4] args H n)) : CallA P gl 69 args H n R :=
  CallA.inlineE IsProg.eq tau_ok0 mix0 Tryd.func69 (by kernel_rfl) (by kernel_rfl) (by kernel_rfl) (by kernel_rfl) hargs h

/- analemma/analemmaref08.small -/
noncomputable def code70 : Code := Tryd.f70.body.getD .skip
theorem inl70 {J : Jd} {args : List AV} {H : Heap} {n : Nat} {R : AV → Heap → Nat → Prop} (hargs : args.length ≤ 30) (h : T.prop P gl n (resQ R) (bodyT tau gl J code70 30 [.tmp 2] args H n)) : CallA P gl 70 args H n R :=
  CallA.inlineE IsProg.eq tau_ok0 mix0 Tryd.func70 (by kernel_rfl) (by kernel_rfl) (by kernel_rfl) (by kernel_rfl) hargs h

/- internal/stringslite.HasPrefix -/
noncomputable def code71 : Code := Tryd.f71.body.getD .skip
theorem inl71 {J : Jd} {args : List AV} {H : Heap} {n : Nat} {R : AV → Heap → Nat → Prop} (hargs : args.length ≤ 18) (h : T.prop P gl n (resQ R) (bodyT tau gl J code71 18 [.tmp 4] args H n)) : CallA P gl 71 args H n R :=
  CallA.inlineE IsProg.eq tau_ok0 mix0 Tryd.func71 (by kernel_rfl) (by kernel_rfl) (by kernel_rfl) (by kernel_rfl) hargs h

/- internal/strconv.small -/
noncomputable def code72 : Code := Tryd.f72.body.getD .skip
theorem inl72 {J : Jd} {args : List AV} {H : Heap} {n : Nat} {R : AV → Heap → Nat → Prop} (hargs : args.length ≤ 15) (h : T.prop P gl n (resQ R) (bodyT tau gl J code72 15 [.tmp 2] args H n)) : CallA P gl 72 args H n R :=
  CallA.inlineE IsProg.eq tau_ok0 mix0 Tryd.func72 (by kernel_rfl) (by kernel_rfl) (by kernel_rfl) (by kernel_rfl) hargs h

/- internal/strconv.numDigits -/
noncomputable def code73 : Code := Tryd.f73.body.getD .skip
theorem inl73 {J : Jd} {args : List AV} {H : Heap} {n : Nat} {R : AV → Heap → Nat → Prop} (hargs : args.length ≤ 15) (h : T.prop P gl n (resQ R) (bodyT tau gl J code73 15 [.tmp 2] args H n)) : CallA P gl 73 args H n R :=
  CallA.inlineE IsProg.eq tau_ok0 mix0 Tryd.func73 (by kernel_rfl) (by kernel_rfl) (by kernel_rfl) (by kernel_rfl) hargs h

/- internal/strconv.formatBase10 -/
noncomputable def code74 : Code := Tryd.f74.body.getD .skip
theorem inl74 {J : Jd} {args : List AV} {H : Heap} {n : Nat} {R : AV → Heap → Nat → Prop} (hargs : args.length ≤ 167) (h : T.prop P gl n (resQ R) (bodyT tau gl J code74 167 [] args H n)) : CallA P gl 74 args H n R :=
  CallA.inlineE IsProg.eq tau_ok0 mix0 Tryd.func74 (by kernel_rfl) (by kernel_rfl) (by kernel_rfl) (by kernel_rfl) hargs h

/- internal/strconv.formatBits -/
noncomputable def code75 : Code := Tryd.f75.body.getD .skip
theorem inl75 {J : Jd} {args : List AV} {H : Heap} {n : Nat} {R : AV → Heap → Nat → Prop} (hargs : args.length ≤ 102) (h : T.prop P gl n (resQ R) (bodyT tau gl J code75 102 [.tmp 10, .tmp 11] args H n)) : CallA P gl 75 args H n R :=
  CallA.inlineE IsProg.eq tau_ok0 mix0 Tryd.func75 (by kernel_rfl) (by kernel_rfl) (by kernel_rfl) (by kernel_rfl) hargs h

/- internal/bytealg.hashStr[string] -/
noncomputable def code77 : Code := Tryd.f77.body.getD .skip
theorem inl77 {J : Jd} {args : List AV} {H : Heap} {n : Nat} {R : AV → Heap → Nat → Prop} (hargs : args.length ≤ 39) (h : T.prop P gl n (resQ R) (bodyT tau gl J code77 39 [.tmp 2, .tmp 3] args H n)) : CallA P gl 77 args H n R :=
  CallA.inlineE IsProg.eq tau_ok0 mix0 Tryd.func77 (by kernel_rfl) (by kernel_rfl) (by kernel_rfl) (by kernel_rfl) hargs h

/- analemma/word.beginning$1 -/
noncomputable def code78 : Code := Tryd.f78.body.getD .skip
theorem inl78 {J : Jd} {args : List AV} {H : Heap} {n : Nat} {R : AV → Heap → Nat → Prop} (hargs : args.length ≤ 26) (h : T.prop P gl n (resQ R) (bodyT tau gl J code78 26 [] args H n)) : CallA P gl 78 args H n R :=
  CallA.inlineE IsProg.eq tau_ok0 mix0 Tryd.func78 (by kernel_rfl) (by kernel_rfl) (by kernel_rfl) (by kernel_rfl) hargs h

/- strings.HasPrefix -/
noncomputable def code79 : Code := Tryd.f79.body.getD .skip
theorem inl79 {J : Jd} {args : List AV} {H : Heap} {n : Nat} {R : AV → Heap → Nat → Prop} (hargs : args.length ≤ 8) (h : T.prop P gl n (resQ R) (bodyT tau gl J code79 8 [.tmp 4] args H n)) : CallA P gl 79 args H n R :=
  CallA.inlineE IsProg.eq tau_ok0 mix0 Tryd.func79 (by kernel_rfl) (by kernel_rfl) (by kernel_rfl) (by kernel_rfl) hargs h

/- internal/strconv.log10Pow2 -/
noncomputable def code80 : Code := Tryd.f80.body.getD .skip
theorem inl80 {J : Jd} {args : List AV} {H : Heap} {n : Nat} {R : AV → Heap → Nat → Prop} (hargs : args.length ≤ 6) (h : T.prop P gl n (resQ R) (bodyT tau gl J code80 6 [.tmp 2] args H n)) : CallA P gl 80 args H n R :=
  CallA.inlineE IsProg.eq tau_ok0 mix0 Tryd.func80 (by kernel_rfl) (by kernel_rfl) (by kernel_rfl) (by kernel_rfl) hargs h

/- math/bits.Len64 -/
noncomputable def code81 : Code := Tryd.f81.body.getD .skip
theorem inl81 {J : Jd} {args : List AV} {H : Heap} {n : Nat} {R : AV → Heap → Nat → Prop} (hargs : args.length ≤ 25) (h : T.prop P gl n (resQ R) (bodyT tau gl J code81 25 [.tmp 2] args H n)) : CallA P gl 81 args H n R :=
  CallA.inlineE IsProg.eq tau_ok0 mix0 Tryd.func81 (by kernel_rfl) (by kernel_rfl) (by kernel_rfl) (by kernel_rfl) hargs h

/- internal/strconv.bool2[int] -/
noncomputable def code82 : Code := Tryd.f82.body.getD .skip
theorem inl82 {J : Jd} {args : List AV} {H : Heap} {n : Nat} {R : AV → Heap → Nat → Prop} (hargs : args.length ≤ 4) (h : T.prop P gl n (resQ R) (bodyT tau gl J code82 4 [.tmp 2] args H n)) : CallA P gl 82 args H n R :=
  CallA.inlineE IsProg.eq tau_ok0 mix0 Tryd.func82 (by kernel_rfl) (by kernel_rfl) (by kernel_rfl) (by kernel_rfl) hargs h

/- internal/strconv.isPowerOfTwo -/
noncomputable def code83 : Code := Tryd.f83.body.getD .skip
theorem inl83 {J : Jd} {args : List AV} {H : Heap} {n : Nat} {R : AV → Heap → Nat → Prop} (hargs : args.length ≤ 8) (h : T.prop P gl n (resQ R) (bodyT tau gl J code83 8 [.tmp 2] args H n)) : CallA P gl 83 args H n R :=
  CallA.inlineE IsProg.eq tau_ok0 mix0 Tryd.func83 (by kernel_rfl) (by kernel_rfl) (by kernel_rfl) (by kernel_rfl) hargs h

/- math/bits.TrailingZeros -/
noncomputable def code84 : Code := Tryd.f84.body.getD .skip
theorem inl84 {J : Jd} {args : List AV} {H : Heap} {n : Nat} {R : AV → Heap → Nat → Prop} (hargs : args.length ≤ 8) (h : T.prop P gl n (resQ R) (bodyT tau gl J code84 8 [.tmp 2] args H n)) : CallA P gl 84 args H n R :=
  CallA.inlineE IsProg.eq tau_ok0 mix0 Tryd.func84 (by kernel_rfl) (by kernel_rfl) (by kernel_rfl) (by kernel_rfl) hargs h

/- math/bits.TrailingZeros32 -/
noncomputable def code85 : Code := Tryd.f85.body.getD .skip
theorem inl85 {J : Jd} {args : List AV} {H : Heap} {n : Nat} {R : AV → Heap → Nat → Prop} (hargs : args.length ≤ 14) (h : T.prop P gl n (resQ R) (bodyT tau gl J code85 14 [.tmp 2] args H n)) : CallA P gl 85 args H n R :=
  CallA.inlineE IsProg.eq tau_ok0 mix0 Tryd.func85 (by kernel_rfl) (by kernel_rfl) (by kernel_rfl) (by kernel_rfl) hargs h

/- math/bits.TrailingZeros64 -/
noncomputable def code86 : Code := Tryd.f86.body.getD .skip
theorem inl86 {J : Jd} {args : List AV} {H : Heap} {n : Nat} {R : AV → Heap → Nat → Prop} (hargs : args.length ≤ 14) (h : T.prop P gl n (resQ R) (bodyT tau gl J code86 14 [.tmp 2] args H n)) : CallA P gl 86 args H n R :=
  CallA.inlineE IsProg.eq tau_ok0 mix0 Tryd.func86 (by kernel_rfl) (by kernel_rfl) (by kernel_rfl) (by kernel_rfl) hargs h

noncomputable def fnList : List (Nat × FDesc) := [(3, code3, 32, [.tmp 2]),
  (4, code4, 28, [.tmp 2]),
  (5, code5, 104, [.tmp 2]),
  (6, code6, 150, [.tmp 8]),
  (7, code7, 64, [.tmp 4]),
  (8, code8, 122, [.tmp 8]),
  (9, code9, 165, [.tmp 6]),
  (10, code10, 94, [.tmp 2]),
  (11, code11, 18, [.tmp 2]),
  (12, code12, 139, [.tmp 8]),
  (13, code13, 106, [.tmp 4]),
  (14, code14, 64, [.tmp 8]),
  (15, code15, 118, [.tmp 2]),
  (16, code16, 31, [.tmp 2]),
  (17, code17, 82, [.tmp 0]),
  (18, code18, 48, [.tmp 2, .tmp 3]),
  (19, code19, 38, [.tmp 2, .tmp 3]),
  (20, code20, 40, [.tmp 2, .tmp 3]),
  (21, code21, 42, [.tmp 2, .tmp 3]),
  (22, code22, 13, [.tmp 2]),
  (23, code23, 13, [.tmp 4, .tmp 5, .tmp 6]),
  (24, code24, 8, [.tmp 4]),
  (25, code25, 67, [.tmp 0]),
  (26, code26, 9, [.tmp 2, .tmp 3]),
  (27, code27, 17, [.tmp 2, .tmp 3]),
  (28, code28, 9, [.tmp 2, .tmp 3]),
  (29, code29, 17, [.tmp 2, .tmp 3]),
  (30, code30, 9, [.tmp 2, .tmp 3]),
  (31, code31, 9, [.tmp 2, .tmp 3]),
  (32, code32, 9, [.tmp 2, .tmp 3]),
  (33, code33, 17, [.tmp 2, .tmp 3]),
  (34, code34, 7, [.tmp 2]),
  (35, code35, 15, [.tmp 2]),
  (36, code36, 6, [.tmp 2]),
  (37, code37, 14, [.tmp 2]),
  (38, code38, 10, [.tmp 0]),
  (39, code39, 43, [.tmp 4]),
  (40, code40, 12, [.tmp 2]),
  (41, code41, 11, [.tmp 4, .tmp 5]),
  (42, code42, 66, [.cell 2 63, .tmp 3]),
  (43, code43, 96, [.tmp 2, .tmp 3]),
  (44, code44, 8, [.tmp 4]),
  (45, code45, 11, [.tmp 2]),
  (46, code46, 16, [.tmp 2]),
  (47, code47, 10, [.tmp 2]),
  (48, code48, 23, [.tmp 4, .tmp 5, .tmp 6]),
  (49, code49, 143, [.tmp 4]),
  (50, code50, 37, [.cell 6 3, .cell 7 23]),
  (51, code51, 53, [.tmp 4, .tmp 5]),
  (52, code52, 2, [.tmp 0]),
  (53, code53, 11, [.tmp 4, .tmp 5]),
  (54, code54, 2, [.tmp 0]),
  (55, code55, 2, [.tmp 0]),
  (56, code56, 2, [.tmp 0]),
  (57, code57, 29, [.tmp 4]),
  (58, code58, 12, [.tmp 2]),
  (59, code59, 15, [.tmp 4, .tmp 5]),
  (60, code60, 32, [.tmp 2]),
  (61, code61, 12, [.tmp 2]),
  (62, code62, 43, [.tmp 4]),
  (63, code63, 54, [.tmp 4]),
  (64, code64, 8, [.tmp 4]),
  (66, code66, 6, [.tmp 2]),
  (67, code67, 81, [.tmp 4]),
  (68, code68, 33, [.tmp 2]),
  (69, code69, 6, [.tmp 4]),
  (70, code70, 30, [.tmp 2]),
  (71, code71, 18, [.tmp 4]),
  (72, code72, 15, [.tmp 2]),
  (73, code73, 15, [.tmp 2]),
  (74, code74, 167, []),
  (75, code75, 102, [.tmp 10, .tmp 11]),
  (77, code77, 39, [.tmp 2, .tmp 3]),
  (78, code78, 26, []),
  (79, code79, 8, [.tmp 4]),
  (80, code80, 6, [.tmp 2]),
  (81, code81, 25, [.tmp 2]),
  (82, code82, 4, [.tmp 2]),
  (83, code83, 8, [.tmp 2]),
  (84, code84, 8, [.tmp 2]),
  (85, code85, 14, [.tmp 2]),
  (86, code86, 14, [.tmp 2])]
theorem fnD_ok : DOk P gl tau (Ax.look fnList) := dok
  (dok_cons (fun _ _ _ _ _ => inl3) 
  (dok_cons (fun _ _ _ _ _ => inl4) 
  (dok_cons (fun _ _ _ _ _ => inl5) 
  (dok_cons (fun _ _ _ _ _ => inl6) 
  (dok_cons (fun _ _ _ _ _ => inl7) 
  (dok_cons (fun _ _ _ _ _ => inl8) 
  (dok_cons (fun _ _ _ _ _ => inl9) 
  (dok_cons (fun _ _ _ _ _ => inl10) 
  (dok_cons (fun _ _ _ _ _ => inl11) 
  (dok_cons (fun _ _ _ _ _ => inl12) 
  (dok_cons (fun _ _ _ _ _ => inl13) 
  (dok_cons (fun _ _ _ _ _ => inl14) 
  (dok_cons (fun _ _ _ _ _ => inl15) 
  (dok_cons (fun _ _ _ _ _ => inl16) 
  (dok_cons (fun _ _ _ _ _ => inl17) 
  (dok_cons (fun _ _ _ _ _ => inl18) 
  (dok_cons (fun _ _ _ _ _ => inl19) 
  (dok_cons (fun _ _ _ _ _ => inl20) 
  (dok_cons (fun _ _ _ _ _ => inl21) 
  (dok_cons (fun _ _ _ _ _ => inl22) 
  (dok_cons (fun _ _ _ _ _ => inl23) 
  (dok_cons (fun _ _ _ _ _ => inl24) 
  (dok_cons (fun _ _ _ _ _ => inl25) 
  (dok_cons (fun _ _ _ _ _ => inl26) 
  (dok_cons (fun _ _ _ _ _ => inl27) 
  (dok_cons (fun _ _ _ _ _ => inl28) 
  (dok_cons (fun _ _ _ _ _ => inl29) 
  (dok_cons (fun _ _ _ _ _ => inl30) 
  (dok_cons (fun _ _ _ _ _ => inl31) 
  (dok_cons (fun _ _ _ _ _ => inl32) 
  (dok_cons (fun _ _ _ _ _ => inl33) 
  (dok_cons (fun _ _ _ _ _ => inl34) 
  (dok_cons (fun _ _ _ _ _ => inl35) 
  (dok_cons (fun _ _ _ _ _ => inl36) 
  (dok_cons (fun _ _ _ _ _ => inl37) 
  (dok_cons (fun _ _ _ _ _ => inl38) 
  (dok_cons (fun _ _ _ _ _ => inl39) 
  (dok_cons (fun _ _ _ _ _ => inl40) 
  (dok_cons (fun _ _ _ _ _ => inl41) 
  (dok_cons (fun _ _ _ _ _ => inl42) 
  (dok_cons (fun _ _ _ _ _ => inl43) 
  (dok_cons (fun _ _ _ _ _ => inl44) 
  (dok_cons (fun _ _ _ _ _ => inl45) 
  (dok_cons (fun _ _ _ _ _ => inl46) 
  (dok_cons (fun _ _ _ _ _ => inl47) 
  (dok_cons (fun _ _ _ _ _ => inl48) 
  (dok_cons (fun _ _ _ _ _ => inl49) 
  (dok_cons (fun _ _ _ _ _ => inl50) 
  (dok_cons (fun _ _ _ _ _ => inl51) 
  (dok_cons (fun _ _ _ _ _ => inl52) 
  (dok_cons (fun _ _ _ _ _ => inl53) 
  (dok_cons (fun _ _ _ _ _ => inl54) 
  (dok_cons (fun _ _ _ _ _ => inl55) 
  (dok_cons (fun _ _ _ _ _ => inl56) 
  (dok_cons (fun _ _ _ _ _ => inl57) 
  (dok_cons (fun _ _ _ _ _ => inl58) 
  (dok_cons (fun _ _ _ _ _ => inl59) 
  (dok_cons (fun _ _ _ _ _ => inl60) 
  (dok_cons (fun _ _ _ _ _ => inl61) 
  (dok_cons (fun _ _ _ _ _ => inl62) 
  (dok_cons (fun _ _ _ _ _ => inl63) 
  (dok_cons (fun _ _ _ _ _ => inl64) 
  (dok_cons (fun _ _ _ _ _ => inl66) 
  (dok_cons (fun _ _ _ _ _ => inl67) 
  (dok_cons (fun _ _ _ _ _ => inl68) 
  (dok_cons (fun _ _ _ _ _ => inl69) 
  (dok_cons (fun _ _ _ _ _ => inl70) 
  (dok_cons (fun _ _ _ _ _ => inl71) 
  (dok_cons (fun _ _ _ _ _ => inl72) 
  (dok_cons (fun _ _ _ _ _ => inl73) 
  (dok_cons (fun _ _ _ _ _ => inl74) 
  (dok_cons (fun _ _ _ _ _ => inl75) 
  (dok_cons (fun _ _ _ _ _ => inl77) 
  (dok_cons (fun _ _ _ _ _ => inl78) 
  (dok_cons (fun _ _ _ _ _ => inl79) 
  (dok_cons (fun _ _ _ _ _ => inl80) 
  (dok_cons (fun _ _ _ _ _ => inl81) 
  (dok_cons (fun _ _ _ _ _ => inl82) 
  (dok_cons (fun _ _ _ _ _ => inl83) 
  (dok_cons (fun _ _ _ _ _ => inl84) 
  (dok_cons (fun _ _ _ _ _ => inl85) 
  (dok_cons (fun _ _ _ _ _ => inl86) dok_nil))))))))))))))))))))))))))))))))))))))))))))))))))))))))))))))))))))))))))))))))))
def jList : List (Nat × Jd) := [(3, ⟨[], [], [(5, [2]), (4, [3, 4, 5, 6]), (3, [0, 3, 4]), (2, [2]), (1, [0, 9]), (0, [0])]⟩), (4, ⟨[], [], [(3, [2]), (2, [3, 4, 5, 6]), (1, [0, 3, 4]), (0, [0])]⟩), (5, ⟨[(5, 51)], [], [(11, [2]), (10, [2]), (9, [3, 4, 10, 11, 12, 13, 64]), (8, [3, 4, 10, 11, 12, 13]), (7, [3, 4, 10, 11]), (6, [2]), (5, [3, 4, 51]), (4, [3, 4, 5, 6, 7, 8, 9]), (3, [3, 4, 5, 6, 7]), (2, [3, 4, 5]), (1, [3]), (0, [0])]⟩), (6, ⟨[(18, 104), (21, 134)], [10], [(27, [8]), (26, [14, 26]), (25, [14, 19, 26, 140]), (24, [11, 14, 19, 26]), (23, [3, 11, 12, 14, 19, 85, 86, 87]), (22, [8]), (21, [3, 11, 12, 14, 19, 85, 86, 87, 134]), (20, [3, 11, 12, 14, 19, 24, 25, 85, 86, 87]), (19, [8]), (18, [3, 11, 12, 14, 19, 85, 86, 87, 104]), (17, [3, 11, 12, 14, 19, 22, 23, 85, 86, 87]), (16, [3, 11, 12, 14, 19, 21, 85, 86, 87, 92]), (15, [3, 11, 12, 14, 19, 21, 85, 86, 87]), (14, [3, 11, 12, 14, 19, 85, 86, 87, 88]), (13, [3, 11, 12, 14, 19, 85, 86, 87]), (12, [3, 11, 12, 14, 19]), (11, [3, 11, 12, 14, 16, 19, 80]), (10, [3, 10, 11, 12, 14, 16, 19]), (9, [3, 10, 11, 12, 13, 14, 16, 19, 69]), (8, [3, 10, 11, 12, 13, 14, 16, 19]), (7, [3, 10, 11, 12, 13, 14, 16]), (6, [8]), (5, [3, 10, 11, 12, 13, 14, 49]), (4, [3, 10, 11, 12, 13, 14, 15]), (3, [3, 10, 11, 12, 13]), (2, [3, 10, 11, 12]), (1, [3, 9, 10, 11]), (0, [0, 1, 2, 3])]⟩), (7, ⟨[(4, 41)], [], [(8, [4]), (7, [4]), (6, [62]), (5, [4]), (4, [5, 6, 7, 9, 41]), (3, [5, 6, 7, 8, 9, 10]), (2, [5, 6, 7, 8]), (1, [5, 6]), (0, [0, 1])]⟩), (8, ⟨[(2, 31), (18, 114)], [], [(20, [8]), (16, [8]), (15, [13, 16, 17, 18]), (14, [13, 15, 16]), (19, [8]), (18, [13, 114]), (17, [13, 79, 114]), (13, [13, 79, 80]), (12, [13, 79]), (11, [13, 14]), (8, [12]), (10, [12]), (9, [3, 9, 11, 12, 60]), (7, [3, 9, 11, 12, 46, 47]), (6, [3, 9, 11, 12, 46]), (5, [2, 3, 9, 11, 12]), (4, [2, 3, 9, 11]), (3, [8]), (2, [1, 2, 3, 9, 31]), (1, [1, 2, 3, 9, 10]), (0, [0, 1, 2, 3])]⟩), (9, ⟨[(6, 48), (15, 91), (25, 134), (28, 145)], [], [(31, [6]), (30, [24, 25]), (29, [6]), (28, [2, 18, 145]), (27, [2, 18, 118, 119, 120]), (26, [6]), (25, [2, 18, 118, 119, 120, 134]), (24, [2, 18, 22, 23, 118, 119, 120]), (23, [2, 18, 21, 118, 119, 120]), (22, [2, 18, 118, 119, 120, 121]), (21, [2, 18, 118, 119, 120]), (20, [6]), (19, [2, 18, 101]), (18, [2, 18, 19]), (17, [0, 2, 75, 76, 77]), (16, [6]), (15, [0, 2, 75, 76, 77, 91]), (14, [0, 2, 16, 17, 75, 76, 77]), (13, [0, 2, 15, 75, 76, 77]), (12, [0, 2, 75, 76, 77, 78]), (11, [0, 2, 75, 76, 77]), (10, [0, 2, 13]), (9, [0, 2, 12]), (8, [0, 1, 2, 32, 33, 34]), (7, [6]), (6, [0, 1, 2, 32, 33, 34, 48]), (5, [0, 1, 2, 10, 11, 32, 33, 34]), (4, [0, 1, 2, 9, 32, 33, 34]), (3, [0, 1, 2, 32, 33, 34, 35]), (2, [0, 1, 2, 32, 33, 34]), (1, [0, 1, 2, 7]), (0, [0, 1, 2])]⟩), (10, ⟨[(7, 52)], [], [(13, [2]), (12, [3, 4, 5, 6, 7, 8, 9, 10]), (11, [0, 3, 4, 5, 6, 7, 8]), (10, [0, 3, 4, 5, 6]), (9, [0, 3, 4]), (8, [2]), (7, [0, 52]), (6, [0, 3, 4, 5, 6, 7, 8, 9, 10]), (5, [0, 3, 4, 5, 6, 7, 8]), (4, [0, 3, 4, 5, 6]), (3, [0, 3, 4]), (2, [2]), (1, [0, 13]), (0, [0])]⟩), (11, ⟨[], [], [(1, [2]), (0, [0])]⟩), (12, ⟨[(12, 95)], [], [(15, [8]), (14, [9, 10, 15, 16, 17, 18]), (13, [8]), (12, [3, 9, 10, 11, 15, 16, 95]), (11, [3, 9, 10, 11, 12, 13, 15, 16]), (8, [3, 9, 10, 11, 12, 13, 14]), (10, [3, 9, 10, 11, 12, 13, 14]), (9, [3, 9, 10, 11, 12, 13, 14, 74]), (7, [3, 9, 10, 11, 12, 13, 14, 46]), (6, [3, 9, 10, 11, 12, 13, 14]), (5, [3, 9, 10, 11, 12, 13]), (4, [3, 9, 10, 11, 12]), (3, [2, 3, 9, 10, 11]), (2, [2, 3, 9, 10]), (1, [1, 2, 3, 9]), (0, [0, 1, 2, 3])]⟩), (13, ⟨[(6, 67)], [], [(12, [4]), (11, [5, 6, 12, 13, 14, 15]), (10, [1, 5, 6, 8, 11, 12, 13]), (9, [1, 5, 6, 7, 8, 11]), (8, [1, 5, 6, 7, 8, 29, 30, 31]), (7, [4]), (6, [1, 5, 6, 7, 8, 29, 30, 31, 67]), (5, [1, 5, 6, 7, 8, 10, 29, 30, 31]), (4, [1, 5, 6, 7, 8, 29, 30, 31, 32]), (3, [1, 5, 6, 7, 8, 29, 30, 31]), (2, [1, 5, 6, 7, 8]), (1, [1, 5, 6]), (0, [0, 1])]⟩), (14, ⟨[], [], [(6, [8]), (5, [13, 14]), (4, [9, 12]), (3, [3, 9, 10, 11]), (2, [2, 3, 9, 10]), (1, [1, 2, 3, 9]), (0, [0, 1, 2, 3])]⟩), (15, ⟨[(15, 57), (17, 71), (20, 97), (23, 115)], [], [(26, [2]), (25, [5, 37, 38, 39]), (24, [2]), (23, [5, 37, 38, 39, 115]), (22, [5, 8, 11, 12, 37, 38, 39]), (21, [2]), (20, [5, 7, 8, 37, 38, 39, 97]), (19, [5, 7, 8, 10, 37, 38, 39]), (18, [2]), (17, [5, 7, 8, 37, 38, 39, 71]), (16, [2]), (15, [5, 37, 38, 39, 57]), (14, [5, 7, 8, 9, 37, 38, 39, 51]), (13, [5, 7, 8, 9, 37, 38, 39]), (12, [5, 7, 37, 38, 39]), (11, [5, 37, 38, 39, 40]), (10, [5, 37, 38, 39]), (9, [5]), (8, [0, 3, 21, 22]), (7, [0, 3, 21, 22]), (6, [0, 3, 4, 21, 22]), (5, [0, 3, 21, 22, 23]), (4, [0, 3, 21, 22]), (3, [0, 3]), (2, [2]), (1, [0, 15]), (0, [0])]⟩), (16, ⟨[], [], [(2, [2]), (1, [3]), (0, [0])]⟩), (17, ⟨[(5, 50), (12, 80)], [], [(15, [0]), (14, [59, 60, 61]), (13, [0]), (12, [59, 60, 61, 80]), (11, [6, 7, 8, 59, 60, 61]), (10, [6, 59, 60, 61]), (9, [59, 60, 61, 62]), (8, [59, 60, 61]), (7, [29, 30, 31]), (6, [0]), (5, [29, 30, 31, 50]), (4, [2, 3, 4, 29, 30, 31]), (3, [2, 29, 30, 31]), (2, [29, 30, 31, 32]), (1, [29, 30, 31]), (0, [])]⟩), (18, ⟨[(15, 46)], [], [(17, [2, 3]), (16, [2, 3]), (15, [8, 46]), (14, [8]), (13, [2, 3]), (12, [8, 38]), (11, [8, 36]), (10, [5, 8, 23, 24]), (9, [5, 8, 23, 24]), (8, [5, 8, 9, 10, 23, 24]), (7, [5, 8, 23, 24, 25]), (6, [5, 8, 23, 24]), (5, [5, 6, 8]), (4, [2, 3]), (3, [5, 6, 22]), (2, [5, 6, 7]), (1, [4, 5]), (0, [0])]⟩), (19, ⟨[(1, 4), (5, 31)], [3], [(11, [2, 3]), (10, [2, 3]), (9, [5, 34]), (8, [2, 3]), (7, [4, 5, 33]), (6, [2, 3]), (5, [4, 5, 31]), (4, [4, 5, 6]), (3, [0, 4]), (2, [0, 4, 15]), (1, [0, 4]), (0, [0])]⟩), (20, ⟨[(1, 12)], [5], [(10, [2, 3]), (9, [5]), (8, [5, 6, 34]), (7, [5, 6]), (6, [0, 5]), (5, [0, 4]), (4, [0, 4, 14]), (3, [0, 4]), (2, [2, 3]), (1, [0, 12]), (0, [0])]⟩), (21, ⟨[(1, 12)], [], [(9, [2, 3]), (8, [6]), (7, [0, 6, 34]), (6, [0, 6]), (5, [2, 3]), (4, [4]), (3, [0, 14]), (2, [2, 3]), (1, [0, 12]), (0, [0])]⟩), (22, ⟨[], [], [(1, [2]), (0, [0])]⟩), (23, ⟨[], [], [(1, [4, 5, 6]), (0, [0, 1])]⟩), (24, ⟨[], [], [(1, [4]), (0, [0, 1])]⟩), (25, ⟨[(5, 51)], [], [(8, [0]), (7, [28, 29, 30]), (6, [0]), (5, [28, 29, 30, 51]), (4, [2, 3, 4, 28, 29, 30]), (3, [2, 28, 29, 30]), (2, [28, 29, 30, 31]), (1, [28, 29, 30]), (0, [])]⟩), (26, ⟨[], [], [(1, [2, 3]), (0, [0])]⟩), (27, ⟨[], [], [(2, [2, 3]), (1, [4, 5]), (0, [0])]⟩), (28, ⟨[], [], [(1, [2, 3]), (0, [0])]⟩), (29, ⟨[], [], [(2, [2, 3]), (1, [4, 5]), (0, [0])]⟩), (30, ⟨[], [], [(1, [2, 3]), (0, [0])]⟩), (31, ⟨[], [], [(1, [2, 3]), (0, [0])]⟩), (32, ⟨[], [], [(1, [2, 3]), (0, [0])]⟩), (33, ⟨[], [], [(2, [2, 3]), (1, [4, 5]), (0, [0])]⟩), (34, ⟨[], [], [(1, [2]), (0, [0])]⟩), (35, ⟨[(1, 8)], [], [(3, [2]), (2, [2]), (1, [0, 8]), (0, [0])]⟩), (36, ⟨[], [], [(1, [2]), (0, [0])]⟩), (37, ⟨[(1, 8)], [], [(3, [2]), (2, [2]), (1, [0, 8]), (0, [0])]⟩), (38, ⟨[], [], [(1, [0]), (0, [])]⟩), (39, ⟨[(5, 33)], [], [(8, [4]), (7, [1, 5, 10, 11]), (6, [1, 5, 10, 11]), (5, [1, 5, 6, 10, 11, 33]), (4, [1, 5, 6, 10, 11]), (3, [1, 5, 10, 11, 12]), (2, [1, 5, 10, 11]), (1, [1, 5]), (0, [0, 1])]⟩), (40, ⟨[], [], [(1, [2]), (0, [0])]⟩), (41, ⟨[], [], [(1, [4, 5]), (0, [0, 1])]⟩), (42, ⟨[(4, 26), (7, 35), (13, 58)], [], [(17, [2, 3]), (16, [2, 3]), (15, [2, 63]), (8, [1, 2, 4, 5, 6]), (14, [2, 3]), (13, [1, 2, 4, 5, 6, 58]), (12, [1, 2, 4, 5, 6, 7]), (11, [1, 2, 4, 5, 6, 7]), (10, [1, 2, 4, 5, 6]), (9, [1, 2, 4, 5, 6, 41]), (7, [1, 2, 4, 5, 6, 35]), (6, [1, 2, 4, 5, 6]), (5, [2, 3]), (4, [1, 2, 4, 5, 26]), (3, [1, 2, 4, 5]), (2, [1, 2, 4, 5]), (1, [1, 2, 4]), (0, [1, 2])]⟩), (43, ⟨[(8, 40), (13, 58), (18, 88)], [], [(20, [2, 3]), (19, [2, 3]), (18, [5, 6, 7, 88]), (17, [0, 4, 5, 6, 7]), (16, [2, 3]), (15, [0, 4, 5, 6, 63]), (14, [2, 3]), (13, [0, 4, 5, 6, 58]), (12, [0, 4, 5, 6]), (11, [2, 3]), (10, [0, 4, 5, 44]), (9, [2, 3]), (8, [0, 4, 5, 40]), (7, [2, 3]), (6, [0, 4, 5, 29]), (5, [0, 4, 5]), (4, [0, 4, 5]), (3, [0, 4, 5, 18]), (2, [0, 4, 5]), (1, [0, 4]), (0, [0])]⟩), (44, ⟨[], [], [(1, [4]), (0, [0, 1])]⟩), (45, ⟨[], [], [(1, [2]), (0, [0])]⟩), (46, ⟨[], [], [(3, [2]), (2, [2]), (1, [0, 4]), (0, [0])]⟩), (47, ⟨[], [], [(1, [2]), (0, [0])]⟩), (48, ⟨[], [], [(4, [4, 5, 6]), (3, [4, 5, 6]), (2, [0, 1, 7, 12]), (1, [0, 1, 7]), (0, [0, 1])]⟩), (49, ⟨[(2, 16), (8, 36), (21, 93), (30, 132)], [17], [(35, [4]), (29, [4]), (28, [4]), (27, [8, 12, 114]), (26, [8, 12]), (34, [4]), (33, [4]), (32, [8, 13, 139]), (31, [8, 13]), (30, [0, 1, 5, 6, 7, 8, 9, 10, 132]), (25, [0, 1, 5, 6, 7, 8, 9, 10, 107]), (24, [0, 1, 5, 6, 7, 8, 9, 10]), (23, [0, 1, 5, 6, 7, 8, 9, 10]), (22, [4]), (21, [0, 1, 5, 6, 7, 8, 9, 10, 93]), (20, [0, 1, 5, 6, 7, 8, 9, 10]), (19, [4]), (18, [0, 1, 5, 6, 7, 8, 9, 10, 11, 73]), (17, [0, 1, 5, 6, 7, 8, 9, 10, 11]), (16, [0, 1, 5, 6, 7, 8, 9, 10, 64]), (15, [0, 1, 5, 6, 7, 8, 9, 10, 59]), (14, [0, 1, 5, 6, 7, 8, 9, 10]), (13, [0, 1, 5, 6, 7, 8, 9]), (12, [0, 1, 5, 6, 7, 8]), (11, [0, 1, 5, 6, 7]), (10, [0, 1, 5, 6]), (3, [4]), (5, [4]), (7, [4]), (9, [4]), (8, [0, 1, 5, 36]), (6, [0, 1, 5, 31]), (4, [0, 1, 5, 24]), (2, [0, 1, 5, 16]), (1, [0, 1, 5]), (0, [0, 1])]⟩), (50, ⟨[(10, 35)], [], [(12, [6, 7]), (11, [6, 7]), (10, [6, 7, 8, 35]), (3, [4, 5, 6, 7, 8, 9, 10, 11, 16, 17, 18, 19, 20, 21, 22, 23, 24, 25, 26, 27, 28, 29]), (2, [3, 4, 5, 6, 7, 8, 9, 10, 11, 17, 18, 19, 20, 21, 22, 23, 24, 25, 26, 27, 28, 29]), (1, [3, 4, 5, 6, 7, 10, 11, 17, 18, 19, 20, 21, 22, 23, 24, 25, 26, 27, 28, 29]), (0, [3, 4, 5, 6, 7, 10, 11, 17, 18, 19, 20, 21, 22, 23, 24, 25, 26, 27, 28, 29])]⟩), (51, ⟨[(9, 46)], [], [(14, [4, 5]), (13, [4, 5]), (12, [6, 51]), (6, [0, 1, 6, 7, 8]), (11, [0, 1, 6, 7, 8]), (10, [0, 1, 6, 7, 8]), (9, [0, 1, 6, 7, 8, 46]), (8, [4, 5]), (7, [0, 1, 6, 7, 8, 22]), (5, [0, 1, 6, 7, 8, 14]), (4, [0, 1, 6, 7, 8]), (3, [0, 1, 6, 7]), (2, [0, 1, 6]), (1, [0, 1]), (0, [0, 1])]⟩), (52, ⟨[], [], [(1, [0]), (0, [])]⟩), (53, ⟨[], [], [(3, [4, 5]), (2, [4, 5]), (1, [0, 1, 7]), (0, [0, 1])]⟩), (54, ⟨[], [], [(1, [0]), (0, [])]⟩), (55, ⟨[], [], [(1, [0]), (0, [])]⟩), (56, ⟨[], [], [(1, [0]), (0, [])]⟩), (57, ⟨[(1, 16)], [], [(3, [4]), (2, [4]), (1, [1, 2, 16]), (0, [1, 2])]⟩), (58, ⟨[], [], [(1, [2]), (0, [0])]⟩), (59, ⟨[], [], [(3, [4, 5]), (2, [4, 5]), (1, [0, 1, 9]), (0, [0, 1])]⟩), (60, ⟨[(2, 19)], [], [(5, [2]), (3, [0, 1, 3]), (4, [0, 1, 3]), (2, [0, 1, 3, 19]), (1, [0, 1, 3]), (0, [0, 1])]⟩), (61, ⟨[(1, 8)], [], [(3, [2]), (2, [2]), (1, [0, 8]), (0, [0])]⟩), (62, ⟨[], [], [(3, [4]), (2, [4]), (1, [0, 1, 31]), (0, [0, 1])]⟩), (63, ⟨[(2, 17)], [7], [(15, [4]), (14, [9]), (13, [4]), (12, [4]), (11, [5, 7]), (10, [5, 7, 34]), (9, [0, 5, 7]), (8, [0, 5, 6, 7]), (7, [0, 5, 6]), (6, [0, 5, 6, 23]), (5, [0, 5, 6]), (4, [0, 5]), (3, [4]), (2, [0, 17]), (1, [0, 1, 11]), (0, [0, 1])]⟩), (64, ⟨[], [], [(1, [4]), (0, [0, 1])]⟩), (66, ⟨[], [], [(1, [2]), (0, [0])]⟩), (67, ⟨[(8, 39), (16, 77)], [], [(18, [4]), (17, [4]), (16, [0, 1, 5, 6, 7, 8, 10, 77]), (15, [0, 1, 5, 6, 7, 8, 10]), (14, [0, 1, 5, 6, 7, 8, 10]), (13, [0, 1, 5, 6, 7, 8, 10]), (12, [0, 1, 5, 6, 7, 8, 10]), (11, [0, 1, 5, 6, 7, 8, 10, 44]), (10, [0, 1, 5, 6, 7, 8, 10]), (9, [4]), (8, [0, 1, 5, 6, 7, 8, 39]), (6, [0, 1, 5, 6, 7, 8, 9]), (7, [0, 1, 5, 6, 7, 8, 9]), (5, [0, 1, 5, 6, 7, 8, 9, 20]), (4, [0, 1, 5, 6, 7, 8, 9]), (3, [0, 1, 5, 6, 7, 8]), (2, [0, 1, 5, 6, 7]), (1, [0, 1, 5, 6]), (0, [0, 1])]⟩), (68, ⟨[(5, 23)], [], [(8, [2]), (7, [3, 8, 9]), (6, [3, 8, 9]), (5, [3, 4, 8, 9, 23]), (4, [3, 4, 8, 9]), (3, [3, 8, 9, 10]), (2, [3, 8, 9]), (1, [3]), (0, [0])]⟩), (69, ⟨[], [], [(1, [4]), (0, [2, 3])]⟩), (70, ⟨[(6, 20)], [], [(9, [2]), (4, [0, 3, 4]), (8, [0, 3, 4]), (7, [0, 3, 4, 5]), (6, [0, 3, 4, 5, 20]), (5, [0, 3, 4, 5]), (3, [0, 3, 4, 9]), (2, [0, 3, 4]), (1, [0, 3]), (0, [0])]⟩), (71, ⟨[(1, 4)], [], [(1, [4]), (0, [0, 1])]⟩), (72, ⟨[], [], [(3, [2]), (2, [2]), (1, [0, 4]), (0, [0])]⟩), (73, ⟨[], [], [(2, [2]), (1, [0, 3]), (0, [0])]⟩), (74, ⟨[], [14], [(26, []), (25, [0, 12, 161]), (24, [0, 4, 12]), (23, [0, 4, 12]), (22, [0, 4, 12, 16]), (21, [0, 4, 12, 16]), (20, [0, 4, 12, 139]), (19, [0, 4, 12]), (18, [0, 4, 12]), (17, [0, 4, 12, 14]), (16, [0, 4, 12, 14, 15]), (15, [0, 4, 12, 13]), (14, [0, 4, 12, 13]), (13, [0, 4, 12, 99]), (12, [0, 4, 12]), (11, [0, 1, 4]), (10, [0, 1, 4]), (9, [0, 1, 4, 10]), (8, [0, 1, 4, 10, 11]), (7, [0, 1, 4, 8, 10, 11]), (6, [0, 1, 4, 8, 9, 10, 11]), (5, [0, 1, 4, 6, 8, 9]), (4, [0, 1, 4, 6, 7]), (3, [0, 1, 4, 5]), (2, [0, 1, 4, 5]), (1, [0, 1, 4, 20]), (0, [0, 1, 4])]⟩), (75, ⟨[(1, 28)], [2, 6, 8], [(30, [10, 11]), (29, [10, 11]), (28, [0, 10, 11, 12, 13, 94]), (27, [0, 4, 10, 11, 12, 13]), (26, [0, 4, 10, 11, 12, 13]), (25, [0, 4, 10, 11, 12, 13, 89]), (16, [0, 3, 4, 10, 11, 12, 13]), (15, [0, 1, 3, 4, 10, 11, 12, 13]), (14, [0, 1, 3, 4, 10, 11, 12, 13, 14, 15, 16]), (13, [0, 1, 3, 4, 10, 11, 12, 13, 14, 15, 16]), (12, [0, 1, 3, 4, 10, 11, 12, 13, 14, 15, 16]), (11, [0, 1, 3, 4, 10, 11, 12, 13, 14, 15, 16, 46]), (10, [0, 1, 3, 4, 10, 11, 12, 13, 14, 15, 16]), (9, [0, 1, 2, 3, 4, 10, 11, 12, 13, 14, 15]), (8, [0, 1, 2, 3, 4, 10, 11, 12, 13, 14]), (24, [0, 3, 4, 10, 11, 12, 13]), (23, [0, 1, 3, 4, 10, 11, 12, 13]), (22, [0, 1, 3, 4, 10, 11, 12, 13, 17]), (21, [0, 3, 4, 10, 11, 12, 13, 17, 18]), (20, [0, 1, 3, 4, 10, 11, 12, 13, 17, 18]), (19, [0, 1, 3, 4, 10, 11, 12, 13, 17]), (18, [0, 1, 3, 4, 10, 11, 12, 13, 17, 68]), (17, [0, 1, 3, 4, 10, 11, 12, 13, 17]), (7, [0, 1, 2, 3, 4, 10, 11, 12, 13, 34]), (6, [0, 1, 2, 3, 4, 10, 11, 12, 13]), (5, [0, 1, 2, 3, 4, 10, 11, 12, 13, 30]), (4, [0, 1, 2, 3, 4, 10, 11, 12, 13]), (3, [0, 1, 2, 3, 4, 10, 11, 12]), (2, [0, 1, 2, 3, 4, 10, 11]), (1, [0, 1, 2, 3, 4, 10, 11, 28]), (0, [0, 1, 2, 3, 4, 10, 11])]⟩), (77, ⟨[], [], [(13, [2, 3]), (9, [4, 6, 7, 8]), (12, [4, 6, 7, 8]), (11, [4, 6, 7, 8]), (10, [4, 6, 7, 8, 30]), (8, [4, 6, 7, 8, 25]), (7, [4, 6, 7, 8]), (6, [0, 4, 6, 7]), (4, [0, 4, 5]), (5, [0, 4, 5]), (3, [0, 4, 5, 12]), (2, [0, 4, 5]), (1, [0, 4]), (0, [0])]⟩), (78, ⟨[], [], [(4, [0, 2, 6, 7]), (3, [0, 2, 6, 7, 24]), (2, [0, 2, 4, 5, 6, 7]), (1, [0, 2, 6, 7, 8]), (0, [0, 2, 6, 7])]⟩), (79, ⟨[], [], [(1, [4]), (0, [0, 1])]⟩), (80, ⟨[], [], [(1, [2]), (0, [0])]⟩), (81, ⟨[], [2, 5], [(10, [2]), (9, [0, 2]), (8, [0, 2]), (7, [0, 2, 14]), (6, [0, 2]), (5, [0, 2]), (4, [0, 2, 8]), (3, [0, 2]), (2, [0]), (1, [0, 2, 4]), (0, [0, 2])]⟩), (82, ⟨[], [], [(3, [2]), (2, [2]), (1, [3]), (0, [0])]⟩), (83, ⟨[(1, 2)], [], [(1, [2]), (0, [0])]⟩), (84, ⟨[], [], [(2, [2]), (1, [2]), (0, [0])]⟩), (85, ⟨[], [], [(3, [2]), (2, [2]), (1, [0, 4]), (0, [0])]⟩), (86, ⟨[], [], [(3, [2]), (2, [2]), (1, [0, 4]), (0, [0])]⟩)]
/-- The functions, each with the tests of its regions and the shapes of its loops. -/
noncomputable def xd (tms : List (Nat × List (Nat × Nat × Tm))) (f : Nat) : Option XDesc :=
  match Ax.look fnList f with
  | some (c, nt, rs) => some (c, nt, rs, ⟨(Ax.look jList f).getD noJ, (Ax.look tms f).getD []⟩)
  | none => none

theorem xd_ok (tms : List (Nat × List (Nat × Nat × Tm))) : DXOk P gl tau (xd tms) := by
  intro f c nt res cx h J args H n R ha hp
  unfold xd at h
  split at h
  · rename_i c' nt' rs' hf
    cases h
    exact fnD_ok f c nt res hf J args H n R ha hp
  · cases h
end Go.Proofs.YtdpjkapaphelhaaDoor
