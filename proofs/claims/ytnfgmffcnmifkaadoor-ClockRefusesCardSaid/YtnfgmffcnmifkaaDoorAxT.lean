/-
  The types and the functions of this seat, for the small abstract machine.
-/
import Derived.Test.YtnfgmffcnmifkaaDoorAx27
import Derived.Test.YtnfgmffcnmifkaaDoorProg
import Derived.KernelRfl
namespace Go.Proofs.YtnfgmffcnmifkaaDoor
open Go.Ax
set_option linter.unusedVariables false
set_option maxRecDepth 100000

def tyList : List (Nat × TI) := [(1, ⟨.func, 1, 8, [.nilFunc], []⟩),
  (2, ⟨.int .i64, 1, 8, [.int .i64 (.lit 0)], []⟩),
  (3, ⟨.int .i64, 1, 8, [.int .i64 (.lit 0)], []⟩),
  (4, ⟨.bool, 1, 1, [.bool false], []⟩),
  (5, ⟨.int .u8, 1, 1, [.int .u8 (.lit 0)], []⟩),
  (6, ⟨.int .u8, 1, 1, [.int .u8 (.lit 0)], []⟩),
  (7, ⟨.struct [(0, 2), (1, 3), (2, 4), (3, 6)], 4, 24, [.int .i64 (.lit 0), .int .i64 (.lit 0), .bool false, .int .u8 (.lit 0)], []⟩),
  (8, ⟨.struct [(0, 2), (1, 3), (2, 4), (3, 6)], 4, 24, [.int .i64 (.lit 0), .int .i64 (.lit 0), .bool false, .int .u8 (.lit 0)], []⟩),
  (9, ⟨.string, 1, 16, [.str (.lit [])], []⟩),
  (10, ⟨.string, 1, 16, [.str (.lit [])], []⟩),
  (11, ⟨.string, 1, 16, [.str (.lit [])], []⟩),
  (12, ⟨.int .u64, 1, 8, [.int .u64 (.lit 0)], []⟩),
  (13, ⟨.struct [(0, 9), (1, 12)], 2, 24, [.str (.lit []), .int .u64 (.lit 0)], []⟩),
  (14, ⟨.struct [(0, 9), (1, 12)], 2, 24, [.str (.lit []), .int .u64 (.lit 0)], []⟩),
  (15, ⟨.ptr 84, 1, 8, [.nilptr], []⟩),
  (16, ⟨.ptr 87, 1, 8, [.nilptr], []⟩),
  (17, ⟨.ptr 96, 1, 8, [.nilptr], []⟩),
  (18, ⟨.struct [(0, 17)], 1, 8, [.nilptr], []⟩),
  (19, ⟨.struct [(0, 17)], 1, 8, [.nilptr], []⟩),
  (20, ⟨.iface, 1, 16, [.nilIface], []⟩),
  (21, ⟨.int .i32, 1, 4, [.int .i32 (.lit 0)], []⟩),
  (22, ⟨.func, 1, 8, [.nilFunc], []⟩),
  (23, ⟨.struct [(0, 2), (1, 3)], 2, 16, [.int .i64 (.lit 0), .int .i64 (.lit 0)], []⟩),
  (24, ⟨.struct [(0, 2), (1, 3)], 2, 16, [.int .i64 (.lit 0), .int .i64 (.lit 0)], [.int .i64, .int .i64]⟩),
  (25, ⟨.int .i64, 1, 8, [.int .i64 (.lit 0)], []⟩),
  (27, ⟨.func, 1, 8, [.nilFunc], []⟩),
  (28, ⟨.func, 1, 8, [.nilFunc], []⟩),
  (30, ⟨.func, 1, 8, [.nilFunc], []⟩),
  (31, ⟨.func, 1, 8, [.nilFunc], []⟩),
  (32, ⟨.func, 1, 8, [.nilFunc], []⟩),
  (33, ⟨.func, 1, 8, [.nilFunc], []⟩),
  (34, ⟨.func, 1, 8, [.nilFunc], []⟩),
  (35, ⟨.func, 1, 8, [.nilFunc], []⟩),
  (36, ⟨.func, 1, 8, [.nilFunc], []⟩),
  (37, ⟨.struct [(0, 9), (1, 3)], 2, 24, [.str (.lit []), .int .i64 (.lit 0)], []⟩),
  (38, ⟨.slice 37, 1, 24, [.nil], []⟩),
  (39, ⟨.func, 1, 8, [.nilFunc], []⟩),
  (40, ⟨.slice 5, 1, 24, [.nil], []⟩),
  (41, ⟨.func, 1, 8, [.nilFunc], []⟩),
  (42, ⟨.int .u32, 1, 4, [.int .u32 (.lit 0)], []⟩),
  (43, ⟨.slice 24, 1, 24, [.nil], []⟩),
  (44, ⟨.func, 1, 8, [.nilFunc], []⟩),
  (45, ⟨.func, 1, 8, [.nilFunc], []⟩),
  (47, ⟨.func, 1, 8, [.nilFunc], []⟩),
  (49, ⟨.func, 1, 8, [.nilFunc], []⟩),
  (50, ⟨.func, 1, 8, [.nilFunc], []⟩),
  (51, ⟨.array 3 9, 3, 48, [.str (.lit []), .str (.lit []), .str (.lit [])], []⟩),
  (52, ⟨.func, 1, 8, [.nilFunc], []⟩),
  (53, ⟨.array 3 2, 3, 24, [.int .i64 (.lit 0), .int .i64 (.lit 0), .int .i64 (.lit 0)], []⟩),
  (54, ⟨.func, 1, 8, [.nilFunc], []⟩),
  (56, ⟨.func, 1, 8, [.nilFunc], []⟩),
  (58, ⟨.func, 1, 8, [.nilFunc], []⟩),
  (60, ⟨.func, 1, 8, [.nilFunc], []⟩),
  (61, ⟨.func, 1, 8, [.nilFunc], []⟩),
  (62, ⟨.func, 1, 8, [.nilFunc], []⟩),
  (63, ⟨.func, 1, 8, [.nilFunc], []⟩),
  (64, ⟨.func, 1, 8, [.nilFunc], []⟩),
  (65, ⟨.array 24 5, 24, 24, [.int .u8 (.lit 0), .int .u8 (.lit 0), .int .u8 (.lit 0), .int .u8 (.lit 0), .int .u8 (.lit 0), .int .u8 (.lit 0), .int .u8 (.lit 0), .int .u8 (.lit 0), .int .u8 (.lit 0), .int .u8 (.lit 0), .int .u8 (.lit 0), .int .u8 (.lit 0), .int .u8 (.lit 0), .int .u8 (.lit 0), .int .u8 (.lit 0), .int .u8 (.lit 0), .int .u8 (.lit 0), .int .u8 (.lit 0), .int .u8 (.lit 0), .int .u8 (.lit 0), .int .u8 (.lit 0), .int .u8 (.lit 0), .int .u8 (.lit 0), .int .u8 (.lit 0)], []⟩),
  (66, ⟨.int .u64, 1, 8, [.int .u64 (.lit 0)], []⟩),
  (67, ⟨.func, 1, 8, [.nilFunc], []⟩),
  (68, ⟨.func, 1, 8, [.nilFunc], []⟩),
  (70, ⟨.func, 1, 8, [.nilFunc], []⟩),
  (71, ⟨.func, 1, 8, [.nilFunc], []⟩),
  (72, ⟨.func, 1, 8, [.nilFunc], []⟩),
  (73, ⟨.func, 1, 8, [.nilFunc], []⟩),
  (74, ⟨.array 20 66, 20, 160, [.int .u64 (.lit 0), .int .u64 (.lit 0), .int .u64 (.lit 0), .int .u64 (.lit 0), .int .u64 (.lit 0), .int .u64 (.lit 0), .int .u64 (.lit 0), .int .u64 (.lit 0), .int .u64 (.lit 0), .int .u64 (.lit 0), .int .u64 (.lit 0), .int .u64 (.lit 0), .int .u64 (.lit 0), .int .u64 (.lit 0), .int .u64 (.lit 0), .int .u64 (.lit 0), .int .u64 (.lit 0), .int .u64 (.lit 0), .int .u64 (.lit 0), .int .u64 (.lit 0)], []⟩),
  (75, ⟨.array 65 5, 65, 65, [.int .u8 (.lit 0), .int .u8 (.lit 0), .int .u8 (.lit 0), .int .u8 (.lit 0), .int .u8 (.lit 0), .int .u8 (.lit 0), .int .u8 (.lit 0), .int .u8 (.lit 0), .int .u8 (.lit 0), .int .u8 (.lit 0), .int .u8 (.lit 0), .int .u8 (.lit 0), .int .u8 (.lit 0), .int .u8 (.lit 0), .int .u8 (.lit 0), .int .u8 (.lit 0), .int .u8 (.lit 0), .int .u8 (.lit 0), .int .u8 (.lit 0), .int .u8 (.lit 0), .int .u8 (.lit 0), .int .u8 (.lit 0), .int .u8 (.lit 0), .int .u8 (.lit 0), .int .u8 (.lit 0), .int .u8 (.lit 0), .int .u8 (.lit 0), .int .u8 (.lit 0), .int .u8 (.lit 0), .int .u8 (.lit 0), .int .u8 (.lit 0), .int .u8 (.lit 0), .int .u8 (.lit 0), .int .u8 (.lit 0), .int .u8 (.lit 0), .int .u8 (.lit 0), .int .u8 (.lit 0), .int .u8 (.lit 0), .int .u8 (.lit 0), .int .u8 (.lit 0), .int .u8 (.lit 0), .int .u8 (.lit 0), .int .u8 (.lit 0), .int .u8 (.lit 0), .int .u8 (.lit 0), .int .u8 (.lit 0), .int .u8 (.lit 0), .int .u8 (.lit 0), .int .u8 (.lit 0), .int .u8 (.lit 0), .int .u8 (.lit 0), .int .u8 (.lit 0), .int .u8 (.lit 0), .int .u8 (.lit 0), .int .u8 (.lit 0), .int .u8 (.lit 0), .int .u8 (.lit 0), .int .u8 (.lit 0), .int .u8 (.lit 0), .int .u8 (.lit 0), .int .u8 (.lit 0), .int .u8 (.lit 0), .int .u8 (.lit 0), .int .u8 (.lit 0), .int .u8 (.lit 0)], []⟩),
  (76, ⟨.func, 1, 8, [.nilFunc], []⟩),
  (77, ⟨.int .u64, 1, 8, [.int .u64 (.lit 0)], []⟩),
  (78, ⟨.func, 1, 8, [.nilFunc], []⟩),
  (79, ⟨.func, 1, 8, [.nilFunc], []⟩),
  (80, ⟨.array 32 5, 32, 32, [.int .u8 (.lit 0), .int .u8 (.lit 0), .int .u8 (.lit 0), .int .u8 (.lit 0), .int .u8 (.lit 0), .int .u8 (.lit 0), .int .u8 (.lit 0), .int .u8 (.lit 0), .int .u8 (.lit 0), .int .u8 (.lit 0), .int .u8 (.lit 0), .int .u8 (.lit 0), .int .u8 (.lit 0), .int .u8 (.lit 0), .int .u8 (.lit 0), .int .u8 (.lit 0), .int .u8 (.lit 0), .int .u8 (.lit 0), .int .u8 (.lit 0), .int .u8 (.lit 0), .int .u8 (.lit 0), .int .u8 (.lit 0), .int .u8 (.lit 0), .int .u8 (.lit 0), .int .u8 (.lit 0), .int .u8 (.lit 0), .int .u8 (.lit 0), .int .u8 (.lit 0), .int .u8 (.lit 0), .int .u8 (.lit 0), .int .u8 (.lit 0), .int .u8 (.lit 0)], []⟩),
  (81, ⟨.array 64 5, 64, 64, [.int .u8 (.lit 0), .int .u8 (.lit 0), .int .u8 (.lit 0), .int .u8 (.lit 0), .int .u8 (.lit 0), .int .u8 (.lit 0), .int .u8 (.lit 0), .int .u8 (.lit 0), .int .u8 (.lit 0), .int .u8 (.lit 0), .int .u8 (.lit 0), .int .u8 (.lit 0), .int .u8 (.lit 0), .int .u8 (.lit 0), .int .u8 (.lit 0), .int .u8 (.lit 0), .int .u8 (.lit 0), .int .u8 (.lit 0), .int .u8 (.lit 0), .int .u8 (.lit 0), .int .u8 (.lit 0), .int .u8 (.lit 0), .int .u8 (.lit 0), .int .u8 (.lit 0), .int .u8 (.lit 0), .int .u8 (.lit 0), .int .u8 (.lit 0), .int .u8 (.lit 0), .int .u8 (.lit 0), .int .u8 (.lit 0), .int .u8 (.lit 0), .int .u8 (.lit 0), .int .u8 (.lit 0), .int .u8 (.lit 0), .int .u8 (.lit 0), .int .u8 (.lit 0), .int .u8 (.lit 0), .int .u8 (.lit 0), .int .u8 (.lit 0), .int .u8 (.lit 0), .int .u8 (.lit 0), .int .u8 (.lit 0), .int .u8 (.lit 0), .int .u8 (.lit 0), .int .u8 (.lit 0), .int .u8 (.lit 0), .int .u8 (.lit 0), .int .u8 (.lit 0), .int .u8 (.lit 0), .int .u8 (.lit 0), .int .u8 (.lit 0), .int .u8 (.lit 0), .int .u8 (.lit 0), .int .u8 (.lit 0), .int .u8 (.lit 0), .int .u8 (.lit 0), .int .u8 (.lit 0), .int .u8 (.lit 0), .int .u8 (.lit 0), .int .u8 (.lit 0), .int .u8 (.lit 0), .int .u8 (.lit 0), .int .u8 (.lit 0), .int .u8 (.lit 0)], []⟩),
  (82, ⟨.func, 1, 8, [.nilFunc], []⟩),
  (83, ⟨.struct [(0, 17), (1, 17), (2, 17), (3, 9)], 4, 40, [.nilptr, .nilptr, .nilptr, .str (.lit [])], []⟩),
  (84, ⟨.struct [(0, 17), (1, 17), (2, 17), (3, 9)], 4, 40, [.nilptr, .nilptr, .nilptr, .str (.lit [])], []⟩),
  (85, ⟨.array 0 16, 0, 0, [], []⟩),
  (86, ⟨.struct [(0, 85)], 0, 0, [], []⟩),
  (87, ⟨.struct [(0, 85)], 0, 0, [], []⟩),
  (88, ⟨.func, 1, 8, [.nilFunc], []⟩),
  (89, ⟨.int .u8, 1, 1, [.int .u8 (.lit 0)], []⟩),
  (90, ⟨.int .u8, 1, 1, [.int .u8 (.lit 0)], []⟩),
  (91, ⟨.func, 1, 8, [.nilFunc], []⟩),
  (92, ⟨.ptr 5, 1, 8, [.nilptr], []⟩),
  (93, ⟨.int .i32, 1, 4, [.int .i32 (.lit 0)], []⟩),
  (94, ⟨.int .i32, 1, 4, [.int .i32 (.lit 0)], []⟩),
  (95, ⟨.struct [(0, 12), (1, 12), (2, 42), (3, 89), (4, 5), (5, 5), (6, 90), (7, 91), (8, 92), (9, 93), (10, 94)], 11, 48, [.int .u64 (.lit 0), .int .u64 (.lit 0), .int .u32 (.lit 0), .int .u8 (.lit 0), .int .u8 (.lit 0), .int .u8 (.lit 0), .int .u8 (.lit 0), .nilFunc, .nilptr, .int .i32 (.lit 0), .int .i32 (.lit 0)], []⟩),
  (96, ⟨.struct [(0, 12), (1, 12), (2, 42), (3, 89), (4, 5), (5, 5), (6, 90), (7, 91), (8, 92), (9, 93), (10, 94)], 11, 48, [.int .u64 (.lit 0), .int .u64 (.lit 0), .int .u32 (.lit 0), .int .u8 (.lit 0), .int .u8 (.lit 0), .int .u8 (.lit 0), .int .u8 (.lit 0), .nilFunc, .nilptr, .int .i32 (.lit 0), .int .i32 (.lit 0)], []⟩)]

theorem tyList_ok : ∀ p ∈ tyList, TIok Tryd.prog p.1 p.2 :=
  (tys_cons (.of (i := Tryd.t1) (by kernel_rfl) Tryd.underlying1 rfl rfl rfl ⟨_, _, _, rfl⟩ (fun _ e => by cases e) rfl rfl (fun h => absurd rfl h)) 
  (tys_cons (.of (i := Tryd.t2) (by kernel_rfl) Tryd.underlying2 rfl rfl rfl rfl (fun _ e => by cases e) rfl rfl (fun h => absurd rfl h)) 
  (tys_cons (.of (i := Tryd.t3) (by kernel_rfl) Tryd.underlying3 rfl rfl rfl rfl (fun _ e => by cases e) rfl rfl (fun h => absurd rfl h)) 
  (tys_cons (.of (i := Tryd.t4) (by kernel_rfl) Tryd.underlying4 rfl rfl rfl rfl (fun _ e => by cases e) rfl rfl (fun h => absurd rfl h)) 
  (tys_cons (.of (i := Tryd.t5) (by kernel_rfl) Tryd.underlying5 rfl rfl rfl rfl (fun _ e => by cases e) rfl rfl (fun h => absurd rfl h)) 
  (tys_cons (.of (i := Tryd.t6) (by kernel_rfl) Tryd.underlying6 rfl rfl rfl rfl (fun _ e => by cases e) rfl rfl (fun h => absurd rfl h)) 
  (tys_cons (.of (i := Tryd.t7) (by kernel_rfl) Tryd.underlying7 rfl rfl rfl ⟨_, rfl, rfl⟩ (fun _ e => by cases e) rfl rfl (fun h => absurd rfl h)) 
  (tys_cons (.of (i := Tryd.t8) (by kernel_rfl) Tryd.underlying8 rfl rfl rfl ⟨_, rfl, rfl⟩ (fun _ e => by cases e) rfl rfl (fun h => absurd rfl h)) 
  (tys_cons (.of (i := Tryd.t9) (by kernel_rfl) Tryd.underlying9 rfl rfl rfl rfl (fun _ e => by cases e) rfl rfl (fun h => absurd rfl h)) 
  (tys_cons (.of (i := Tryd.t10) (by kernel_rfl) Tryd.underlying10 rfl rfl rfl rfl (fun _ e => by cases e) rfl rfl (fun h => absurd rfl h)) 
  (tys_cons (.of (i := Tryd.t11) (by kernel_rfl) Tryd.underlying11 rfl rfl rfl rfl (fun _ e => by cases e) rfl rfl (fun h => absurd rfl h)) 
  (tys_cons (.of (i := Tryd.t12) (by kernel_rfl) Tryd.underlying12 rfl rfl rfl rfl (fun _ e => by cases e) rfl rfl (fun h => absurd rfl h)) 
  (tys_cons (.of (i := Tryd.t13) (by kernel_rfl) Tryd.underlying13 rfl rfl rfl ⟨_, rfl, rfl⟩ (fun _ e => by cases e) rfl rfl (fun h => absurd rfl h)) 
  (tys_cons (.of (i := Tryd.t14) (by kernel_rfl) Tryd.underlying14 rfl rfl rfl ⟨_, rfl, rfl⟩ (fun _ e => by cases e) rfl rfl (fun h => absurd rfl h)) 
  (tys_cons (.of (i := Tryd.t15) (by kernel_rfl) Tryd.underlying15 rfl rfl rfl rfl (fun _ e => by cases e) rfl rfl (fun h => absurd rfl h)) 
  (tys_cons (.of (i := Tryd.t16) (by kernel_rfl) Tryd.underlying16 rfl rfl rfl rfl (fun _ e => by cases e) rfl rfl (fun h => absurd rfl h)) 
  (tys_cons (.of (i := Tryd.t17) (by kernel_rfl) Tryd.underlying17 rfl rfl rfl rfl (fun _ e => by cases e) rfl rfl (fun h => absurd rfl h)) 
  (tys_cons (.of (i := Tryd.t18) (by kernel_rfl) Tryd.underlying18 rfl rfl rfl ⟨_, rfl, rfl⟩ (fun _ e => by cases e) rfl rfl (fun h => absurd rfl h)) 
  (tys_cons (.of (i := Tryd.t19) (by kernel_rfl) Tryd.underlying19 rfl rfl rfl ⟨_, rfl, rfl⟩ (fun _ e => by cases e) rfl rfl (fun h => absurd rfl h)) 
  (tys_cons (.of (i := Tryd.t20) (by kernel_rfl) Tryd.underlying20 rfl rfl rfl ⟨_, rfl⟩ (fun _ _ => rfl) rfl rfl (fun h => absurd rfl h)) 
  (tys_cons (.of (i := Tryd.t21) (by kernel_rfl) Tryd.underlying21 rfl rfl rfl rfl (fun _ e => by cases e) rfl rfl (fun h => absurd rfl h)) 
  (tys_cons (.of (i := Tryd.t22) (by kernel_rfl) Tryd.underlying22 rfl rfl rfl ⟨_, _, _, rfl⟩ (fun _ e => by cases e) rfl rfl (fun h => absurd rfl h)) 
  (tys_cons (.of (i := Tryd.t23) (by kernel_rfl) Tryd.underlying23 rfl rfl rfl ⟨_, rfl, rfl⟩ (fun _ e => by cases e) rfl rfl (fun h => absurd rfl h)) 
  (tys_cons (.of (i := Tryd.t24) (by kernel_rfl) Tryd.underlying24 rfl rfl rfl ⟨_, rfl, rfl⟩ (fun _ e => by cases e) rfl rfl (fun _ => ⟨⟨2, by decide, (.struct (by decide) Tryd.underlying24 (by kernel_rfl) (.cons' [.int .i64] [.int .i64] (by kernel_rfl) rfl (.int Tryd.underlying2 Tryd.isAgg2) (.cons' [.int .i64] [] (by kernel_rfl) rfl (.int Tryd.underlying3 Tryd.isAgg3) .nil rfl) rfl))⟩, by kernel_rfl⟩)) 
  (tys_cons (.of (i := Tryd.t25) (by kernel_rfl) Tryd.underlying25 rfl rfl rfl rfl (fun _ e => by cases e) rfl rfl (fun h => absurd rfl h)) 
  (tys_cons (.of (i := Tryd.t27) (by kernel_rfl) Tryd.underlying27 rfl rfl rfl ⟨_, _, _, rfl⟩ (fun _ e => by cases e) rfl rfl (fun h => absurd rfl h)) 
  (tys_cons (.of (i := Tryd.t28) (by kernel_rfl) Tryd.underlying28 rfl rfl rfl ⟨_, _, _, rfl⟩ (fun _ e => by cases e) rfl rfl (fun h => absurd rfl h)) 
  (tys_cons (.of (i := Tryd.t30) (by kernel_rfl) Tryd.underlying30 rfl rfl rfl ⟨_, _, _, rfl⟩ (fun _ e => by cases e) rfl rfl (fun h => absurd rfl h)) 
  (tys_cons (.of (i := Tryd.t31) (by kernel_rfl) Tryd.underlying31 rfl rfl rfl ⟨_, _, _, rfl⟩ (fun _ e => by cases e) rfl rfl (fun h => absurd rfl h)) 
  (tys_cons (.of (i := Tryd.t32) (by kernel_rfl) Tryd.underlying32 rfl rfl rfl ⟨_, _, _, rfl⟩ (fun _ e => by cases e) rfl rfl (fun h => absurd rfl h)) 
  (tys_cons (.of (i := Tryd.t33) (by kernel_rfl) Tryd.underlying33 rfl rfl rfl ⟨_, _, _, rfl⟩ (fun _ e => by cases e) rfl rfl (fun h => absurd rfl h)) 
  (tys_cons (.of (i := Tryd.t34) (by kernel_rfl) Tryd.underlying34 rfl rfl rfl ⟨_, _, _, rfl⟩ (fun _ e => by cases e) rfl rfl (fun h => absurd rfl h)) 
  (tys_cons (.of (i := Tryd.t35) (by kernel_rfl) Tryd.underlying35 rfl rfl rfl ⟨_, _, _, rfl⟩ (fun _ e => by cases e) rfl rfl (fun h => absurd rfl h)) 
  (tys_cons (.of (i := Tryd.t36) (by kernel_rfl) Tryd.underlying36 rfl rfl rfl ⟨_, _, _, rfl⟩ (fun _ e => by cases e) rfl rfl (fun h => absurd rfl h)) 
  (tys_cons (.of (i := Tryd.t37) (by kernel_rfl) Tryd.underlying37 rfl rfl rfl ⟨_, rfl, rfl⟩ (fun _ e => by cases e) rfl rfl (fun h => absurd rfl h)) 
  (tys_cons (.of (i := Tryd.t38) (by kernel_rfl) Tryd.underlying38 rfl rfl rfl rfl (fun _ e => by cases e) rfl rfl (fun h => absurd rfl h)) 
  (tys_cons (.of (i := Tryd.t39) (by kernel_rfl) Tryd.underlying39 rfl rfl rfl ⟨_, _, _, rfl⟩ (fun _ e => by cases e) rfl rfl (fun h => absurd rfl h)) 
  (tys_cons (.of (i := Tryd.t40) (by kernel_rfl) Tryd.underlying40 rfl rfl rfl rfl (fun _ e => by cases e) rfl rfl (fun h => absurd rfl h)) 
  (tys_cons (.of (i := Tryd.t41) (by kernel_rfl) Tryd.underlying41 rfl rfl rfl ⟨_, _, _, rfl⟩ (fun _ e => by cases e) rfl rfl (fun h => absurd rfl h)) 
  (tys_cons (.of (i := Tryd.t42) (by kernel_rfl) Tryd.underlying42 rfl rfl rfl rfl (fun _ e => by cases e) rfl rfl (fun h => absurd rfl h)) 
  (tys_cons (.of (i := Tryd.t43) (by kernel_rfl) Tryd.underlying43 rfl rfl rfl rfl (fun _ e => by cases e) rfl rfl (fun h => absurd rfl h)) 
  (tys_cons (.of (i := Tryd.t44) (by kernel_rfl) Tryd.underlying44 rfl rfl rfl ⟨_, _, _, rfl⟩ (fun _ e => by cases e) rfl rfl (fun h => absurd rfl h)) 
  (tys_cons (.of (i := Tryd.t45) (by kernel_rfl) Tryd.underlying45 rfl rfl rfl ⟨_, _, _, rfl⟩ (fun _ e => by cases e) rfl rfl (fun h => absurd rfl h)) 
  (tys_cons (.of (i := Tryd.t47) (by kernel_rfl) Tryd.underlying47 rfl rfl rfl ⟨_, _, _, rfl⟩ (fun _ e => by cases e) rfl rfl (fun h => absurd rfl h)) 
  (tys_cons (.of (i := Tryd.t49) (by kernel_rfl) Tryd.underlying49 rfl rfl rfl ⟨_, _, _, rfl⟩ (fun _ e => by cases e) rfl rfl (fun h => absurd rfl h)) 
  (tys_cons (.of (i := Tryd.t50) (by kernel_rfl) Tryd.underlying50 rfl rfl rfl ⟨_, _, _, rfl⟩ (fun _ e => by cases e) rfl rfl (fun h => absurd rfl h)) 
  (tys_cons (.of (i := Tryd.t51) (by kernel_rfl) Tryd.underlying51 rfl rfl rfl rfl (fun _ e => by cases e) rfl rfl (fun h => absurd rfl h)) 
  (tys_cons (.of (i := Tryd.t52) (by kernel_rfl) Tryd.underlying52 rfl rfl rfl ⟨_, _, _, rfl⟩ (fun _ e => by cases e) rfl rfl (fun h => absurd rfl h)) 
  (tys_cons (.of (i := Tryd.t53) (by kernel_rfl) Tryd.underlying53 rfl rfl rfl rfl (fun _ e => by cases e) rfl rfl (fun h => absurd rfl h)) 
  (tys_cons (.of (i := Tryd.t54) (by kernel_rfl) Tryd.underlying54 rfl rfl rfl ⟨_, _, _, rfl⟩ (fun _ e => by cases e) rfl rfl (fun h => absurd rfl h)) 
  (tys_cons (.of (i := Tryd.t56) (by kernel_rfl) Tryd.underlying56 rfl rfl rfl ⟨_, _, _, rfl⟩ (fun _ e => by cases e) rfl rfl (fun h => absurd rfl h)) 
  (tys_cons (.of (i := Tryd.t58) (by kernel_rfl) Tryd.underlying58 rfl rfl rfl ⟨_, _, _, rfl⟩ (fun _ e => by cases e) rfl rfl (fun h => absurd rfl h)) 
  (tys_cons (.of (i := Tryd.t60) (by kernel_rfl) Tryd.underlying60 rfl rfl rfl ⟨_, _, _, rfl⟩ (fun _ e => by cases e) rfl rfl (fun h => absurd rfl h)) 
  (tys_cons (.of (i := Tryd.t61) (by kernel_rfl) Tryd.underlying61 rfl rfl rfl ⟨_, _, _, rfl⟩ (fun _ e => by cases e) rfl rfl (fun h => absurd rfl h)) 
  (tys_cons (.of (i := Tryd.t62) (by kernel_rfl) Tryd.underlying62 rfl rfl rfl ⟨_, _, _, rfl⟩ (fun _ e => by cases e) rfl rfl (fun h => absurd rfl h)) 
  (tys_cons (.of (i := Tryd.t63) (by kernel_rfl) Tryd.underlying63 rfl rfl rfl ⟨_, _, _, rfl⟩ (fun _ e => by cases e) rfl rfl (fun h => absurd rfl h)) 
  (tys_cons (.of (i := Tryd.t64) (by kernel_rfl) Tryd.underlying64 rfl rfl rfl ⟨_, _, _, rfl⟩ (fun _ e => by cases e) rfl rfl (fun h => absurd rfl h)) 
  (tys_cons (.of (i := Tryd.t65) (by kernel_rfl) Tryd.underlying65 rfl rfl rfl rfl (fun _ e => by cases e) rfl rfl (fun h => absurd rfl h)) 
  (tys_cons (.of (i := Tryd.t66) (by kernel_rfl) Tryd.underlying66 rfl rfl rfl rfl (fun _ e => by cases e) rfl rfl (fun h => absurd rfl h)) 
  (tys_cons (.of (i := Tryd.t67) (by kernel_rfl) Tryd.underlying67 rfl rfl rfl ⟨_, _, _, rfl⟩ (fun _ e => by cases e) rfl rfl (fun h => absurd rfl h)) 
  (tys_cons (.of (i := Tryd.t68) (by kernel_rfl) Tryd.underlying68 rfl rfl rfl ⟨_, _, _, rfl⟩ (fun _ e => by cases e) rfl rfl (fun h => absurd rfl h)) 
  (tys_cons (.of (i := Tryd.t70) (by kernel_rfl) Tryd.underlying70 rfl rfl rfl ⟨_, _, _, rfl⟩ (fun _ e => by cases e) rfl rfl (fun h => absurd rfl h)) 
  (tys_cons (.of (i := Tryd.t71) (by kernel_rfl) Tryd.underlying71 rfl rfl rfl ⟨_, _, _, rfl⟩ (fun _ e => by cases e) rfl rfl (fun h => absurd rfl h)) 
  (tys_cons (.of (i := Tryd.t72) (by kernel_rfl) Tryd.underlying72 rfl rfl rfl ⟨_, _, _, rfl⟩ (fun _ e => by cases e) rfl rfl (fun h => absurd rfl h)) 
  (tys_cons (.of (i := Tryd.t73) (by kernel_rfl) Tryd.underlying73 rfl rfl rfl ⟨_, _, _, rfl⟩ (fun _ e => by cases e) rfl rfl (fun h => absurd rfl h)) 
  (tys_cons (.of (i := Tryd.t74) (by kernel_rfl) Tryd.underlying74 rfl rfl rfl rfl (fun _ e => by cases e) rfl rfl (fun h => absurd rfl h)) 
  (tys_cons (.of (i := Tryd.t75) (by kernel_rfl) Tryd.underlying75 rfl rfl rfl rfl (fun _ e => by cases e) rfl rfl (fun h => absurd rfl h)) 
  (tys_cons (.of (i := Tryd.t76) (by kernel_rfl) Tryd.underlying76 rfl rfl rfl ⟨_, _, _, rfl⟩ (fun _ e => by cases e) rfl rfl (fun h => absurd rfl h)) 
  (tys_cons (.of (i := Tryd.t77) (by kernel_rfl) Tryd.underlying77 rfl rfl rfl rfl (fun _ e => by cases e) rfl rfl (fun h => absurd rfl h)) 
  (tys_cons (.of (i := Tryd.t78) (by kernel_rfl) Tryd.underlying78 rfl rfl rfl ⟨_, _, _, rfl⟩ (fun _ e => by cases e) rfl rfl (fun h => absurd rfl h)) 
  (tys_cons (.of (i := Tryd.t79) (by kernel_rfl) Tryd.underlying79 rfl rfl rfl ⟨_, _, _, rfl⟩ (fun _ e => by cases e) rfl rfl (fun h => absurd rfl h)) 
  (tys_cons (.of (i := Tryd.t80) (by kernel_rfl) Tryd.underlying80 rfl rfl rfl rfl (fun _ e => by cases e) rfl rfl (fun h => absurd rfl h)) 
  (tys_cons (.of (i := Tryd.t81) (by kernel_rfl) Tryd.underlying81 rfl rfl rfl rfl (fun _ e => by cases e) rfl rfl (fun h => absurd rfl h)) 
  (tys_cons (.of (i := Tryd.t82) (by kernel_rfl) Tryd.underlying82 rfl rfl rfl ⟨_, _, _, rfl⟩ (fun _ e => by cases e) rfl rfl (fun h => absurd rfl h)) 
  (tys_cons (.of (i := Tryd.t83) (by kernel_rfl) Tryd.underlying83 rfl rfl rfl ⟨_, rfl, rfl⟩ (fun _ e => by cases e) rfl rfl (fun h => absurd rfl h)) 
  (tys_cons (.of (i := Tryd.t84) (by kernel_rfl) Tryd.underlying84 rfl rfl rfl ⟨_, rfl, rfl⟩ (fun _ e => by cases e) rfl rfl (fun h => absurd rfl h)) 
  (tys_cons (.of (i := Tryd.t85) (by kernel_rfl) Tryd.underlying85 rfl rfl rfl rfl (fun _ e => by cases e) rfl rfl (fun h => absurd rfl h)) 
  (tys_cons (.of (i := Tryd.t86) (by kernel_rfl) Tryd.underlying86 rfl rfl rfl ⟨_, rfl, rfl⟩ (fun _ e => by cases e) rfl rfl (fun h => absurd rfl h)) 
  (tys_cons (.of (i := Tryd.t87) (by kernel_rfl) Tryd.underlying87 rfl rfl rfl ⟨_, rfl, rfl⟩ (fun _ e => by cases e) rfl rfl (fun h => absurd rfl h)) 
  (tys_cons (.of (i := Tryd.t88) (by kernel_rfl) Tryd.underlying88 rfl rfl rfl ⟨_, _, _, rfl⟩ (fun _ e => by cases e) rfl rfl (fun h => absurd rfl h)) 
  (tys_cons (.of (i := Tryd.t89) (by kernel_rfl) Tryd.underlying89 rfl rfl rfl rfl (fun _ e => by cases e) rfl rfl (fun h => absurd rfl h)) 
  (tys_cons (.of (i := Tryd.t90) (by kernel_rfl) Tryd.underlying90 rfl rfl rfl rfl (fun _ e => by cases e) rfl rfl (fun h => absurd rfl h)) 
  (tys_cons (.of (i := Tryd.t91) (by kernel_rfl) Tryd.underlying91 rfl rfl rfl ⟨_, _, _, rfl⟩ (fun _ e => by cases e) rfl rfl (fun h => absurd rfl h)) 
  (tys_cons (.of (i := Tryd.t92) (by kernel_rfl) Tryd.underlying92 rfl rfl rfl rfl (fun _ e => by cases e) rfl rfl (fun h => absurd rfl h)) 
  (tys_cons (.of (i := Tryd.t93) (by kernel_rfl) Tryd.underlying93 rfl rfl rfl rfl (fun _ e => by cases e) rfl rfl (fun h => absurd rfl h)) 
  (tys_cons (.of (i := Tryd.t94) (by kernel_rfl) Tryd.underlying94 rfl rfl rfl rfl (fun _ e => by cases e) rfl rfl (fun h => absurd rfl h)) 
  (tys_cons (.of (i := Tryd.t95) (by kernel_rfl) Tryd.underlying95 rfl rfl rfl ⟨_, rfl, rfl⟩ (fun _ e => by cases e) rfl rfl (fun h => absurd rfl h)) 
  (tys_cons (.of (i := Tryd.t96) (by kernel_rfl) Tryd.underlying96 rfl rfl rfl ⟨_, rfl, rfl⟩ (fun _ e => by cases e) rfl rfl (fun h => absurd rfl h)) tys_nil))))))))))))))))))))))))))))))))))))))))))))))))))))))))))))))))))))))))))))))))))))))))

/-- The program, behind a name. -/
class IsProg (P : Program) : Prop where
  eq : P = Tryd.prog
instance : IsProg Tryd.prog := ⟨rfl⟩
variable {P : Program} [IsProg P]
def tau : Tys := Ax.look tyList
theorem tau_ok0 : ∀ t ti, tau t = some ti → TIok Tryd.prog t ti := tys_ok tyList_ok
theorem tau_ok : ∀ t ti, tau t = some ti → TIok P t ti := by
  have h := IsProg.eq (P := P)
  subst h
  exact tau_ok0
theorem mix0 : Tryd.prog.follows .mixedOrders = true := by kernel_rfl
theorem mix : P.follows .mixedOrders = true := by
  have h := IsProg.eq (P := P)
  subst h
  exact mix0

variable {gl : Nat → Option (List AV)}

/- analemma/analemmalaw06.ClockStrings -/
noncomputable def code3 : Code := Tryd.f3.body.getD .skip
theorem inl3 {J : Jd} {args : List AV} {H : Heap} {n : Nat} {R : AV → Heap → Nat → Prop} (hargs : args.length ≤ 32) (h : T.prop P gl n (resQ R) (bodyT tau gl J code3 32 [.tmp 2] args H n)) : CallA P gl 3 args H n R :=
  CallA.inlineE IsProg.eq tau_ok0 mix0 Tryd.func3 (by kernel_rfl) (by kernel_rfl) (by kernel_rfl) (by kernel_rfl) hargs h

/- analemma/analemmalaw06.ClockTimes -/
noncomputable def code4 : Code := Tryd.f4.body.getD .skip
theorem inl4 {J : Jd} {args : List AV} {H : Heap} {n : Nat} {R : AV → Heap → Nat → Prop} (hargs : args.length ≤ 35) (h : T.prop P gl n (resQ R) (bodyT tau gl J code4 35 [.tmp 2] args H n)) : CallA P gl 4 args H n R :=
  CallA.inlineE IsProg.eq tau_ok0 mix0 Tryd.func4 (by kernel_rfl) (by kernel_rfl) (by kernel_rfl) (by kernel_rfl) hargs h

/- analemma/analemmalaw06.ClockBack -/
noncomputable def code5 : Code := Tryd.f5.body.getD .skip
theorem inl5 {J : Jd} {args : List AV} {H : Heap} {n : Nat} {R : AV → Heap → Nat → Prop} (hargs : args.length ≤ 74) (h : T.prop P gl n (resQ R) (bodyT tau gl J code5 74 [.tmp 8] args H n)) : CallA P gl 5 args H n R :=
  CallA.inlineE IsProg.eq tau_ok0 mix0 Tryd.func5 (by kernel_rfl) (by kernel_rfl) (by kernel_rfl) (by kernel_rfl) hargs h

/- analemma/analemmalaw06.ClockReads -/
noncomputable def code6 : Code := Tryd.f6.body.getD .skip
theorem inl6 {J : Jd} {args : List AV} {H : Heap} {n : Nat} {R : AV → Heap → Nat → Prop} (hargs : args.length ≤ 63) (h : T.prop P gl n (resQ R) (bodyT tau gl J code6 63 [.tmp 2] args H n)) : CallA P gl 6 args H n R :=
  CallA.inlineE IsProg.eq tau_ok0 mix0 Tryd.func6 (by kernel_rfl) (by kernel_rfl) (by kernel_rfl) (by kernel_rfl) hargs h

/- analemma/analemmalaw06.ClockLetters -/
noncomputable def code7 : Code := Tryd.f7.body.getD .skip
theorem inl7 {J : Jd} {args : List AV} {H : Heap} {n : Nat} {R : AV → Heap → Nat → Prop} (hargs : args.length ≤ 88) (h : T.prop P gl n (resQ R) (bodyT tau gl J code7 88 [.tmp 4] args H n)) : CallA P gl 7 args H n R :=
  CallA.inlineE IsProg.eq tau_ok0 mix0 Tryd.func7 (by kernel_rfl) (by kernel_rfl) (by kernel_rfl) (by kernel_rfl) hargs h

/- analemma/analemmalaw06.ClockRefuses -/
noncomputable def code8 : Code := Tryd.f8.body.getD .skip
theorem inl8 {J : Jd} {args : List AV} {H : Heap} {n : Nat} {R : AV → Heap → Nat → Prop} (hargs : args.length ≤ 69) (h : T.prop P gl n (resQ R) (bodyT tau gl J code8 69 [.tmp 6] args H n)) : CallA P gl 8 args H n R :=
  CallA.inlineE IsProg.eq tau_ok0 mix0 Tryd.func8 (by kernel_rfl) (by kernel_rfl) (by kernel_rfl) (by kernel_rfl) hargs h

/- analemma/analemmalaw06.works -/
noncomputable def code9 : Code := Tryd.f9.body.getD .skip
theorem inl9 {J : Jd} {args : List AV} {H : Heap} {n : Nat} {R : AV → Heap → Nat → Prop} (hargs : args.length ≤ 47) (h : T.prop P gl n (resQ R) (bodyT tau gl J code9 47 [.tmp 0] args H n)) : CallA P gl 9 args H n R :=
  CallA.inlineE IsProg.eq tau_ok0 mix0 Tryd.func9 (by kernel_rfl) (by kernel_rfl) (by kernel_rfl) (by kernel_rfl) hargs h

/- analemma/clock.Parse -/
noncomputable def code10 : Code := Tryd.f10.body.getD .skip
theorem inl10 {J : Jd} {args : List AV} {H : Heap} {n : Nat} {R : AV → Heap → Nat → Prop} (hargs : args.length ≤ 39) (h : T.prop P gl n (resQ R) (bodyT tau gl J code10 39 [.cell 2 24, .tmp 3] args H n)) : CallA P gl 10 args H n R :=
  CallA.inlineE IsProg.eq tau_ok0 mix0 Tryd.func10 (by kernel_rfl) (by kernel_rfl) (by kernel_rfl) (by kernel_rfl) hargs h

/- analemma/analemmaref06.Parse -/
noncomputable def code11 : Code := Tryd.f11.body.getD .skip
theorem inl11 {J : Jd} {args : List AV} {H : Heap} {n : Nat} {R : AV → Heap → Nat → Prop} (hargs : args.length ≤ 44) (h : T.prop P gl n (resQ R) (bodyT tau gl J code11 44 [.cell 2 24, .tmp 3] args H n)) : CallA P gl 11 args H n R :=
  CallA.inlineE IsProg.eq tau_ok0 mix0 Tryd.func11 (by kernel_rfl) (by kernel_rfl) (by kernel_rfl) (by kernel_rfl) hargs h

/- analemma/clock.Print -/
noncomputable def code12 : Code := Tryd.f12.body.getD .skip
theorem inl12 {J : Jd} {args : List AV} {H : Heap} {n : Nat} {R : AV → Heap → Nat → Prop} (hargs : args.length ≤ 33) (h : T.prop P gl n (resQ R) (bodyT tau gl J code12 33 [.tmp 2, .tmp 3] args H n)) : CallA P gl 12 args H n R :=
  CallA.inlineE IsProg.eq tau_ok0 mix0 Tryd.func12 (by kernel_rfl) (by kernel_rfl) (by kernel_rfl) (by kernel_rfl) hargs h

/- analemma/analemmaref06.Print -/
noncomputable def code13 : Code := Tryd.f13.body.getD .skip
theorem inl13 {J : Jd} {args : List AV} {H : Heap} {n : Nat} {R : AV → Heap → Nat → Prop} (hargs : args.length ≤ 26) (h : T.prop P gl n (resQ R) (bodyT tau gl J code13 26 [.tmp 2, .tmp 3] args H n)) : CallA P gl 13 args H n R :=
  CallA.inlineE IsProg.eq tau_ok0 mix0 Tryd.func13 (by kernel_rfl) (by kernel_rfl) (by kernel_rfl) (by kernel_rfl) hargs h

/- analemma/clock.Check -/
noncomputable def code14 : Code := Tryd.f14.body.getD .skip
theorem inl14 {J : Jd} {args : List AV} {H : Heap} {n : Nat} {R : AV → Heap → Nat → Prop} (hargs : args.length ≤ 21) (h : T.prop P gl n (resQ R) (bodyT tau gl J code14 21 [.tmp 2] args H n)) : CallA P gl 14 args H n R :=
  CallA.inlineE IsProg.eq tau_ok0 mix0 Tryd.func14 (by kernel_rfl) (by kernel_rfl) (by kernel_rfl) (by kernel_rfl) hargs h

/- analemma/analemmaref06.Check -/
noncomputable def code15 : Code := Tryd.f15.body.getD .skip
theorem inl15 {J : Jd} {args : List AV} {H : Heap} {n : Nat} {R : AV → Heap → Nat → Prop} (hargs : args.length ≤ 21) (h : T.prop P gl n (resQ R) (bodyT tau gl J code15 21 [.tmp 2] args H n)) : CallA P gl 15 args H n R :=
  CallA.inlineE IsProg.eq tau_ok0 mix0 Tryd.func15 (by kernel_rfl) (by kernel_rfl) (by kernel_rfl) (by kernel_rfl) hargs h

/- analemma/analemmalaw06.Made -/
noncomputable def code16 : Code := Tryd.f16.body.getD .skip
theorem inl16 {J : Jd} {args : List AV} {H : Heap} {n : Nat} {R : AV → Heap → Nat → Prop} (hargs : args.length ≤ 12) (h : T.prop P gl n (resQ R) (bodyT tau gl J code16 12 [.cell 4 24] args H n)) : CallA P gl 16 args H n R :=
  CallA.inlineE IsProg.eq tau_ok0 mix0 Tryd.func16 (by kernel_rfl) (by kernel_rfl) (by kernel_rfl) (by kernel_rfl) hargs h

/- analemma/offset.Print -/
noncomputable def code17 : Code := Tryd.f17.body.getD .skip
theorem inl17 {J : Jd} {args : List AV} {H : Heap} {n : Nat} {R : AV → Heap → Nat → Prop} (hargs : args.length ≤ 40) (h : T.prop P gl n (resQ R) (bodyT tau gl J code17 40 [.tmp 2, .tmp 3] args H n)) : CallA P gl 17 args H n R :=
  CallA.inlineE IsProg.eq tau_ok0 mix0 Tryd.func17 (by kernel_rfl) (by kernel_rfl) (by kernel_rfl) (by kernel_rfl) hargs h

/- analemma/analemmalaw06.reads -/
noncomputable def code18 : Code := Tryd.f18.body.getD .skip
theorem inl18 {J : Jd} {args : List AV} {H : Heap} {n : Nat} {R : AV → Heap → Nat → Prop} (hargs : args.length ≤ 23) (h : T.prop P gl n (resQ R) (bodyT tau gl J code18 23 [.tmp 6] args H n)) : CallA P gl 18 args H n R :=
  CallA.inlineE IsProg.eq tau_ok0 mix0 Tryd.func18 (by kernel_rfl) (by kernel_rfl) (by kernel_rfl) (by kernel_rfl) hargs h

/- analemma/analemmalaw06.fails -/
noncomputable def code19 : Code := Tryd.f19.body.getD .skip
theorem inl19 {J : Jd} {args : List AV} {H : Heap} {n : Nat} {R : AV → Heap → Nat → Prop} (hargs : args.length ≤ 20) (h : T.prop P gl n (resQ R) (bodyT tau gl J code19 20 [.tmp 4] args H n)) : CallA P gl 19 args H n R :=
  CallA.inlineE IsProg.eq tau_ok0 mix0 Tryd.func19 (by kernel_rfl) (by kernel_rfl) (by kernel_rfl) (by kernel_rfl) hargs h

/- analemma/analemmalaw06.prints -/
noncomputable def code20 : Code := Tryd.f20.body.getD .skip
theorem inl20 {J : Jd} {args : List AV} {H : Heap} {n : Nat} {R : AV → Heap → Nat → Prop} (hargs : args.length ≤ 34) (h : T.prop P gl n (resQ R) (bodyT tau gl J code20 34 [.tmp 6] args H n)) : CallA P gl 20 args H n R :=
  CallA.inlineE IsProg.eq tau_ok0 mix0 Tryd.func20 (by kernel_rfl) (by kernel_rfl) (by kernel_rfl) (by kernel_rfl) hargs h

/- analemma/clock.find -/
noncomputable def code21 : Code := Tryd.f21.body.getD .skip
theorem inl21 {J : Jd} {args : List AV} {H : Heap} {n : Nat} {R : AV → Heap → Nat → Prop} (hargs : args.length ≤ 24) (h : T.prop P gl n (resQ R) (bodyT tau gl J code21 24 [.tmp 2, .tmp 3] args H n)) : CallA P gl 21 args H n R :=
  CallA.inlineE IsProg.eq tau_ok0 mix0 Tryd.func21 (by kernel_rfl) (by kernel_rfl) (by kernel_rfl) (by kernel_rfl) hargs h

/- analemma/offset.Parse -/
noncomputable def code22 : Code := Tryd.f22.body.getD .skip
theorem inl22 {J : Jd} {args : List AV} {H : Heap} {n : Nat} {R : AV → Heap → Nat → Prop} (hargs : args.length ≤ 48) (h : T.prop P gl n (resQ R) (bodyT tau gl J code22 48 [.tmp 2, .tmp 3] args H n)) : CallA P gl 22 args H n R :=
  CallA.inlineE IsProg.eq tau_ok0 mix0 Tryd.func22 (by kernel_rfl) (by kernel_rfl) (by kernel_rfl) (by kernel_rfl) hargs h

/- analemma/analemmaref06.base -/
noncomputable def code23 : Code := Tryd.f23.body.getD .skip
theorem inl23 {J : Jd} {args : List AV} {H : Heap} {n : Nat} {R : AV → Heap → Nat → Prop} (hargs : args.length ≤ 12) (h : T.prop P gl n (resQ R) (bodyT tau gl J code23 12 [.tmp 2] args H n)) : CallA P gl 23 args H n R :=
  CallA.inlineE IsProg.eq tau_ok0 mix0 Tryd.func23 (by kernel_rfl) (by kernel_rfl) (by kernel_rfl) (by kernel_rfl) hargs h

/- analemma/analemmaref04.Parse -/
noncomputable def code24 : Code := Tryd.f24.body.getD .skip
theorem inl24 {J : Jd} {args : List AV} {H : Heap} {n : Nat} {R : AV → Heap → Nat → Prop} (hargs : args.length ≤ 38) (h : T.prop P gl n (resQ R) (bodyT tau gl J code24 38 [.tmp 2, .tmp 3] args H n)) : CallA P gl 24 args H n R :=
  CallA.inlineE IsProg.eq tau_ok0 mix0 Tryd.func24 (by kernel_rfl) (by kernel_rfl) (by kernel_rfl) (by kernel_rfl) hargs h

/- analemma/analemmaref04.Print -/
noncomputable def code25 : Code := Tryd.f25.body.getD .skip
theorem inl25 {J : Jd} {args : List AV} {H : Heap} {n : Nat} {R : AV → Heap → Nat → Prop} (hargs : args.length ≤ 42) (h : T.prop P gl n (resQ R) (bodyT tau gl J code25 42 [.tmp 2, .tmp 3] args H n)) : CallA P gl 25 args H n R :=
  CallA.inlineE IsProg.eq tau_ok0 mix0 Tryd.func25 (by kernel_rfl) (by kernel_rfl) (by kernel_rfl) (by kernel_rfl) hargs h

/- strconv.FormatInt -/
noncomputable def code26 : Code := Tryd.f26.body.getD .skip
theorem inl26 {J : Jd} {args : List AV} {H : Heap} {n : Nat} {R : AV → Heap → Nat → Prop} (hargs : args.length ≤ 8) (h : T.prop P gl n (resQ R) (bodyT tau gl J code26 8 [.tmp 4] args H n)) : CallA P gl 26 args H n R :=
  CallA.inlineE IsProg.eq tau_ok0 mix0 Tryd.func26 (by kernel_rfl) (by kernel_rfl) (by kernel_rfl) (by kernel_rfl) hargs h

/- analemma/offset.two -/
noncomputable def code27 : Code := Tryd.f27.body.getD .skip
theorem inl27 {J : Jd} {args : List AV} {H : Heap} {n : Nat} {R : AV → Heap → Nat → Prop} (hargs : args.length ≤ 11) (h : T.prop P gl n (resQ R) (bodyT tau gl J code27 11 [.tmp 2] args H n)) : CallA P gl 27 args H n R :=
  CallA.inlineE IsProg.eq tau_ok0 mix0 Tryd.func27 (by kernel_rfl) (by kernel_rfl) (by kernel_rfl) (by kernel_rfl) hargs h

/- strings.CutPrefix -/
noncomputable def code28 : Code := Tryd.f28.body.getD .skip
theorem inl28 {J : Jd} {args : List AV} {H : Heap} {n : Nat} {R : AV → Heap → Nat → Prop} (hargs : args.length ≤ 11) (h : T.prop P gl n (resQ R) (bodyT tau gl J code28 11 [.tmp 4, .tmp 5] args H n)) : CallA P gl 28 args H n R :=
  CallA.inlineE IsProg.eq tau_ok0 mix0 Tryd.func28 (by kernel_rfl) (by kernel_rfl) (by kernel_rfl) (by kernel_rfl) hargs h

/- analemma/offset.split -/
noncomputable def code29 : Code := Tryd.f29.body.getD .skip
theorem inl29 {J : Jd} {args : List AV} {H : Heap} {n : Nat} {R : AV → Heap → Nat → Prop} (hargs : args.length ≤ 66) (h : T.prop P gl n (resQ R) (bodyT tau gl J code29 66 [.cell 2 53, .tmp 3] args H n)) : CallA P gl 29 args H n R :=
  CallA.inlineE IsProg.eq tau_ok0 mix0 Tryd.func29 (by kernel_rfl) (by kernel_rfl) (by kernel_rfl) (by kernel_rfl) hargs h

/- analemma/analemmaref04.form -/
noncomputable def code30 : Code := Tryd.f30.body.getD .skip
theorem inl30 {J : Jd} {args : List AV} {H : Heap} {n : Nat} {R : AV → Heap → Nat → Prop} (hargs : args.length ≤ 96) (h : T.prop P gl n (resQ R) (bodyT tau gl J code30 96 [.tmp 2, .tmp 3] args H n)) : CallA P gl 30 args H n R :=
  CallA.inlineE IsProg.eq tau_ok0 mix0 Tryd.func30 (by kernel_rfl) (by kernel_rfl) (by kernel_rfl) (by kernel_rfl) hargs h

/- analemma/analemmaref04.Decimal -/
noncomputable def code31 : Code := Tryd.f31.body.getD .skip
theorem inl31 {J : Jd} {args : List AV} {H : Heap} {n : Nat} {R : AV → Heap → Nat → Prop} (hargs : args.length ≤ 16) (h : T.prop P gl n (resQ R) (bodyT tau gl J code31 16 [.tmp 2] args H n)) : CallA P gl 31 args H n R :=
  CallA.inlineE IsProg.eq tau_ok0 mix0 Tryd.func31 (by kernel_rfl) (by kernel_rfl) (by kernel_rfl) (by kernel_rfl) hargs h

/- analemma/analemmaref04.Two -/
noncomputable def code32 : Code := Tryd.f32.body.getD .skip
theorem inl32 {J : Jd} {args : List AV} {H : Heap} {n : Nat} {R : AV → Heap → Nat → Prop} (hargs : args.length ≤ 10) (h : T.prop P gl n (resQ R) (bodyT tau gl J code32 10 [.tmp 2] args H n)) : CallA P gl 32 args H n R :=
  CallA.inlineE IsProg.eq tau_ok0 mix0 Tryd.func32 (by kernel_rfl) (by kernel_rfl) (by kernel_rfl) (by kernel_rfl) hargs h

/- internal/strconv.FormatInt -/
noncomputable def code33 : Code := Tryd.f33.body.getD .skip
theorem inl33 {J : Jd} {args : List AV} {H : Heap} {n : Nat} {R : AV → Heap → Nat → Prop} (hargs : args.length ≤ 54) (h : T.prop P gl n (resQ R) (bodyT tau gl J code33 54 [.tmp 4] args H n)) : CallA P gl 33 args H n R :=
  CallA.inlineE IsProg.eq tau_ok0 mix0 Tryd.func33 (by kernel_rfl) (by kernel_rfl) (by kernel_rfl) (by kernel_rfl) hargs h

/- internal/stringslite.CutPrefix -/
noncomputable def code34 : Code := Tryd.f34.body.getD .skip
theorem inl34 {J : Jd} {args : List AV} {H : Heap} {n : Nat} {R : AV → Heap → Nat → Prop} (hargs : args.length ≤ 15) (h : T.prop P gl n (resQ R) (bodyT tau gl J code34 15 [.tmp 4, .tmp 5] args H n)) : CallA P gl 34 args H n R :=
  CallA.inlineE IsProg.eq tau_ok0 mix0 Tryd.func34 (by kernel_rfl) (by kernel_rfl) (by kernel_rfl) (by kernel_rfl) hargs h

/- analemma/offset.split$1 -/
noncomputable def code35 : Code := Tryd.f35.body.getD .skip
theorem inl35 {J : Jd} {args : List AV} {H : Heap} {n : Nat} {R : AV → Heap → Nat → Prop} (hargs : args.length ≤ 32) (h : T.prop P gl n (resQ R) (bodyT tau gl J code35 32 [.tmp 2] args H n)) : CallA P gl 35 args H n R :=
  CallA.inlineE IsProg.eq tau_ok0 mix0 Tryd.func35 (by kernel_rfl) (by kernel_rfl) (by kernel_rfl) (by kernel_rfl) hargs h

/- analemma/analemmaref04.digit -/
noncomputable def code36 : Code := Tryd.f36.body.getD .skip
theorem inl36 {J : Jd} {args : List AV} {H : Heap} {n : Nat} {R : AV → Heap → Nat → Prop} (hargs : args.length ≤ 12) (h : T.prop P gl n (resQ R) (bodyT tau gl J code36 12 [.tmp 2] args H n)) : CallA P gl 36 args H n R :=
  CallA.inlineE IsProg.eq tau_ok0 mix0 Tryd.func36 (by kernel_rfl) (by kernel_rfl) (by kernel_rfl) (by kernel_rfl) hargs h

/- analemma/analemmaref04.pair -/
noncomputable def code37 : Code := Tryd.f37.body.getD .skip
theorem inl37 {J : Jd} {args : List AV} {H : Heap} {n : Nat} {R : AV → Heap → Nat → Prop} (hargs : args.length ≤ 43) (h : T.prop P gl n (resQ R) (bodyT tau gl J code37 43 [.tmp 4] args H n)) : CallA P gl 37 args H n R :=
  CallA.inlineE IsProg.eq tau_ok0 mix0 Tryd.func37 (by kernel_rfl) (by kernel_rfl) (by kernel_rfl) (by kernel_rfl) hargs h

/- internal/strconv.small -/
noncomputable def code38 : Code := Tryd.f38.body.getD .skip
theorem inl38 {J : Jd} {args : List AV} {H : Heap} {n : Nat} {R : AV → Heap → Nat → Prop} (hargs : args.length ≤ 15) (h : T.prop P gl n (resQ R) (bodyT tau gl J code38 15 [.tmp 2] args H n)) : CallA P gl 38 args H n R :=
  CallA.inlineE IsProg.eq tau_ok0 mix0 Tryd.func38 (by kernel_rfl) (by kernel_rfl) (by kernel_rfl) (by kernel_rfl) hargs h

/- internal/strconv.numDigits -/
noncomputable def code39 : Code := Tryd.f39.body.getD .skip
theorem inl39 {J : Jd} {args : List AV} {H : Heap} {n : Nat} {R : AV → Heap → Nat → Prop} (hargs : args.length ≤ 15) (h : T.prop P gl n (resQ R) (bodyT tau gl J code39 15 [.tmp 2] args H n)) : CallA P gl 39 args H n R :=
  CallA.inlineE IsProg.eq tau_ok0 mix0 Tryd.func39 (by kernel_rfl) (by kernel_rfl) (by kernel_rfl) (by kernel_rfl) hargs h

/- internal/strconv.formatBase10 -/
noncomputable def code40 : Code := Tryd.f40.body.getD .skip
theorem inl40 {J : Jd} {args : List AV} {H : Heap} {n : Nat} {R : AV → Heap → Nat → Prop} (hargs : args.length ≤ 167) (h : T.prop P gl n (resQ R) (bodyT tau gl J code40 167 [] args H n)) : CallA P gl 40 args H n R :=
  CallA.inlineE IsProg.eq tau_ok0 mix0 Tryd.func40 (by kernel_rfl) (by kernel_rfl) (by kernel_rfl) (by kernel_rfl) hargs h

/- internal/strconv.formatBits -/
noncomputable def code41 : Code := Tryd.f41.body.getD .skip
theorem inl41 {J : Jd} {args : List AV} {H : Heap} {n : Nat} {R : AV → Heap → Nat → Prop} (hargs : args.length ≤ 102) (h : T.prop P gl n (resQ R) (bodyT tau gl J code41 102 [.tmp 10, .tmp 11] args H n)) : CallA P gl 41 args H n R :=
  CallA.inlineE IsProg.eq tau_ok0 mix0 Tryd.func41 (by kernel_rfl) (by kernel_rfl) (by kernel_rfl) (by kernel_rfl) hargs h

/- internal/stringslite.HasPrefix -/
noncomputable def code42 : Code := Tryd.f42.body.getD .skip
theorem inl42 {J : Jd} {args : List AV} {H : Heap} {n : Nat} {R : AV → Heap → Nat → Prop} (hargs : args.length ≤ 18) (h : T.prop P gl n (resQ R) (bodyT tau gl J code42 18 [.tmp 4] args H n)) : CallA P gl 42 args H n R :=
  CallA.inlineE IsProg.eq tau_ok0 mix0 Tryd.func42 (by kernel_rfl) (by kernel_rfl) (by kernel_rfl) (by kernel_rfl) hargs h

/- internal/strconv.log10Pow2 -/
noncomputable def code43 : Code := Tryd.f43.body.getD .skip
theorem inl43 {J : Jd} {args : List AV} {H : Heap} {n : Nat} {R : AV → Heap → Nat → Prop} (hargs : args.length ≤ 6) (h : T.prop P gl n (resQ R) (bodyT tau gl J code43 6 [.tmp 2] args H n)) : CallA P gl 43 args H n R :=
  CallA.inlineE IsProg.eq tau_ok0 mix0 Tryd.func43 (by kernel_rfl) (by kernel_rfl) (by kernel_rfl) (by kernel_rfl) hargs h

/- math/bits.Len64 -/
noncomputable def code44 : Code := Tryd.f44.body.getD .skip
theorem inl44 {J : Jd} {args : List AV} {H : Heap} {n : Nat} {R : AV → Heap → Nat → Prop} (hargs : args.length ≤ 25) (h : T.prop P gl n (resQ R) (bodyT tau gl J code44 25 [.tmp 2] args H n)) : CallA P gl 44 args H n R :=
  CallA.inlineE IsProg.eq tau_ok0 mix0 Tryd.func44 (by kernel_rfl) (by kernel_rfl) (by kernel_rfl) (by kernel_rfl) hargs h

/- internal/strconv.bool2[int] -/
noncomputable def code45 : Code := Tryd.f45.body.getD .skip
theorem inl45 {J : Jd} {args : List AV} {H : Heap} {n : Nat} {R : AV → Heap → Nat → Prop} (hargs : args.length ≤ 4) (h : T.prop P gl n (resQ R) (bodyT tau gl J code45 4 [.tmp 2] args H n)) : CallA P gl 45 args H n R :=
  CallA.inlineE IsProg.eq tau_ok0 mix0 Tryd.func45 (by kernel_rfl) (by kernel_rfl) (by kernel_rfl) (by kernel_rfl) hargs h

/- internal/strconv.isPowerOfTwo -/
noncomputable def code46 : Code := Tryd.f46.body.getD .skip
theorem inl46 {J : Jd} {args : List AV} {H : Heap} {n : Nat} {R : AV → Heap → Nat → Prop} (hargs : args.length ≤ 8) (h : T.prop P gl n (resQ R) (bodyT tau gl J code46 8 [.tmp 2] args H n)) : CallA P gl 46 args H n R :=
  CallA.inlineE IsProg.eq tau_ok0 mix0 Tryd.func46 (by kernel_rfl) (by kernel_rfl) (by kernel_rfl) (by kernel_rfl) hargs h

/- math/bits.TrailingZeros -/
noncomputable def code47 : Code := Tryd.f47.body.getD .skip
theorem inl47 {J : Jd} {args : List AV} {H : Heap} {n : Nat} {R : AV → Heap → Nat → Prop} (hargs : args.length ≤ 8) (h : T.prop P gl n (resQ R) (bodyT tau gl J code47 8 [.tmp 2] args H n)) : CallA P gl 47 args H n R :=
  CallA.inlineE IsProg.eq tau_ok0 mix0 Tryd.func47 (by kernel_rfl) (by kernel_rfl) (by kernel_rfl) (by kernel_rfl) hargs h

/- math/bits.TrailingZeros32 -/
noncomputable def code48 : Code := Tryd.f48.body.getD .skip
theorem inl48 {J : Jd} {args : List AV} {H : Heap} {n : Nat} {R : AV → Heap → Nat → Prop} (hargs : args.length ≤ 14) (h : T.prop P gl n (resQ R) (bodyT tau gl J code48 14 [.tmp 2] args H n)) : CallA P gl 48 args H n R :=
  CallA.inlineE IsProg.eq tau_ok0 mix0 Tryd.func48 (by kernel_rfl) (by kernel_rfl) (by kernel_rfl) (by kernel_rfl) hargs h

/- math/bits.TrailingZeros64 -/
noncomputable def code49 : Code := Tryd.f49.body.getD .skip
theorem inl49 {J : Jd} {args : List AV} {H : Heap} {n : Nat} {R : AV → Heap → Nat → Prop} (hargs : args.length ≤ 14) (h : T.prop P gl n (resQ R) (bodyT tau gl J code49 14 [.tmp 2] args H n)) : CallA P gl 49 args H n R :=
  CallA.inlineE IsProg.eq tau_ok0 mix0 Tryd.func49 (by kernel_rfl) (by kernel_rfl) (by kernel_rfl) (by kernel_rfl) hargs h

noncomputable def fnList : List (Nat × FDesc) := [(3, code3, 32, [.tmp 2]),
  (4, code4, 35, [.tmp 2]),
  (5, code5, 74, [.tmp 8]),
  (6, code6, 63, [.tmp 2]),
  (7, code7, 88, [.tmp 4]),
  (8, code8, 69, [.tmp 6]),
  (9, code9, 47, [.tmp 0]),
  (10, code10, 39, [.cell 2 24, .tmp 3]),
  (11, code11, 44, [.cell 2 24, .tmp 3]),
  (12, code12, 33, [.tmp 2, .tmp 3]),
  (13, code13, 26, [.tmp 2, .tmp 3]),
  (14, code14, 21, [.tmp 2]),
  (15, code15, 21, [.tmp 2]),
  (16, code16, 12, [.cell 4 24]),
  (17, code17, 40, [.tmp 2, .tmp 3]),
  (18, code18, 23, [.tmp 6]),
  (19, code19, 20, [.tmp 4]),
  (20, code20, 34, [.tmp 6]),
  (21, code21, 24, [.tmp 2, .tmp 3]),
  (22, code22, 48, [.tmp 2, .tmp 3]),
  (23, code23, 12, [.tmp 2]),
  (24, code24, 38, [.tmp 2, .tmp 3]),
  (25, code25, 42, [.tmp 2, .tmp 3]),
  (26, code26, 8, [.tmp 4]),
  (27, code27, 11, [.tmp 2]),
  (28, code28, 11, [.tmp 4, .tmp 5]),
  (29, code29, 66, [.cell 2 53, .tmp 3]),
  (30, code30, 96, [.tmp 2, .tmp 3]),
  (31, code31, 16, [.tmp 2]),
  (32, code32, 10, [.tmp 2]),
  (33, code33, 54, [.tmp 4]),
  (34, code34, 15, [.tmp 4, .tmp 5]),
  (35, code35, 32, [.tmp 2]),
  (36, code36, 12, [.tmp 2]),
  (37, code37, 43, [.tmp 4]),
  (38, code38, 15, [.tmp 2]),
  (39, code39, 15, [.tmp 2]),
  (40, code40, 167, []),
  (41, code41, 102, [.tmp 10, .tmp 11]),
  (42, code42, 18, [.tmp 4]),
  (43, code43, 6, [.tmp 2]),
  (44, code44, 25, [.tmp 2]),
  (45, code45, 4, [.tmp 2]),
  (46, code46, 8, [.tmp 2]),
  (47, code47, 8, [.tmp 2]),
  (48, code48, 14, [.tmp 2]),
  (49, code49, 14, [.tmp 2])]
theorem fnD_ok : DOk P gl tau (Ax.look fnList) := dok
  (dok_cons (fun _ _ _ _ _ => inl3) 
  (dok_cons (fun _ _ _ _ _ => inl4) 
  (dok_cons (fun _ _ _ _ _ => inl5) 
  (dok_cons (fun _ _ _ _ _ => inl6) 
  (dok_cons (fun _ _ _ _ _ => inl7) 
  (dok_cons (fun _ _ _ _ _ => inl8) 
  (dok_cons (fun _ _ _ _ _ => inl9) 
  (dok_cons (fun _ _ _ _ _ => inl10) 
  (dok_cons (fun _ _ _ _ _ => inl11) 
  (dok_cons (fun _ _ _ _ _ => inl12) 
  (dok_cons (fun _ _ _ _ _ => inl13) 
  (dok_cons (fun _ _ _ _ _ => inl14) 
  (dok_cons (fun _ _ _ _ _ => inl15) 
  (dok_cons (fun _ _ _ _ _ => inl16) 
  (dok_cons (fun _ _ _ _ _ => inl17) 
  (dok_cons (fun _ _ _ _ _ => inl18) 
  (dok_cons (fun _ _ _ _ _ => inl19) 
  (dok_cons (fun _ _ _ _ _ => inl20) 
  (dok_cons (fun _ _ _ _ _ => inl21) 
  (dok_cons (fun _ _ _ _ _ => inl22) 
  (dok_cons (fun _ _ _ _ _ => inl23) 
  (dok_cons (fun _ _ _ _ _ => inl24) 
  (dok_cons (fun _ _ _ _ _ => inl25) 
  (dok_cons (fun _ _ _ _ _ => inl26) 
  (dok_cons (fun _ _ _ _ _ => inl27) 
  (dok_cons (fun _ _ _ _ _ => inl28) 
  (dok_cons (fun _ _ _ _ _ => inl29) 
  (dok_cons (fun _ _ _ _ _ => inl30) 
  (dok_cons (fun _ _ _ _ _ => inl31) 
  (dok_cons (fun _ _ _ _ _ => inl32) 
  (dok_cons (fun _ _ _ _ _ => inl33) 
  (dok_cons (fun _ _ _ _ _ => inl34) 
  (dok_cons (fun _ _ _ _ _ => inl35) 
  (dok_cons (fun _ _ _ _ _ => inl36) 
  (dok_cons (fun _ _ _ _ _ => inl37) 
  (dok_cons (fun _ _ _ _ _ => inl38) 
  (dok_cons (fun _ _ _ _ _ => inl39) 
  (dok_cons (fun _ _ _ _ _ => inl40) 
  (dok_cons (fun _ _ _ _ _ => inl41) 
  (dok_cons (fun _ _ _ _ _ => inl42) 
  (dok_cons (fun _ _ _ _ _ => inl43) 
  (dok_cons (fun _ _ _ _ _ => inl44) 
  (dok_cons (fun _ _ _ _ _ => inl45) 
  (dok_cons (fun _ _ _ _ _ => inl46) 
  (dok_cons (fun _ _ _ _ _ => inl47) 
  (dok_cons (fun _ _ _ _ _ => inl48) 
  (dok_cons (fun _ _ _ _ _ => inl49) dok_nil)))))))))))))))))))))))))))))))))))))))))))))))
def jList : List (Nat × Jd) := [(3, ⟨[], [], [(5, [2]), (4, [3, 4, 5, 6]), (3, [0, 3, 4]), (2, [2]), (1, [0, 9]), (0, [0])]⟩), (4, ⟨[], [], [(3, [2]), (2, [1, 3, 4, 5, 6]), (1, [1, 3, 4]), (0, [1])]⟩), (5, ⟨[], [], [(5, [8]), (4, [9, 10, 11, 12, 13, 14, 15, 16]), (3, [9, 10, 11, 12, 13, 14]), (2, [9, 10, 11, 12]), (1, [9, 10]), (0, [0, 1, 2, 3])]⟩), (6, ⟨[], [], [(8, [2]), (7, [3, 6, 7, 8]), (6, [3, 5, 6]), (5, [2]), (4, [3, 4, 19]), (3, [3, 4]), (2, [2]), (1, [0, 11]), (0, [0])]⟩), (7, ⟨[], [], [(14, [4]), (13, [1, 11]), (12, [1, 5, 6, 33, 34, 35]), (11, [4]), (10, [1, 5, 6, 33, 34, 35, 63]), (9, [4]), (8, [1, 5, 6, 9, 33, 34, 35, 58]), (7, [1, 5, 6, 9, 33, 34, 35]), (6, [1, 5, 6, 33, 34, 35, 36]), (5, [1, 5, 6, 33, 34, 35]), (4, [4]), (3, [1, 5, 6, 27]), (2, [1, 5, 6, 7]), (1, [1, 5]), (0, [0, 1])]⟩), (8, ⟨[], [], [(10, [6]), (9, [7, 40, 41, 42]), (8, [6]), (7, [7, 40, 41, 42, 61]), (6, [7, 10, 11, 12, 40, 41, 42]), (5, [7, 10, 40, 41, 42]), (4, [7, 40, 41, 42, 43]), (3, [7, 40, 41, 42]), (2, [2, 7, 8]), (1, [2, 7]), (0, [0, 1, 2])]⟩), (9, ⟨[], [], [(1, [0]), (0, [])]⟩), (10, ⟨[], [3], [(9, [2, 3]), (8, [2, 3]), (7, [2, 4, 7, 8, 33]), (6, [2, 4, 7, 8]), (5, [0, 2, 4]), (4, [0, 2, 4, 5, 20]), (3, [0, 2, 4, 5, 6]), (2, [0, 2, 4, 10]), (1, [0, 2, 4]), (0, [0, 2])]⟩), (11, ⟨[], [3], [(9, [2, 3]), (8, [2, 4]), (7, [2, 3]), (6, [2, 4, 5, 6, 38]), (5, [2, 4, 5, 6]), (4, [0, 2, 4]), (3, [0, 2, 4]), (2, [0, 2, 4, 19]), (1, [0, 2, 4]), (0, [0, 2])]⟩), (12, ⟨[], [], [(9, [2, 3]), (8, [4]), (7, [4, 6, 24]), (6, [1, 4, 6]), (5, [2, 3]), (4, [1, 4, 17]), (3, [1, 4, 5]), (2, [2, 3]), (1, [1, 9]), (0, [1])]⟩), (13, ⟨[], [], [(9, [2, 3]), (6, [4]), (8, [4]), (7, [4, 21]), (5, [4, 16, 17]), (4, [4, 16]), (3, [1, 4]), (2, [2, 3]), (1, [1, 8]), (0, [1])]⟩), (14, ⟨[(1, 20)], [], [(3, [2]), (2, [2]), (1, [20]), (0, [1])]⟩), (15, ⟨[(1, 20)], [], [(3, [2]), (2, [2]), (1, [20]), (0, [1])]⟩), (16, ⟨[], [], [(1, [4]), (0, [0, 1, 4])]⟩), (17, ⟨[(1, 12)], [5], [(10, [2, 3]), (9, [5]), (8, [5, 6, 34]), (7, [5, 6]), (6, [0, 5]), (5, [0, 4]), (4, [0, 4, 14]), (3, [0, 4]), (2, [2, 3]), (1, [0, 12]), (0, [0])]⟩), (18, ⟨[(2, 6)], [], [(2, [6]), (1, [1, 2, 7, 8]), (0, [0, 1, 2])]⟩), (19, ⟨[(2, 4)], [], [(2, [4]), (1, [1, 5, 6]), (0, [0, 1])]⟩), (20, ⟨[(2, 6)], [], [(2, [6]), (1, [2, 7, 8]), (0, [0, 1, 2])]⟩), (21, ⟨[], [], [(10, [2, 3]), (9, [0, 8, 9]), (8, [2, 3]), (7, [0, 4, 8, 9, 14, 21]), (6, [0, 4, 7, 8, 9, 14]), (5, [0, 4, 8, 9, 14, 15, 16]), (4, [0, 4, 8, 9, 14]), (3, [0, 4, 5, 8, 9]), (2, [0, 8, 9, 10]), (1, [0, 8, 9]), (0, [0])]⟩), (22, ⟨[(15, 46)], [], [(17, [2, 3]), (16, [2, 3]), (15, [8, 46]), (14, [8]), (13, [2, 3]), (12, [8, 38]), (11, [8, 36]), (10, [5, 8, 23, 24]), (9, [5, 8, 23, 24]), (8, [5, 8, 9, 10, 23, 24]), (7, [5, 8, 23, 24, 25]), (6, [5, 8, 23, 24]), (5, [5, 6, 8]), (4, [2, 3]), (3, [5, 6, 22]), (2, [5, 6, 7]), (1, [4, 5]), (0, [0])]⟩), (23, ⟨[(8, 8)], [], [(10, [2]), (3, [2]), (5, [2]), (9, [2]), (8, [8]), (7, [3, 8]), (6, [3, 8]), (4, [3, 6]), (2, [3, 4]), (1, [3]), (0, [0])]⟩), (24, ⟨[(1, 4), (5, 31)], [3], [(11, [2, 3]), (10, [2, 3]), (9, [5, 34]), (8, [2, 3]), (7, [4, 5, 33]), (6, [2, 3]), (5, [4, 5, 31]), (4, [4, 5, 6]), (3, [0, 4]), (2, [0, 4, 15]), (1, [0, 4]), (0, [0])]⟩), (25, ⟨[(1, 12)], [], [(9, [2, 3]), (8, [6]), (7, [0, 6, 34]), (6, [0, 6]), (5, [2, 3]), (4, [4]), (3, [0, 14]), (2, [2, 3]), (1, [0, 12]), (0, [0])]⟩), (26, ⟨[], [], [(1, [4]), (0, [0, 1])]⟩), (27, ⟨[], [], [(1, [2]), (0, [0])]⟩), (28, ⟨[], [], [(1, [4, 5]), (0, [0, 1])]⟩), (29, ⟨[(4, 26), (7, 35), (13, 58)], [], [(17, [2, 3]), (16, [2, 3]), (15, [2, 63]), (8, [1, 2, 4, 5, 6]), (14, [2, 3]), (13, [1, 2, 4, 5, 6, 58]), (12, [1, 2, 4, 5, 6, 7]), (11, [1, 2, 4, 5, 6, 7]), (10, [1, 2, 4, 5, 6]), (9, [1, 2, 4, 5, 6, 41]), (7, [1, 2, 4, 5, 6, 35]), (6, [1, 2, 4, 5, 6]), (5, [2, 3]), (4, [1, 2, 4, 5, 26]), (3, [1, 2, 4, 5]), (2, [1, 2, 4, 5]), (1, [1, 2, 4]), (0, [1, 2])]⟩), (30, ⟨[(8, 40), (13, 58), (18, 88)], [], [(20, [2, 3]), (19, [2, 3]), (18, [5, 6, 7, 88]), (17, [0, 4, 5, 6, 7]), (16, [2, 3]), (15, [0, 4, 5, 6, 63]), (14, [2, 3]), (13, [0, 4, 5, 6, 58]), (12, [0, 4, 5, 6]), (11, [2, 3]), (10, [0, 4, 5, 44]), (9, [2, 3]), (8, [0, 4, 5, 40]), (7, [2, 3]), (6, [0, 4, 5, 29]), (5, [0, 4, 5]), (4, [0, 4, 5]), (3, [0, 4, 5, 18]), (2, [0, 4, 5]), (1, [0, 4]), (0, [0])]⟩), (31, ⟨[], [], [(3, [2]), (2, [2]), (1, [0, 4]), (0, [0])]⟩), (32, ⟨[], [], [(1, [2]), (0, [0])]⟩), (33, ⟨[(2, 17)], [7], [(15, [4]), (14, [9]), (13, [4]), (12, [4]), (11, [5, 7]), (10, [5, 7, 34]), (9, [0, 5, 7]), (8, [0, 5, 6, 7]), (7, [0, 5, 6]), (6, [0, 5, 6, 23]), (5, [0, 5, 6]), (4, [0, 5]), (3, [4]), (2, [0, 17]), (1, [0, 1, 11]), (0, [0, 1])]⟩), (34, ⟨[], [], [(3, [4, 5]), (2, [4, 5]), (1, [0, 1, 9]), (0, [0, 1])]⟩), (35, ⟨[(2, 19)], [], [(5, [2]), (3, [0, 1, 3]), (4, [0, 1, 3]), (2, [0, 1, 3, 19]), (1, [0, 1, 3]), (0, [0, 1])]⟩), (36, ⟨[(1, 8)], [], [(3, [2]), (2, [2]), (1, [0, 8]), (0, [0])]⟩), (37, ⟨[], [], [(3, [4]), (2, [4]), (1, [0, 1, 31]), (0, [0, 1])]⟩), (38, ⟨[], [], [(3, [2]), (2, [2]), (1, [0, 4]), (0, [0])]⟩), (39, ⟨[], [], [(2, [2]), (1, [0, 3]), (0, [0])]⟩), (40, ⟨[], [14], [(26, []), (25, [0, 12, 161]), (24, [0, 4, 12]), (23, [0, 4, 12]), (22, [0, 4, 12, 16]), (21, [0, 4, 12, 16]), (20, [0, 4, 12, 139]), (19, [0, 4, 12]), (18, [0, 4, 12]), (17, [0, 4, 12, 14]), (16, [0, 4, 12, 14, 15]), (15, [0, 4, 12, 13]), (14, [0, 4, 12, 13]), (13, [0, 4, 12, 99]), (12, [0, 4, 12]), (11, [0, 1, 4]), (10, [0, 1, 4]), (9, [0, 1, 4, 10]), (8, [0, 1, 4, 10, 11]), (7, [0, 1, 4, 8, 10, 11]), (6, [0, 1, 4, 8, 9, 10, 11]), (5, [0, 1, 4, 6, 8, 9]), (4, [0, 1, 4, 6, 7]), (3, [0, 1, 4, 5]), (2, [0, 1, 4, 5]), (1, [0, 1, 4, 20]), (0, [0, 1, 4])]⟩), (41, ⟨[(1, 28)], [2, 6, 8], [(30, [10, 11]), (29, [10, 11]), (28, [0, 10, 11, 12, 13, 94]), (27, [0, 4, 10, 11, 12, 13]), (26, [0, 4, 10, 11, 12, 13]), (25, [0, 4, 10, 11, 12, 13, 89]), (16, [0, 3, 4, 10, 11, 12, 13]), (15, [0, 1, 3, 4, 10, 11, 12, 13]), (14, [0, 1, 3, 4, 10, 11, 12, 13, 14, 15, 16]), (13, [0, 1, 3, 4, 10, 11, 12, 13, 14, 15, 16]), (12, [0, 1, 3, 4, 10, 11, 12, 13, 14, 15, 16]), (11, [0, 1, 3, 4, 10, 11, 12, 13, 14, 15, 16, 46]), (10, [0, 1, 3, 4, 10, 11, 12, 13, 14, 15, 16]), (9, [0, 1, 2, 3, 4, 10, 11, 12, 13, 14, 15]), (8, [0, 1, 2, 3, 4, 10, 11, 12, 13, 14]), (24, [0, 3, 4, 10, 11, 12, 13]), (23, [0, 1, 3, 4, 10, 11, 12, 13]), (22, [0, 1, 3, 4, 10, 11, 12, 13, 17]), (21, [0, 3, 4, 10, 11, 12, 13, 17, 18]), (20, [0, 1, 3, 4, 10, 11, 12, 13, 17, 18]), (19, [0, 1, 3, 4, 10, 11, 12, 13, 17]), (18, [0, 1, 3, 4, 10, 11, 12, 13, 17, 68]), (17, [0, 1, 3, 4, 10, 11, 12, 13, 17]), (7, [0, 1, 2, 3, 4, 10, 11, 12, 13, 34]), (6, [0, 1, 2, 3, 4, 10, 11, 12, 13]), (5, [0, 1, 2, 3, 4, 10, 11, 12, 13, 30]), (4, [0, 1, 2, 3, 4, 10, 11, 12, 13]), (3, [0, 1, 2, 3, 4, 10, 11, 12]), (2, [0, 1, 2, 3, 4, 10, 11]), (1, [0, 1, 2, 3, 4, 10, 11, 28]), (0, [0, 1, 2, 3, 4, 10, 11])]⟩), (42, ⟨[(1, 4)], [], [(1, [4]), (0, [0, 1])]⟩), (43, ⟨[], [], [(1, [2]), (0, [0])]⟩), (44, ⟨[], [2, 5], [(10, [2]), (9, [0, 2]), (8, [0, 2]), (7, [0, 2, 14]), (6, [0, 2]), (5, [0, 2]), (4, [0, 2, 8]), (3, [0, 2]), (2, [0]), (1, [0, 2, 4]), (0, [0, 2])]⟩), (45, ⟨[], [], [(3, [2]), (2, [2]), (1, [3]), (0, [0])]⟩), (46, ⟨[(1, 2)], [], [(1, [2]), (0, [0])]⟩), (47, ⟨[], [], [(2, [2]), (1, [2]), (0, [0])]⟩), (48, ⟨[], [], [(3, [2]), (2, [2]), (1, [0, 4]), (0, [0])]⟩), (49, ⟨[], [], [(3, [2]), (2, [2]), (1, [0, 4]), (0, [0])]⟩)]
/-- The functions, each with the tests of its regions and the shapes of its loops. -/
noncomputable def xd (tms : List (Nat × List (Nat × Nat × Tm))) (f : Nat) : Option XDesc :=
  match Ax.look fnList f with
  | some (c, nt, rs) => some (c, nt, rs, ⟨(Ax.look jList f).getD noJ, (Ax.look tms f).getD []⟩)
  | none => none

theorem xd_ok (tms : List (Nat × List (Nat × Nat × Tm))) : DXOk P gl tau (xd tms) := by
  intro f c nt res cx h J args H n R ha hp
  unfold xd at h
  split at h
  · rename_i c' nt' rs' hf
    cases h
    exact fnD_ok f c nt res hf J args H n R ha hp
  · cases h
end Go.Proofs.YtnfgmffcnmifkaaDoor
