/-
  The types and the functions of this seat, for the small abstract machine.
-/
import Derived.Test.YtgmmcmfnniaekaaDoorAx27
import Derived.Test.YtgmmcmfnniaekaaDoorProg
import Derived.KernelRfl
namespace Go.Proofs.YtgmmcmfnniaekaaDoor
open Go.Ax
set_option linter.unusedVariables false
set_option maxRecDepth 100000

def tyList : List (Nat × TI) := [(1, ⟨.func, 1, 8, [.nilFunc], []⟩),
  (2, ⟨.int .i64, 1, 8, [.int .i64 (.lit 0)], []⟩),
  (3, ⟨.int .i64, 1, 8, [.int .i64 (.lit 0)], []⟩),
  (4, ⟨.bool, 1, 1, [.bool false], []⟩),
  (5, ⟨.int .u8, 1, 1, [.int .u8 (.lit 0)], []⟩),
  (6, ⟨.int .u8, 1, 1, [.int .u8 (.lit 0)], []⟩),
  (7, ⟨.struct [(0, 2), (1, 3), (2, 4), (3, 6)], 4, 24, [.int .i64 (.lit 0), .int .i64 (.lit 0), .bool false, .int .u8 (.lit 0)], []⟩),
  (8, ⟨.struct [(0, 2), (1, 3), (2, 4), (3, 6)], 4, 24, [.int .i64 (.lit 0), .int .i64 (.lit 0), .bool false, .int .u8 (.lit 0)], []⟩),
  (9, ⟨.string, 1, 16, [.str (.lit [])], []⟩),
  (10, ⟨.string, 1, 16, [.str (.lit [])], []⟩),
  (11, ⟨.string, 1, 16, [.str (.lit [])], []⟩),
  (12, ⟨.int .u64, 1, 8, [.int .u64 (.lit 0)], []⟩),
  (13, ⟨.struct [(0, 9), (1, 12)], 2, 24, [.str (.lit []), .int .u64 (.lit 0)], []⟩),
  (14, ⟨.struct [(0, 9), (1, 12)], 2, 24, [.str (.lit []), .int .u64 (.lit 0)], []⟩),
  (15, ⟨.ptr 117, 1, 8, [.nilptr], []⟩),
  (16, ⟨.ptr 120, 1, 8, [.nilptr], []⟩),
  (17, ⟨.ptr 127, 1, 8, [.nilptr], []⟩),
  (18, ⟨.struct [(0, 17)], 1, 8, [.nilptr], []⟩),
  (19, ⟨.struct [(0, 17)], 1, 8, [.nilptr], []⟩),
  (20, ⟨.iface, 1, 16, [.nilIface], []⟩),
  (21, ⟨.int .i32, 1, 4, [.int .i32 (.lit 0)], []⟩),
  (22, ⟨.func, 1, 8, [.nilFunc], []⟩),
  (23, ⟨.func, 1, 8, [.nilFunc], []⟩),
  (24, ⟨.slice 30, 1, 24, [.nil], []⟩),
  (25, ⟨.func, 1, 8, [.nilFunc], []⟩),
  (26, ⟨.slice 9, 1, 24, [.nil], []⟩),
  (27, ⟨.func, 1, 8, [.nilFunc], []⟩),
  (28, ⟨.func, 1, 8, [.nilFunc], []⟩),
  (29, ⟨.func, 1, 8, [.nilFunc], []⟩),
  (30, ⟨.slice 5, 1, 24, [.nil], []⟩),
  (32, ⟨.func, 1, 8, [.nilFunc], []⟩),
  (33, ⟨.func, 1, 8, [.nilFunc], []⟩),
  (34, ⟨.func, 1, 8, [.nilFunc], []⟩),
  (35, ⟨.func, 1, 8, [.nilFunc], []⟩),
  (36, ⟨.struct [(0, 9), (1, 9)], 2, 32, [.str (.lit []), .str (.lit [])], []⟩),
  (37, ⟨.struct [(0, 9), (1, 9)], 2, 32, [.str (.lit []), .str (.lit [])], [.string, .string]⟩),
  (38, ⟨.int .i64, 1, 8, [.int .i64 (.lit 0)], []⟩),
  (40, ⟨.func, 1, 8, [.nilFunc], []⟩),
  (42, ⟨.func, 1, 8, [.nilFunc], []⟩),
  (43, ⟨.func, 1, 8, [.nilFunc], []⟩),
  (44, ⟨.func, 1, 8, [.nilFunc], []⟩),
  (45, ⟨.func, 1, 8, [.nilFunc], []⟩),
  (46, ⟨.func, 1, 8, [.nilFunc], []⟩),
  (48, ⟨.func, 1, 8, [.nilFunc], []⟩),
  (49, ⟨.func, 1, 8, [.nilFunc], []⟩),
  (50, ⟨.func, 1, 8, [.nilFunc], []⟩),
  (51, ⟨.func, 1, 8, [.nilFunc], []⟩),
  (52, ⟨.func, 1, 8, [.nilFunc], []⟩),
  (53, ⟨.func, 1, 8, [.nilFunc], []⟩),
  (54, ⟨.func, 1, 8, [.nilFunc], []⟩),
  (55, ⟨.func, 1, 8, [.nilFunc], []⟩),
  (56, ⟨.func, 1, 8, [.nilFunc], []⟩),
  (57, ⟨.func, 1, 8, [.nilFunc], []⟩),
  (58, ⟨.func, 1, 8, [.nilFunc], []⟩),
  (59, ⟨.func, 1, 8, [.nilFunc], []⟩),
  (60, ⟨.func, 1, 8, [.nilFunc], []⟩),
  (61, ⟨.func, 1, 8, [.nilFunc], []⟩),
  (62, ⟨.int .u64, 1, 8, [.int .u64 (.lit 0)], []⟩),
  (64, ⟨.func, 1, 8, [.nilFunc], []⟩),
  (65, ⟨.ptr 67, 1, 8, [.nilptr], []⟩),
  (66, ⟨.struct [(0, 65), (1, 30)], 2, 32, [.nilptr, .nil], []⟩),
  (67, ⟨.struct [(0, 65), (1, 30)], 2, 32, [.nilptr, .nil], []⟩),
  (68, ⟨.func, 1, 8, [.nilFunc], []⟩),
  (69, ⟨.iface, 1, 16, [.nilIface], []⟩),
  (70, ⟨.iface, 1, 16, [.nilIface], []⟩),
  (72, ⟨.func, 1, 8, [.nilFunc], []⟩),
  (73, ⟨.func, 1, 8, [.nilFunc], []⟩),
  (74, ⟨.func, 1, 8, [.nilFunc], []⟩),
  (75, ⟨.struct [(0, 26), (1, 37), (3, 38)], 4, 64, [.nil, .str (.lit []), .str (.lit []), .int .i64 (.lit 0)], []⟩),
  (76, ⟨.slice 75, 1, 24, [.nil], []⟩),
  (77, ⟨.struct [(0, 26), (1, 9), (2, 38)], 3, 48, [.nil, .str (.lit []), .int .i64 (.lit 0)], []⟩),
  (78, ⟨.slice 77, 1, 24, [.nil], []⟩),
  (79, ⟨.func, 1, 8, [.nilFunc], []⟩),
  (80, ⟨.func, 1, 8, [.nilFunc], []⟩),
  (81, ⟨.func, 1, 8, [.nilFunc], []⟩),
  (82, ⟨.array 128 5, 128, 128, [.int .u8 (.lit 0), .int .u8 (.lit 0), .int .u8 (.lit 0), .int .u8 (.lit 0), .int .u8 (.lit 0), .int .u8 (.lit 0), .int .u8 (.lit 0), .int .u8 (.lit 0), .int .u8 (.lit 0), .int .u8 (.lit 0), .int .u8 (.lit 0), .int .u8 (.lit 0), .int .u8 (.lit 0), .int .u8 (.lit 0), .int .u8 (.lit 0), .int .u8 (.lit 0), .int .u8 (.lit 0), .int .u8 (.lit 0), .int .u8 (.lit 0), .int .u8 (.lit 0), .int .u8 (.lit 0), .int .u8 (.lit 0), .int .u8 (.lit 0), .int .u8 (.lit 0), .int .u8 (.lit 0), .int .u8 (.lit 0), .int .u8 (.lit 0), .int .u8 (.lit 0), .int .u8 (.lit 0), .int .u8 (.lit 0), .int .u8 (.lit 0), .int .u8 (.lit 0), .int .u8 (.lit 0), .int .u8 (.lit 0), .int .u8 (.lit 0), .int .u8 (.lit 0), .int .u8 (.lit 0), .int .u8 (.lit 0), .int .u8 (.lit 0), .int .u8 (.lit 0), .int .u8 (.lit 0), .int .u8 (.lit 0), .int .u8 (.lit 0), .int .u8 (.lit 0), .int .u8 (.lit 0), .int .u8 (.lit 0), .int .u8 (.lit 0), .int .u8 (.lit 0), .int .u8 (.lit 0), .int .u8 (.lit 0), .int .u8 (.lit 0), .int .u8 (.lit 0), .int .u8 (.lit 0), .int .u8 (.lit 0), .int .u8 (.lit 0), .int .u8 (.lit 0), .int .u8 (.lit 0), .int .u8 (.lit 0), .int .u8 (.lit 0), .int .u8 (.lit 0), .int .u8 (.lit 0), .int .u8 (.lit 0), .int .u8 (.lit 0), .int .u8 (.lit 0), .int .u8 (.lit 0), .int .u8 (.lit 0), .int .u8 (.lit 0), .int .u8 (.lit 0), .int .u8 (.lit 0), .int .u8 (.lit 0), .int .u8 (.lit 0), .int .u8 (.lit 0), .int .u8 (.lit 0), .int .u8 (.lit 0), .int .u8 (.lit 0), .int .u8 (.lit 0), .int .u8 (.lit 0), .int .u8 (.lit 0), .int .u8 (.lit 0), .int .u8 (.lit 0), .int .u8 (.lit 0), .int .u8 (.lit 0), .int .u8 (.lit 0), .int .u8 (.lit 0), .int .u8 (.lit 0), .int .u8 (.lit 0), .int .u8 (.lit 0), .int .u8 (.lit 0), .int .u8 (.lit 0), .int .u8 (.lit 0), .int .u8 (.lit 0), .int .u8 (.lit 0), .int .u8 (.lit 0), .int .u8 (.lit 0), .int .u8 (.lit 0), .int .u8 (.lit 0), .int .u8 (.lit 0), .int .u8 (.lit 0), .int .u8 (.lit 0), .int .u8 (.lit 0), .int .u8 (.lit 0), .int .u8 (.lit 0), .int .u8 (.lit 0), .int .u8 (.lit 0), .int .u8 (.lit 0), .int .u8 (.lit 0), .int .u8 (.lit 0), .int .u8 (.lit 0), .int .u8 (.lit 0), .int .u8 (.lit 0), .int .u8 (.lit 0), .int .u8 (.lit 0), .int .u8 (.lit 0), .int .u8 (.lit 0), .int .u8 (.lit 0), .int .u8 (.lit 0), .int .u8 (.lit 0), .int .u8 (.lit 0), .int .u8 (.lit 0), .int .u8 (.lit 0), .int .u8 (.lit 0), .int .u8 (.lit 0), .int .u8 (.lit 0), .int .u8 (.lit 0), .int .u8 (.lit 0), .int .u8 (.lit 0), .int .u8 (.lit 0), .int .u8 (.lit 0)], []⟩),
  (83, ⟨.func, 1, 8, [.nilFunc], []⟩),
  (84, ⟨.func, 1, 8, [.nilFunc], []⟩),
  (85, ⟨.int .u32, 1, 4, [.int .u32 (.lit 0)], []⟩),
  (87, ⟨.func, 1, 8, [.nilFunc], []⟩),
  (88, ⟨.int .u64, 1, 8, [.int .u64 (.lit 0)], []⟩),
  (90, ⟨.func, 1, 8, [.nilFunc], []⟩),
  (91, ⟨.ptr 5, 1, 8, [.nilptr], []⟩),
  (92, ⟨.func, 1, 8, [.nilFunc], []⟩),
  (94, ⟨.func, 1, 8, [.nilFunc], []⟩),
  (95, ⟨.func, 1, 8, [.nilFunc], []⟩),
  (96, ⟨.func, 1, 8, [.nilFunc], []⟩),
  (98, ⟨.func, 1, 8, [.nilFunc], []⟩),
  (99, ⟨.func, 1, 8, [.nilFunc], []⟩),
  (100, ⟨.func, 1, 8, [.nilFunc], []⟩),
  (101, ⟨.func, 1, 8, [.nilFunc], []⟩),
  (102, ⟨.func, 1, 8, [.nilFunc], []⟩),
  (103, ⟨.array 256 5, 256, 256, [.int .u8 (.lit 0), .int .u8 (.lit 0), .int .u8 (.lit 0), .int .u8 (.lit 0), .int .u8 (.lit 0), .int .u8 (.lit 0), .int .u8 (.lit 0), .int .u8 (.lit 0), .int .u8 (.lit 0), .int .u8 (.lit 0), .int .u8 (.lit 0), .int .u8 (.lit 0), .int .u8 (.lit 0), .int .u8 (.lit 0), .int .u8 (.lit 0), .int .u8 (.lit 0), .int .u8 (.lit 0), .int .u8 (.lit 0), .int .u8 (.lit 0), .int .u8 (.lit 0), .int .u8 (.lit 0), .int .u8 (.lit 0), .int .u8 (.lit 0), .int .u8 (.lit 0), .int .u8 (.lit 0), .int .u8 (.lit 0), .int .u8 (.lit 0), .int .u8 (.lit 0), .int .u8 (.lit 0), .int .u8 (.lit 0), .int .u8 (.lit 0), .int .u8 (.lit 0), .int .u8 (.lit 0), .int .u8 (.lit 0), .int .u8 (.lit 0), .int .u8 (.lit 0), .int .u8 (.lit 0), .int .u8 (.lit 0), .int .u8 (.lit 0), .int .u8 (.lit 0), .int .u8 (.lit 0), .int .u8 (.lit 0), .int .u8 (.lit 0), .int .u8 (.lit 0), .int .u8 (.lit 0), .int .u8 (.lit 0), .int .u8 (.lit 0), .int .u8 (.lit 0), .int .u8 (.lit 0), .int .u8 (.lit 0), .int .u8 (.lit 0), .int .u8 (.lit 0), .int .u8 (.lit 0), .int .u8 (.lit 0), .int .u8 (.lit 0), .int .u8 (.lit 0), .int .u8 (.lit 0), .int .u8 (.lit 0), .int .u8 (.lit 0), .int .u8 (.lit 0), .int .u8 (.lit 0), .int .u8 (.lit 0), .int .u8 (.lit 0), .int .u8 (.lit 0), .int .u8 (.lit 0), .int .u8 (.lit 0), .int .u8 (.lit 0), .int .u8 (.lit 0), .int .u8 (.lit 0), .int .u8 (.lit 0), .int .u8 (.lit 0), .int .u8 (.lit 0), .int .u8 (.lit 0), .int .u8 (.lit 0), .int .u8 (.lit 0), .int .u8 (.lit 0), .int .u8 (.lit 0), .int .u8 (.lit 0), .int .u8 (.lit 0), .int .u8 (.lit 0), .int .u8 (.lit 0), .int .u8 (.lit 0), .int .u8 (.lit 0), .int .u8 (.lit 0), .int .u8 (.lit 0), .int .u8 (.lit 0), .int .u8 (.lit 0), .int .u8 (.lit 0), .int .u8 (.lit 0), .int .u8 (.lit 0), .int .u8 (.lit 0), .int .u8 (.lit 0), .int .u8 (.lit 0), .int .u8 (.lit 0), .int .u8 (.lit 0), .int .u8 (.lit 0), .int .u8 (.lit 0), .int .u8 (.lit 0), .int .u8 (.lit 0), .int .u8 (.lit 0), .int .u8 (.lit 0), .int .u8 (.lit 0), .int .u8 (.lit 0), .int .u8 (.lit 0), .int .u8 (.lit 0), .int .u8 (.lit 0), .int .u8 (.lit 0), .int .u8 (.lit 0), .int .u8 (.lit 0), .int .u8 (.lit 0), .int .u8 (.lit 0), .int .u8 (.lit 0), .int .u8 (.lit 0), .int .u8 (.lit 0), .int .u8 (.lit 0), .int .u8 (.lit 0), .int .u8 (.lit 0), .int .u8 (.lit 0), .int .u8 (.lit 0), .int .u8 (.lit 0), .int .u8 (.lit 0), .int .u8 (.lit 0), .int .u8 (.lit 0), .int .u8 (.lit 0), .int .u8 (.lit 0), .int .u8 (.lit 0), .int .u8 (.lit 0), .int .u8 (.lit 0), .int .u8 (.lit 0), .int .u8 (.lit 0), .int .u8 (.lit 0), .int .u8 (.lit 0), .int .u8 (.lit 0), .int .u8 (.lit 0), .int .u8 (.lit 0), .int .u8 (.lit 0), .int .u8 (.lit 0), .int .u8 (.lit 0), .int .u8 (.lit 0), .int .u8 (.lit 0), .int .u8 (.lit 0), .int .u8 (.lit 0), .int .u8 (.lit 0), .int .u8 (.lit 0), .int .u8 (.lit 0), .int .u8 (.lit 0), .int .u8 (.lit 0), .int .u8 (.lit 0), .int .u8 (.lit 0), .int .u8 (.lit 0), .int .u8 (.lit 0), .int .u8 (.lit 0), .int .u8 (.lit 0), .int .u8 (.lit 0), .int .u8 (.lit 0), .int .u8 (.lit 0), .int .u8 (.lit 0), .int .u8 (.lit 0), .int .u8 (.lit 0), .int .u8 (.lit 0), .int .u8 (.lit 0), .int .u8 (.lit 0), .int .u8 (.lit 0), .int .u8 (.lit 0), .int .u8 (.lit 0), .int .u8 (.lit 0), .int .u8 (.lit 0), .int .u8 (.lit 0), .int .u8 (.lit 0), .int .u8 (.lit 0), .int .u8 (.lit 0), .int .u8 (.lit 0), .int .u8 (.lit 0), .int .u8 (.lit 0), .int .u8 (.lit 0), .int .u8 (.lit 0), .int .u8 (.lit 0), .int .u8 (.lit 0), .int .u8 (.lit 0), .int .u8 (.lit 0), .int .u8 (.lit 0), .int .u8 (.lit 0), .int .u8 (.lit 0), .int .u8 (.lit 0), .int .u8 (.lit 0), .int .u8 (.lit 0), .int .u8 (.lit 0), .int .u8 (.lit 0), .int .u8 (.lit 0), .int .u8 (.lit 0), .int .u8 (.lit 0), .int .u8 (.lit 0), .int .u8 (.lit 0), .int .u8 (.lit 0), .int .u8 (.lit 0), .int .u8 (.lit 0), .int .u8 (.lit 0), .int .u8 (.lit 0), .int .u8 (.lit 0), .int .u8 (.lit 0), .int .u8 (.lit 0), .int .u8 (.lit 0), .int .u8 (.lit 0), .int .u8 (.lit 0), .int .u8 (.lit 0), .int .u8 (.lit 0), .int .u8 (.lit 0), .int .u8 (.lit 0), .int .u8 (.lit 0), .int .u8 (.lit 0), .int .u8 (.lit 0), .int .u8 (.lit 0), .int .u8 (.lit 0), .int .u8 (.lit 0), .int .u8 (.lit 0), .int .u8 (.lit 0), .int .u8 (.lit 0), .int .u8 (.lit 0), .int .u8 (.lit 0), .int .u8 (.lit 0), .int .u8 (.lit 0), .int .u8 (.lit 0), .int .u8 (.lit 0), .int .u8 (.lit 0), .int .u8 (.lit 0), .int .u8 (.lit 0), .int .u8 (.lit 0), .int .u8 (.lit 0), .int .u8 (.lit 0), .int .u8 (.lit 0), .int .u8 (.lit 0), .int .u8 (.lit 0), .int .u8 (.lit 0), .int .u8 (.lit 0), .int .u8 (.lit 0), .int .u8 (.lit 0), .int .u8 (.lit 0), .int .u8 (.lit 0), .int .u8 (.lit 0), .int .u8 (.lit 0), .int .u8 (.lit 0), .int .u8 (.lit 0), .int .u8 (.lit 0), .int .u8 (.lit 0), .int .u8 (.lit 0), .int .u8 (.lit 0), .int .u8 (.lit 0), .int .u8 (.lit 0), .int .u8 (.lit 0), .int .u8 (.lit 0), .int .u8 (.lit 0), .int .u8 (.lit 0), .int .u8 (.lit 0), .int .u8 (.lit 0), .int .u8 (.lit 0), .int .u8 (.lit 0)], []⟩),
  (104, ⟨.struct [(0, 5), (1, 5)], 2, 2, [.int .u8 (.lit 0), .int .u8 (.lit 0)], []⟩),
  (105, ⟨.struct [(0, 5), (1, 5)], 2, 2, [.int .u8 (.lit 0), .int .u8 (.lit 0)], []⟩),
  (106, ⟨.array 16 105, 32, 32, [.int .u8 (.lit 0), .int .u8 (.lit 0), .int .u8 (.lit 0), .int .u8 (.lit 0), .int .u8 (.lit 0), .int .u8 (.lit 0), .int .u8 (.lit 0), .int .u8 (.lit 0), .int .u8 (.lit 0), .int .u8 (.lit 0), .int .u8 (.lit 0), .int .u8 (.lit 0), .int .u8 (.lit 0), .int .u8 (.lit 0), .int .u8 (.lit 0), .int .u8 (.lit 0), .int .u8 (.lit 0), .int .u8 (.lit 0), .int .u8 (.lit 0), .int .u8 (.lit 0), .int .u8 (.lit 0), .int .u8 (.lit 0), .int .u8 (.lit 0), .int .u8 (.lit 0), .int .u8 (.lit 0), .int .u8 (.lit 0), .int .u8 (.lit 0), .int .u8 (.lit 0), .int .u8 (.lit 0), .int .u8 (.lit 0), .int .u8 (.lit 0), .int .u8 (.lit 0)], []⟩),
  (107, ⟨.func, 1, 8, [.nilFunc], []⟩),
  (108, ⟨.func, 1, 8, [.nilFunc], []⟩),
  (109, ⟨.func, 1, 8, [.nilFunc], []⟩),
  (110, ⟨.array 256 4, 256, 256, [.bool false, .bool false, .bool false, .bool false, .bool false, .bool false, .bool false, .bool false, .bool false, .bool false, .bool false, .bool false, .bool false, .bool false, .bool false, .bool false, .bool false, .bool false, .bool false, .bool false, .bool false, .bool false, .bool false, .bool false, .bool false, .bool false, .bool false, .bool false, .bool false, .bool false, .bool false, .bool false, .bool false, .bool false, .bool false, .bool false, .bool false, .bool false, .bool false, .bool false, .bool false, .bool false, .bool false, .bool false, .bool false, .bool false, .bool false, .bool false, .bool false, .bool false, .bool false, .bool false, .bool false, .bool false, .bool false, .bool false, .bool false, .bool false, .bool false, .bool false, .bool false, .bool false, .bool false, .bool false, .bool false, .bool false, .bool false, .bool false, .bool false, .bool false, .bool false, .bool false, .bool false, .bool false, .bool false, .bool false, .bool false, .bool false, .bool false, .bool false, .bool false, .bool false, .bool false, .bool false, .bool false, .bool false, .bool false, .bool false, .bool false, .bool false, .bool false, .bool false, .bool false, .bool false, .bool false, .bool false, .bool false, .bool false, .bool false, .bool false, .bool false, .bool false, .bool false, .bool false, .bool false, .bool false, .bool false, .bool false, .bool false, .bool false, .bool false, .bool false, .bool false, .bool false, .bool false, .bool false, .bool false, .bool false, .bool false, .bool false, .bool false, .bool false, .bool false, .bool false, .bool false, .bool false, .bool false, .bool false, .bool false, .bool false, .bool false, .bool false, .bool false, .bool false, .bool false, .bool false, .bool false, .bool false, .bool false, .bool false, .bool false, .bool false, .bool false, .bool false, .bool false, .bool false, .bool false, .bool false, .bool false, .bool false, .bool false, .bool false, .bool false, .bool false, .bool false, .bool false, .bool false, .bool false, .bool false, .bool false, .bool false, .bool false, .bool false, .bool false, .bool false, .bool false, .bool false, .bool false, .bool false, .bool false, .bool false, .bool false, .bool false, .bool false, .bool false, .bool false, .bool false, .bool false, .bool false, .bool false, .bool false, .bool false, .bool false, .bool false, .bool false, .bool false, .bool false, .bool false, .bool false, .bool false, .bool false, .bool false, .bool false, .bool false, .bool false, .bool false, .bool false, .bool false, .bool false, .bool false, .bool false, .bool false, .bool false, .bool false, .bool false, .bool false, .bool false, .bool false, .bool false, .bool false, .bool false, .bool false, .bool false, .bool false, .bool false, .bool false, .bool false, .bool false, .bool false, .bool false, .bool false, .bool false, .bool false, .bool false, .bool false, .bool false, .bool false, .bool false, .bool false, .bool false, .bool false, .bool false, .bool false, .bool false, .bool false, .bool false, .bool false, .bool false, .bool false, .bool false, .bool false, .bool false, .bool false, .bool false, .bool false, .bool false, .bool false, .bool false, .bool false, .bool false, .bool false, .bool false, .bool false, .bool false, .bool false, .bool false], []⟩),
  (111, ⟨.array 256 4, 256, 256, [.bool false, .bool false, .bool false, .bool false, .bool false, .bool false, .bool false, .bool false, .bool false, .bool false, .bool false, .bool false, .bool false, .bool false, .bool false, .bool false, .bool false, .bool false, .bool false, .bool false, .bool false, .bool false, .bool false, .bool false, .bool false, .bool false, .bool false, .bool false, .bool false, .bool false, .bool false, .bool false, .bool false, .bool false, .bool false, .bool false, .bool false, .bool false, .bool false, .bool false, .bool false, .bool false, .bool false, .bool false, .bool false, .bool false, .bool false, .bool false, .bool false, .bool false, .bool false, .bool false, .bool false, .bool false, .bool false, .bool false, .bool false, .bool false, .bool false, .bool false, .bool false, .bool false, .bool false, .bool false, .bool false, .bool false, .bool false, .bool false, .bool false, .bool false, .bool false, .bool false, .bool false, .bool false, .bool false, .bool false, .bool false, .bool false, .bool false, .bool false, .bool false, .bool false, .bool false, .bool false, .bool false, .bool false, .bool false, .bool false, .bool false, .bool false, .bool false, .bool false, .bool false, .bool false, .bool false, .bool false, .bool false, .bool false, .bool false, .bool false, .bool false, .bool false, .bool false, .bool false, .bool false, .bool false, .bool false, .bool false, .bool false, .bool false, .bool false, .bool false, .bool false, .bool false, .bool false, .bool false, .bool false, .bool false, .bool false, .bool false, .bool false, .bool false, .bool false, .bool false, .bool false, .bool false, .bool false, .bool false, .bool false, .bool false, .bool false, .bool false, .bool false, .bool false, .bool false, .bool false, .bool false, .bool false, .bool false, .bool false, .bool false, .bool false, .bool false, .bool false, .bool false, .bool false, .bool false, .bool false, .bool false, .bool false, .bool false, .bool false, .bool false, .bool false, .bool false, .bool false, .bool false, .bool false, .bool false, .bool false, .bool false, .bool false, .bool false, .bool false, .bool false, .bool false, .bool false, .bool false, .bool false, .bool false, .bool false, .bool false, .bool false, .bool false, .bool false, .bool false, .bool false, .bool false, .bool false, .bool false, .bool false, .bool false, .bool false, .bool false, .bool false, .bool false, .bool false, .bool false, .bool false, .bool false, .bool false, .bool false, .bool false, .bool false, .bool false, .bool false, .bool false, .bool false, .bool false, .bool false, .bool false, .bool false, .bool false, .bool false, .bool false, .bool false, .bool false, .bool false, .bool false, .bool false, .bool false, .bool false, .bool false, .bool false, .bool false, .bool false, .bool false, .bool false, .bool false, .bool false, .bool false, .bool false, .bool false, .bool false, .bool false, .bool false, .bool false, .bool false, .bool false, .bool false, .bool false, .bool false, .bool false, .bool false, .bool false, .bool false, .bool false, .bool false, .bool false, .bool false, .bool false, .bool false, .bool false, .bool false, .bool false, .bool false, .bool false, .bool false, .bool false, .bool false, .bool false, .bool false, .bool false, .bool false, .bool false, .bool false], []⟩),
  (113, ⟨.func, 1, 8, [.nilFunc], []⟩),
  (114, ⟨.func, 1, 8, [.nilFunc], []⟩),
  (115, ⟨.ptr 111, 1, 8, [.nilptr], []⟩),
  (116, ⟨.struct [(0, 17), (1, 17), (2, 17), (3, 9)], 4, 40, [.nilptr, .nilptr, .nilptr, .str (.lit [])], []⟩),
  (117, ⟨.struct [(0, 17), (1, 17), (2, 17), (3, 9)], 4, 40, [.nilptr, .nilptr, .nilptr, .str (.lit [])], []⟩),
  (118, ⟨.array 0 16, 0, 0, [], []⟩),
  (119, ⟨.struct [(0, 118)], 0, 0, [], []⟩),
  (120, ⟨.struct [(0, 118)], 0, 0, [], []⟩),
  (121, ⟨.int .u8, 1, 1, [.int .u8 (.lit 0)], []⟩),
  (122, ⟨.int .u8, 1, 1, [.int .u8 (.lit 0)], []⟩),
  (123, ⟨.func, 1, 8, [.nilFunc], []⟩),
  (124, ⟨.int .i32, 1, 4, [.int .i32 (.lit 0)], []⟩),
  (125, ⟨.int .i32, 1, 4, [.int .i32 (.lit 0)], []⟩),
  (126, ⟨.struct [(0, 12), (1, 12), (2, 85), (3, 121), (4, 5), (5, 5), (6, 122), (7, 123), (8, 91), (9, 124), (10, 125)], 11, 48, [.int .u64 (.lit 0), .int .u64 (.lit 0), .int .u32 (.lit 0), .int .u8 (.lit 0), .int .u8 (.lit 0), .int .u8 (.lit 0), .int .u8 (.lit 0), .nilFunc, .nilptr, .int .i32 (.lit 0), .int .i32 (.lit 0)], []⟩),
  (127, ⟨.struct [(0, 12), (1, 12), (2, 85), (3, 121), (4, 5), (5, 5), (6, 122), (7, 123), (8, 91), (9, 124), (10, 125)], 11, 48, [.int .u64 (.lit 0), .int .u64 (.lit 0), .int .u32 (.lit 0), .int .u8 (.lit 0), .int .u8 (.lit 0), .int .u8 (.lit 0), .int .u8 (.lit 0), .nilFunc, .nilptr, .int .i32 (.lit 0), .int .i32 (.lit 0)], []⟩)]

theorem tyList_ok : ∀ p ∈ tyList, TIok Tryd.prog p.1 p.2 :=
  (tys_cons (.of (i := Tryd.t1) (by kernel_rfl) Tryd.underlying1 rfl rfl rfl ⟨_, _, _, rfl⟩ (fun _ e => by cases e) rfl rfl (fun h => absurd rfl h)) 
  (tys_cons (.of (i := Tryd.t2) (by kernel_rfl) Tryd.underlying2 rfl rfl rfl rfl (fun _ e => by cases e) rfl rfl (fun h => absurd rfl h)) 
  (tys_cons (.of (i := Tryd.t3) (by kernel_rfl) Tryd.underlying3 rfl rfl rfl rfl (fun _ e => by cases e) rfl rfl (fun h => absurd rfl h)) 
  (tys_cons (.of (i := Tryd.t4) (by kernel_rfl) Tryd.underlying4 rfl rfl rfl rfl (fun _ e => by cases e) rfl rfl (fun h => absurd rfl h)) 
  (tys_cons (.of (i := Tryd.t5) (by kernel_rfl) Tryd.underlying5 rfl rfl rfl rfl (fun _ e => by cases e) rfl rfl (fun h => absurd rfl h)) 
  (tys_cons (.of (i := Tryd.t6) (by kernel_rfl) Tryd.underlying6 rfl rfl rfl rfl (fun _ e => by cases e) rfl rfl (fun h => absurd rfl h)) 
  (tys_cons (.of (i := Tryd.t7) (by kernel_rfl) Tryd.underlying7 rfl rfl rfl ⟨_, rfl, rfl⟩ (fun _ e => by cases e) rfl rfl (fun h => absurd rfl h)) 
  (tys_cons (.of (i := Tryd.t8) (by kernel_rfl) Tryd.underlying8 rfl rfl rfl ⟨_, rfl, rfl⟩ (fun _ e => by cases e) rfl rfl (fun h => absurd rfl h)) 
  (tys_cons (.of (i := Tryd.t9) (by kernel_rfl) Tryd.underlying9 rfl rfl rfl rfl (fun _ e => by cases e) rfl rfl (fun h => absurd rfl h)) 
  (tys_cons (.of (i := Tryd.t10) (by kernel_rfl) Tryd.underlying10 rfl rfl rfl rfl (fun _ e => by cases e) rfl rfl (fun h => absurd rfl h)) 
  (tys_cons (.of (i := Tryd.t11) (by kernel_rfl) Tryd.underlying11 rfl rfl rfl rfl (fun _ e => by cases e) rfl rfl (fun h => absurd rfl h)) 
  (tys_cons (.of (i := Tryd.t12) (by kernel_rfl) Tryd.underlying12 rfl rfl rfl rfl (fun _ e => by cases e) rfl rfl (fun h => absurd rfl h)) 
  (tys_cons (.of (i := Tryd.t13) (by kernel_rfl) Tryd.underlying13 rfl rfl rfl ⟨_, rfl, rfl⟩ (fun _ e => by cases e) rfl rfl (fun h => absurd rfl h)) 
  (tys_cons (.of (i := Tryd.t14) (by kernel_rfl) Tryd.underlying14 rfl rfl rfl ⟨_, rfl, rfl⟩ (fun _ e => by cases e) rfl rfl (fun h => absurd rfl h)) 
  (tys_cons (.of (i := Tryd.t15) (by kernel_rfl) Tryd.underlying15 rfl rfl rfl rfl (fun _ e => by cases e) rfl rfl (fun h => absurd rfl h)) 
  (tys_cons (.of (i := Tryd.t16) (by kernel_rfl) Tryd.underlying16 rfl rfl rfl rfl (fun _ e => by cases e) rfl rfl (fun h => absurd rfl h)) 
  (tys_cons (.of (i := Tryd.t17) (by kernel_rfl) Tryd.underlying17 rfl rfl rfl rfl (fun _ e => by cases e) rfl rfl (fun h => absurd rfl h)) 
  (tys_cons (.of (i := Tryd.t18) (by kernel_rfl) Tryd.underlying18 rfl rfl rfl ⟨_, rfl, rfl⟩ (fun _ e => by cases e) rfl rfl (fun h => absurd rfl h)) 
  (tys_cons (.of (i := Tryd.t19) (by kernel_rfl) Tryd.underlying19 rfl rfl rfl ⟨_, rfl, rfl⟩ (fun _ e => by cases e) rfl rfl (fun h => absurd rfl h)) 
  (tys_cons (.of (i := Tryd.t20) (by kernel_rfl) Tryd.underlying20 rfl rfl rfl ⟨_, rfl⟩ (fun _ _ => rfl) rfl rfl (fun h => absurd rfl h)) 
  (tys_cons (.of (i := Tryd.t21) (by kernel_rfl) Tryd.underlying21 rfl rfl rfl rfl (fun _ e => by cases e) rfl rfl (fun h => absurd rfl h)) 
  (tys_cons (.of (i := Tryd.t22) (by kernel_rfl) Tryd.underlying22 rfl rfl rfl ⟨_, _, _, rfl⟩ (fun _ e => by cases e) rfl rfl (fun h => absurd rfl h)) 
  (tys_cons (.of (i := Tryd.t23) (by kernel_rfl) Tryd.underlying23 rfl rfl rfl ⟨_, _, _, rfl⟩ (fun _ e => by cases e) rfl rfl (fun h => absurd rfl h)) 
  (tys_cons (.of (i := Tryd.t24) (by kernel_rfl) Tryd.underlying24 rfl rfl rfl rfl (fun _ e => by cases e) rfl rfl (fun h => absurd rfl h)) 
  (tys_cons (.of (i := Tryd.t25) (by kernel_rfl) Tryd.underlying25 rfl rfl rfl ⟨_, _, _, rfl⟩ (fun _ e => by cases e) rfl rfl (fun h => absurd rfl h)) 
  (tys_cons (.of (i := Tryd.t26) (by kernel_rfl) Tryd.underlying26 rfl rfl rfl rfl (fun _ e => by cases e) rfl rfl (fun h => absurd rfl h)) 
  (tys_cons (.of (i := Tryd.t27) (by kernel_rfl) Tryd.underlying27 rfl rfl rfl ⟨_, _, _, rfl⟩ (fun _ e => by cases e) rfl rfl (fun h => absurd rfl h)) 
  (tys_cons (.of (i := Tryd.t28) (by kernel_rfl) Tryd.underlying28 rfl rfl rfl ⟨_, _, _, rfl⟩ (fun _ e => by cases e) rfl rfl (fun h => absurd rfl h)) 
  (tys_cons (.of (i := Tryd.t29) (by kernel_rfl) Tryd.underlying29 rfl rfl rfl ⟨_, _, _, rfl⟩ (fun _ e => by cases e) rfl rfl (fun h => absurd rfl h)) 
  (tys_cons (.of (i := Tryd.t30) (by kernel_rfl) Tryd.underlying30 rfl rfl rfl rfl (fun _ e => by cases e) rfl rfl (fun h => absurd rfl h)) 
  (tys_cons (.of (i := Tryd.t32) (by kernel_rfl) Tryd.underlying32 rfl rfl rfl ⟨_, _, _, rfl⟩ (fun _ e => by cases e) rfl rfl (fun h => absurd rfl h)) 
  (tys_cons (.of (i := Tryd.t33) (by kernel_rfl) Tryd.underlying33 rfl rfl rfl ⟨_, _, _, rfl⟩ (fun _ e => by cases e) rfl rfl (fun h => absurd rfl h)) 
  (tys_cons (.of (i := Tryd.t34) (by kernel_rfl) Tryd.underlying34 rfl rfl rfl ⟨_, _, _, rfl⟩ (fun _ e => by cases e) rfl rfl (fun h => absurd rfl h)) 
  (tys_cons (.of (i := Tryd.t35) (by kernel_rfl) Tryd.underlying35 rfl rfl rfl ⟨_, _, _, rfl⟩ (fun _ e => by cases e) rfl rfl (fun h => absurd rfl h)) 
  (tys_cons (.of (i := Tryd.t36) (by kernel_rfl) Tryd.underlying36 rfl rfl rfl ⟨_, rfl, rfl⟩ (fun _ e => by cases e) rfl rfl (fun h => absurd rfl h)) 
  (tys_cons (.of (i := Tryd.t37) (by kernel_rfl) Tryd.underlying37 rfl rfl rfl ⟨_, rfl, rfl⟩ (fun _ e => by cases e) rfl rfl (fun _ => ⟨⟨2, by decide, (.struct (by decide) Tryd.underlying37 (by kernel_rfl) (.cons' [.string] [.string] (by kernel_rfl) rfl (.string Tryd.underlying9 Tryd.isAgg9) (.cons' [.string] [] (by kernel_rfl) rfl (.string Tryd.underlying9 Tryd.isAgg9) .nil rfl) rfl))⟩, by kernel_rfl⟩)) 
  (tys_cons (.of (i := Tryd.t38) (by kernel_rfl) Tryd.underlying38 rfl rfl rfl rfl (fun _ e => by cases e) rfl rfl (fun h => absurd rfl h)) 
  (tys_cons (.of (i := Tryd.t40) (by kernel_rfl) Tryd.underlying40 rfl rfl rfl ⟨_, _, _, rfl⟩ (fun _ e => by cases e) rfl rfl (fun h => absurd rfl h)) 
  (tys_cons (.of (i := Tryd.t42) (by kernel_rfl) Tryd.underlying42 rfl rfl rfl ⟨_, _, _, rfl⟩ (fun _ e => by cases e) rfl rfl (fun h => absurd rfl h)) 
  (tys_cons (.of (i := Tryd.t43) (by kernel_rfl) Tryd.underlying43 rfl rfl rfl ⟨_, _, _, rfl⟩ (fun _ e => by cases e) rfl rfl (fun h => absurd rfl h)) 
  (tys_cons (.of (i := Tryd.t44) (by kernel_rfl) Tryd.underlying44 rfl rfl rfl ⟨_, _, _, rfl⟩ (fun _ e => by cases e) rfl rfl (fun h => absurd rfl h)) 
  (tys_cons (.of (i := Tryd.t45) (by kernel_rfl) Tryd.underlying45 rfl rfl rfl ⟨_, _, _, rfl⟩ (fun _ e => by cases e) rfl rfl (fun h => absurd rfl h)) 
  (tys_cons (.of (i := Tryd.t46) (by kernel_rfl) Tryd.underlying46 rfl rfl rfl ⟨_, _, _, rfl⟩ (fun _ e => by cases e) rfl rfl (fun h => absurd rfl h)) 
  (tys_cons (.of (i := Tryd.t48) (by kernel_rfl) Tryd.underlying48 rfl rfl rfl ⟨_, _, _, rfl⟩ (fun _ e => by cases e) rfl rfl (fun h => absurd rfl h)) 
  (tys_cons (.of (i := Tryd.t49) (by kernel_rfl) Tryd.underlying49 rfl rfl rfl ⟨_, _, _, rfl⟩ (fun _ e => by cases e) rfl rfl (fun h => absurd rfl h)) 
  (tys_cons (.of (i := Tryd.t50) (by kernel_rfl) Tryd.underlying50 rfl rfl rfl ⟨_, _, _, rfl⟩ (fun _ e => by cases e) rfl rfl (fun h => absurd rfl h)) 
  (tys_cons (.of (i := Tryd.t51) (by kernel_rfl) Tryd.underlying51 rfl rfl rfl ⟨_, _, _, rfl⟩ (fun _ e => by cases e) rfl rfl (fun h => absurd rfl h)) 
  (tys_cons (.of (i := Tryd.t52) (by kernel_rfl) Tryd.underlying52 rfl rfl rfl ⟨_, _, _, rfl⟩ (fun _ e => by cases e) rfl rfl (fun h => absurd rfl h)) 
  (tys_cons (.of (i := Tryd.t53) (by kernel_rfl) Tryd.underlying53 rfl rfl rfl ⟨_, _, _, rfl⟩ (fun _ e => by cases e) rfl rfl (fun h => absurd rfl h)) 
  (tys_cons (.of (i := Tryd.t54) (by kernel_rfl) Tryd.underlying54 rfl rfl rfl ⟨_, _, _, rfl⟩ (fun _ e => by cases e) rfl rfl (fun h => absurd rfl h)) 
  (tys_cons (.of (i := Tryd.t55) (by kernel_rfl) Tryd.underlying55 rfl rfl rfl ⟨_, _, _, rfl⟩ (fun _ e => by cases e) rfl rfl (fun h => absurd rfl h)) 
  (tys_cons (.of (i := Tryd.t56) (by kernel_rfl) Tryd.underlying56 rfl rfl rfl ⟨_, _, _, rfl⟩ (fun _ e => by cases e) rfl rfl (fun h => absurd rfl h)) 
  (tys_cons (.of (i := Tryd.t57) (by kernel_rfl) Tryd.underlying57 rfl rfl rfl ⟨_, _, _, rfl⟩ (fun _ e => by cases e) rfl rfl (fun h => absurd rfl h)) 
  (tys_cons (.of (i := Tryd.t58) (by kernel_rfl) Tryd.underlying58 rfl rfl rfl ⟨_, _, _, rfl⟩ (fun _ e => by cases e) rfl rfl (fun h => absurd rfl h)) 
  (tys_cons (.of (i := Tryd.t59) (by kernel_rfl) Tryd.underlying59 rfl rfl rfl ⟨_, _, _, rfl⟩ (fun _ e => by cases e) rfl rfl (fun h => absurd rfl h)) 
  (tys_cons (.of (i := Tryd.t60) (by kernel_rfl) Tryd.underlying60 rfl rfl rfl ⟨_, _, _, rfl⟩ (fun _ e => by cases e) rfl rfl (fun h => absurd rfl h)) 
  (tys_cons (.of (i := Tryd.t61) (by kernel_rfl) Tryd.underlying61 rfl rfl rfl ⟨_, _, _, rfl⟩ (fun _ e => by cases e) rfl rfl (fun h => absurd rfl h)) 
  (tys_cons (.of (i := Tryd.t62) (by kernel_rfl) Tryd.underlying62 rfl rfl rfl rfl (fun _ e => by cases e) rfl rfl (fun h => absurd rfl h)) 
  (tys_cons (.of (i := Tryd.t64) (by kernel_rfl) Tryd.underlying64 rfl rfl rfl ⟨_, _, _, rfl⟩ (fun _ e => by cases e) rfl rfl (fun h => absurd rfl h)) 
  (tys_cons (.of (i := Tryd.t65) (by kernel_rfl) Tryd.underlying65 rfl rfl rfl rfl (fun _ e => by cases e) rfl rfl (fun h => absurd rfl h)) 
  (tys_cons (.of (i := Tryd.t66) (by kernel_rfl) Tryd.underlying66 rfl rfl rfl ⟨_, rfl, rfl⟩ (fun _ e => by cases e) rfl rfl (fun h => absurd rfl h)) 
  (tys_cons (.of (i := Tryd.t67) (by kernel_rfl) Tryd.underlying67 rfl rfl rfl ⟨_, rfl, rfl⟩ (fun _ e => by cases e) rfl rfl (fun h => absurd rfl h)) 
  (tys_cons (.of (i := Tryd.t68) (by kernel_rfl) Tryd.underlying68 rfl rfl rfl ⟨_, _, _, rfl⟩ (fun _ e => by cases e) rfl rfl (fun h => absurd rfl h)) 
  (tys_cons (.of (i := Tryd.t69) (by kernel_rfl) Tryd.underlying69 rfl rfl rfl ⟨_, rfl⟩ (fun _ _ => rfl) rfl rfl (fun h => absurd rfl h)) 
  (tys_cons (.of (i := Tryd.t70) (by kernel_rfl) Tryd.underlying70 rfl rfl rfl ⟨_, rfl⟩ (fun _ _ => rfl) rfl rfl (fun h => absurd rfl h)) 
  (tys_cons (.of (i := Tryd.t72) (by kernel_rfl) Tryd.underlying72 rfl rfl rfl ⟨_, _, _, rfl⟩ (fun _ e => by cases e) rfl rfl (fun h => absurd rfl h)) 
  (tys_cons (.of (i := Tryd.t73) (by kernel_rfl) Tryd.underlying73 rfl rfl rfl ⟨_, _, _, rfl⟩ (fun _ e => by cases e) rfl rfl (fun h => absurd rfl h)) 
  (tys_cons (.of (i := Tryd.t74) (by kernel_rfl) Tryd.underlying74 rfl rfl rfl ⟨_, _, _, rfl⟩ (fun _ e => by cases e) rfl rfl (fun h => absurd rfl h)) 
  (tys_cons (.of (i := Tryd.t75) (by kernel_rfl) Tryd.underlying75 rfl rfl rfl ⟨_, rfl, rfl⟩ (fun _ e => by cases e) rfl rfl (fun h => absurd rfl h)) 
  (tys_cons (.of (i := Tryd.t76) (by kernel_rfl) Tryd.underlying76 rfl rfl rfl rfl (fun _ e => by cases e) rfl rfl (fun h => absurd rfl h)) 
  (tys_cons (.of (i := Tryd.t77) (by kernel_rfl) Tryd.underlying77 rfl rfl rfl ⟨_, rfl, rfl⟩ (fun _ e => by cases e) rfl rfl (fun h => absurd rfl h)) 
  (tys_cons (.of (i := Tryd.t78) (by kernel_rfl) Tryd.underlying78 rfl rfl rfl rfl (fun _ e => by cases e) rfl rfl (fun h => absurd rfl h)) 
  (tys_cons (.of (i := Tryd.t79) (by kernel_rfl) Tryd.underlying79 rfl rfl rfl ⟨_, _, _, rfl⟩ (fun _ e => by cases e) rfl rfl (fun h => absurd rfl h)) 
  (tys_cons (.of (i := Tryd.t80) (by kernel_rfl) Tryd.underlying80 rfl rfl rfl ⟨_, _, _, rfl⟩ (fun _ e => by cases e) rfl rfl (fun h => absurd rfl h)) 
  (tys_cons (.of (i := Tryd.t81) (by kernel_rfl) Tryd.underlying81 rfl rfl rfl ⟨_, _, _, rfl⟩ (fun _ e => by cases e) rfl rfl (fun h => absurd rfl h)) 
  (tys_cons (.of (i := Tryd.t82) (by kernel_rfl) Tryd.underlying82 rfl rfl rfl rfl (fun _ e => by cases e) rfl rfl (fun h => absurd rfl h)) 
  (tys_cons (.of (i := Tryd.t83) (by kernel_rfl) Tryd.underlying83 rfl rfl rfl ⟨_, _, _, rfl⟩ (fun _ e => by cases e) rfl rfl (fun h => absurd rfl h)) 
  (tys_cons (.of (i := Tryd.t84) (by kernel_rfl) Tryd.underlying84 rfl rfl rfl ⟨_, _, _, rfl⟩ (fun _ e => by cases e) rfl rfl (fun h => absurd rfl h)) 
  (tys_cons (.of (i := Tryd.t85) (by kernel_rfl) Tryd.underlying85 rfl rfl rfl rfl (fun _ e => by cases e) rfl rfl (fun h => absurd rfl h)) 
  (tys_cons (.of (i := Tryd.t87) (by kernel_rfl) Tryd.underlying87 rfl rfl rfl ⟨_, _, _, rfl⟩ (fun _ e => by cases e) rfl rfl (fun h => absurd rfl h)) 
  (tys_cons (.of (i := Tryd.t88) (by kernel_rfl) Tryd.underlying88 rfl rfl rfl rfl (fun _ e => by cases e) rfl rfl (fun h => absurd rfl h)) 
  (tys_cons (.of (i := Tryd.t90) (by kernel_rfl) Tryd.underlying90 rfl rfl rfl ⟨_, _, _, rfl⟩ (fun _ e => by cases e) rfl rfl (fun h => absurd rfl h)) 
  (tys_cons (.of (i := Tryd.t91) (by kernel_rfl) Tryd.underlying91 rfl rfl rfl rfl (fun _ e => by cases e) rfl rfl (fun h => absurd rfl h)) 
  (tys_cons (.of (i := Tryd.t92) (by kernel_rfl) Tryd.underlying92 rfl rfl rfl ⟨_, _, _, rfl⟩ (fun _ e => by cases e) rfl rfl (fun h => absurd rfl h)) 
  (tys_cons (.of (i := Tryd.t94) (by kernel_rfl) Tryd.underlying94 rfl rfl rfl ⟨_, _, _, rfl⟩ (fun _ e => by cases e) rfl rfl (fun h => absurd rfl h)) 
  (tys_cons (.of (i := Tryd.t95) (by kernel_rfl) Tryd.underlying95 rfl rfl rfl ⟨_, _, _, rfl⟩ (fun _ e => by cases e) rfl rfl (fun h => absurd rfl h)) 
  (tys_cons (.of (i := Tryd.t96) (by kernel_rfl) Tryd.underlying96 rfl rfl rfl ⟨_, _, _, rfl⟩ (fun _ e => by cases e) rfl rfl (fun h => absurd rfl h)) 
  (tys_cons (.of (i := Tryd.t98) (by kernel_rfl) Tryd.underlying98 rfl rfl rfl ⟨_, _, _, rfl⟩ (fun _ e => by cases e) rfl rfl (fun h => absurd rfl h)) 
  (tys_cons (.of (i := Tryd.t99) (by kernel_rfl) Tryd.underlying99 rfl rfl rfl ⟨_, _, _, rfl⟩ (fun _ e => by cases e) rfl rfl (fun h => absurd rfl h)) 
  (tys_cons (.of (i := Tryd.t100) (by kernel_rfl) Tryd.underlying100 rfl rfl rfl ⟨_, _, _, rfl⟩ (fun _ e => by cases e) rfl rfl (fun h => absurd rfl h)) 
  (tys_cons (.of (i := Tryd.t101) (by kernel_rfl) Tryd.underlying101 rfl rfl rfl ⟨_, _, _, rfl⟩ (fun _ e => by cases e) rfl rfl (fun h => absurd rfl h)) 
  (tys_cons (.of (i := Tryd.t102) (by kernel_rfl) Tryd.underlying102 rfl rfl rfl ⟨_, _, _, rfl⟩ (fun _ e => by cases e) rfl rfl (fun h => absurd rfl h)) 
  (tys_cons (.of (i := Tryd.t103) (by kernel_rfl) Tryd.underlying103 rfl rfl rfl rfl (fun _ e => by cases e) rfl rfl (fun h => absurd rfl h)) 
  (tys_cons (.of (i := Tryd.t104) (by kernel_rfl) Tryd.underlying104 rfl rfl rfl ⟨_, rfl, rfl⟩ (fun _ e => by cases e) rfl rfl (fun h => absurd rfl h)) 
  (tys_cons (.of (i := Tryd.t105) (by kernel_rfl) Tryd.underlying105 rfl rfl rfl ⟨_, rfl, rfl⟩ (fun _ e => by cases e) rfl rfl (fun h => absurd rfl h)) 
  (tys_cons (.of (i := Tryd.t106) (by kernel_rfl) Tryd.underlying106 rfl rfl rfl rfl (fun _ e => by cases e) rfl rfl (fun h => absurd rfl h)) 
  (tys_cons (.of (i := Tryd.t107) (by kernel_rfl) Tryd.underlying107 rfl rfl rfl ⟨_, _, _, rfl⟩ (fun _ e => by cases e) rfl rfl (fun h => absurd rfl h)) 
  (tys_cons (.of (i := Tryd.t108) (by kernel_rfl) Tryd.underlying108 rfl rfl rfl ⟨_, _, _, rfl⟩ (fun _ e => by cases e) rfl rfl (fun h => absurd rfl h)) 
  (tys_cons (.of (i := Tryd.t109) (by kernel_rfl) Tryd.underlying109 rfl rfl rfl ⟨_, _, _, rfl⟩ (fun _ e => by cases e) rfl rfl (fun h => absurd rfl h)) 
  (tys_cons (.of (i := Tryd.t110) (by kernel_rfl) Tryd.underlying110 rfl rfl rfl rfl (fun _ e => by cases e) rfl rfl (fun h => absurd rfl h)) 
  (tys_cons (.of (i := Tryd.t111) (by kernel_rfl) Tryd.underlying111 rfl rfl rfl rfl (fun _ e => by cases e) rfl rfl (fun h => absurd rfl h)) 
  (tys_cons (.of (i := Tryd.t113) (by kernel_rfl) Tryd.underlying113 rfl rfl rfl ⟨_, _, _, rfl⟩ (fun _ e => by cases e) rfl rfl (fun h => absurd rfl h)) 
  (tys_cons (.of (i := Tryd.t114) (by kernel_rfl) Tryd.underlying114 rfl rfl rfl ⟨_, _, _, rfl⟩ (fun _ e => by cases e) rfl rfl (fun h => absurd rfl h)) 
  (tys_cons (.of (i := Tryd.t115) (by kernel_rfl) Tryd.underlying115 rfl rfl rfl rfl (fun _ e => by cases e) rfl rfl (fun h => absurd rfl h)) 
  (tys_cons (.of (i := Tryd.t116) (by kernel_rfl) Tryd.underlying116 rfl rfl rfl ⟨_, rfl, rfl⟩ (fun _ e => by cases e) rfl rfl (fun h => absurd rfl h)) 
  (tys_cons (.of (i := Tryd.t117) (by kernel_rfl) Tryd.underlying117 rfl rfl rfl ⟨_, rfl, rfl⟩ (fun _ e => by cases e) rfl rfl (fun h => absurd rfl h)) 
  (tys_cons (.of (i := Tryd.t118) (by kernel_rfl) Tryd.underlying118 rfl rfl rfl rfl (fun _ e => by cases e) rfl rfl (fun h => absurd rfl h)) 
  (tys_cons (.of (i := Tryd.t119) (by kernel_rfl) Tryd.underlying119 rfl rfl rfl ⟨_, rfl, rfl⟩ (fun _ e => by cases e) rfl rfl (fun h => absurd rfl h)) 
  (tys_cons (.of (i := Tryd.t120) (by kernel_rfl) Tryd.underlying120 rfl rfl rfl ⟨_, rfl, rfl⟩ (fun _ e => by cases e) rfl rfl (fun h => absurd rfl h)) 
  (tys_cons (.of (i := Tryd.t121) (by kernel_rfl) Tryd.underlying121 rfl rfl rfl rfl (fun _ e => by cases e) rfl rfl (fun h => absurd rfl h)) 
  (tys_cons (.of (i := Tryd.t122) (by kernel_rfl) Tryd.underlying122 rfl rfl rfl rfl (fun _ e => by cases e) rfl rfl (fun h => absurd rfl h)) 
  (tys_cons (.of (i := Tryd.t123) (by kernel_rfl) Tryd.underlying123 rfl rfl rfl ⟨_, _, _, rfl⟩ (fun _ e => by cases e) rfl rfl (fun h => absurd rfl h)) 
  (tys_cons (.of (i := Tryd.t124) (by kernel_rfl) Tryd.underlying124 rfl rfl rfl rfl (fun _ e => by cases e) rfl rfl (fun h => absurd rfl h)) 
  (tys_cons (.of (i := Tryd.t125) (by kernel_rfl) Tryd.underlying125 rfl rfl rfl rfl (fun _ e => by cases e) rfl rfl (fun h => absurd rfl h)) 
  (tys_cons (.of (i := Tryd.t126) (by kernel_rfl) Tryd.underlying126 rfl rfl rfl ⟨_, rfl, rfl⟩ (fun _ e => by cases e) rfl rfl (fun h => absurd rfl h)) 
  (tys_cons (.of (i := Tryd.t127) (by kernel_rfl) Tryd.underlying127 rfl rfl rfl ⟨_, rfl, rfl⟩ (fun _ e => by cases e) rfl rfl (fun h => absurd rfl h)) tys_nil))))))))))))))))))))))))))))))))))))))))))))))))))))))))))))))))))))))))))))))))))))))))))))))))))))))))))))))))))))

/-- The program, behind a name. -/
class IsProg (P : Program) : Prop where
  eq : P = Tryd.prog
instance : IsProg Tryd.prog := ⟨rfl⟩
variable {P : Program} [IsProg P]
def tau : Tys := Ax.look tyList
theorem tau_ok0 : ∀ t ti, tau t = some ti → TIok Tryd.prog t ti := tys_ok tyList_ok
theorem tau_ok : ∀ t ti, tau t = some ti → TIok P t ti := by
  have h := IsProg.eq (P := P)
  subst h
  exact tau_ok0
theorem mix0 : Tryd.prog.follows .mixedOrders = true := by kernel_rfl
theorem mix : P.follows .mixedOrders = true := by
  have h := IsProg.eq (P := P)
  subst h
  exact mix0

variable {gl : Nat → Option (List AV)}

/- analemma/analemmalaw07.NameStrings -/
noncomputable def code3 : Code := Tryd.f3.body.getD .skip
theorem inl3 {J : Jd} {args : List AV} {H : Heap} {n : Nat} {R : AV → Heap → Nat → Prop} (hargs : args.length ≤ 36) (h : T.prop P gl n (resQ R) (bodyT tau gl J code3 36 [.tmp 2] args H n)) : CallA P gl 3 args H n R :=
  CallA.inlineE IsProg.eq tau_ok0 mix0 Tryd.func3 (by kernel_rfl) (by kernel_rfl) (by kernel_rfl) (by kernel_rfl) hargs h

/- analemma/analemmalaw07.NameParts -/
noncomputable def code4 : Code := Tryd.f4.body.getD .skip
theorem inl4 {J : Jd} {args : List AV} {H : Heap} {n : Nat} {R : AV → Heap → Nat → Prop} (hargs : args.length ≤ 107) (h : T.prop P gl n (resQ R) (bodyT tau gl J code4 107 [.tmp 6] args H n)) : CallA P gl 4 args H n R :=
  CallA.inlineE IsProg.eq tau_ok0 mix0 Tryd.func4 (by kernel_rfl) (by kernel_rfl) (by kernel_rfl) (by kernel_rfl) hargs h

/- analemma/analemmalaw07.NameBytes -/
noncomputable def code5 : Code := Tryd.f5.body.getD .skip
theorem inl5 {J : Jd} {args : List AV} {H : Heap} {n : Nat} {R : AV → Heap → Nat → Prop} (hargs : args.length ≤ 168) (h : T.prop P gl n (resQ R) (bodyT tau gl J code5 168 [.tmp 8] args H n)) : CallA P gl 5 args H n R :=
  CallA.inlineE IsProg.eq tau_ok0 mix0 Tryd.func5 (by kernel_rfl) (by kernel_rfl) (by kernel_rfl) (by kernel_rfl) hargs h

/- analemma/analemmalaw07.NameAmong -/
noncomputable def code6 : Code := Tryd.f6.body.getD .skip
theorem inl6 {J : Jd} {args : List AV} {H : Heap} {n : Nat} {R : AV → Heap → Nat → Prop} (hargs : args.length ≤ 86) (h : T.prop P gl n (resQ R) (bodyT tau gl J code6 86 [.tmp 4] args H n)) : CallA P gl 6 args H n R :=
  CallA.inlineE IsProg.eq tau_ok0 mix0 Tryd.func6 (by kernel_rfl) (by kernel_rfl) (by kernel_rfl) (by kernel_rfl) hargs h

/- analemma/analemmalaw12.LinklineReads -/
noncomputable def code7 : Code := Tryd.f7.body.getD .skip
theorem inl7 {J : Jd} {args : List AV} {H : Heap} {n : Nat} {R : AV → Heap → Nat → Prop} (hargs : args.length ≤ 56) (h : T.prop P gl n (resQ R) (bodyT tau gl J code7 56 [.tmp 2] args H n)) : CallA P gl 7 args H n R :=
  CallA.inlineE IsProg.eq tau_ok0 mix0 Tryd.func7 (by kernel_rfl) (by kernel_rfl) (by kernel_rfl) (by kernel_rfl) hargs h

/- analemma/analemmalaw12.LinklinePrints -/
noncomputable def code8 : Code := Tryd.f8.body.getD .skip
theorem inl8 {J : Jd} {args : List AV} {H : Heap} {n : Nat} {R : AV → Heap → Nat → Prop} (hargs : args.length ≤ 63) (h : T.prop P gl n (resQ R) (bodyT tau gl J code8 63 [.tmp 4] args H n)) : CallA P gl 8 args H n R :=
  CallA.inlineE IsProg.eq tau_ok0 mix0 Tryd.func8 (by kernel_rfl) (by kernel_rfl) (by kernel_rfl) (by kernel_rfl) hargs h

/- analemma/analemmalaw12.LinklineBack -/
noncomputable def code9 : Code := Tryd.f9.body.getD .skip
theorem inl9 {J : Jd} {args : List AV} {H : Heap} {n : Nat} {R : AV → Heap → Nat → Prop} (hargs : args.length ≤ 129) (h : T.prop P gl n (resQ R) (bodyT tau gl J code9 129 [.tmp 6] args H n)) : CallA P gl 9 args H n R :=
  CallA.inlineE IsProg.eq tau_ok0 mix0 Tryd.func9 (by kernel_rfl) (by kernel_rfl) (by kernel_rfl) (by kernel_rfl) hargs h

/- analemma/analemmalaw12.LinklineNames -/
noncomputable def code10 : Code := Tryd.f10.body.getD .skip
theorem inl10 {J : Jd} {args : List AV} {H : Heap} {n : Nat} {R : AV → Heap → Nat → Prop} (hargs : args.length ≤ 133) (h : T.prop P gl n (resQ R) (bodyT tau gl J code10 133 [.tmp 4] args H n)) : CallA P gl 10 args H n R :=
  CallA.inlineE IsProg.eq tau_ok0 mix0 Tryd.func10 (by kernel_rfl) (by kernel_rfl) (by kernel_rfl) (by kernel_rfl) hargs h

/- analemma/analemmalaw12.LinklineNumbers -/
noncomputable def code11 : Code := Tryd.f11.body.getD .skip
theorem inl11 {J : Jd} {args : List AV} {H : Heap} {n : Nat} {R : AV → Heap → Nat → Prop} (hargs : args.length ≤ 53) (h : T.prop P gl n (resQ R) (bodyT tau gl J code11 53 [.tmp 2] args H n)) : CallA P gl 11 args H n R :=
  CallA.inlineE IsProg.eq tau_ok0 mix0 Tryd.func11 (by kernel_rfl) (by kernel_rfl) (by kernel_rfl) (by kernel_rfl) hargs h

/- analemma/analemmalaw07.works -/
noncomputable def code12 : Code := Tryd.f12.body.getD .skip
theorem inl12 {J : Jd} {args : List AV} {H : Heap} {n : Nat} {R : AV → Heap → Nat → Prop} (hargs : args.length ≤ 31) (h : T.prop P gl n (resQ R) (bodyT tau gl J code12 31 [.tmp 0] args H n)) : CallA P gl 12 args H n R :=
  CallA.inlineE IsProg.eq tau_ok0 mix0 Tryd.func12 (by kernel_rfl) (by kernel_rfl) (by kernel_rfl) (by kernel_rfl) hargs h

/- analemma/name.Zone -/
noncomputable def code13 : Code := Tryd.f13.body.getD .skip
theorem inl13 {J : Jd} {args : List AV} {H : Heap} {n : Nat} {R : AV → Heap → Nat → Prop} (hargs : args.length ≤ 15) (h : T.prop P gl n (resQ R) (bodyT tau gl J code13 15 [.cell 2 4] args H n)) : CallA P gl 13 args H n R :=
  CallA.inlineE IsProg.eq tau_ok0 mix0 Tryd.func13 (by kernel_rfl) (by kernel_rfl) (by kernel_rfl) (by kernel_rfl) hargs h

/- analemma/analemmaref07.Zone -/
noncomputable def code14 : Code := Tryd.f14.body.getD .skip
theorem inl14 {J : Jd} {args : List AV} {H : Heap} {n : Nat} {R : AV → Heap → Nat → Prop} (hargs : args.length ≤ 32) (h : T.prop P gl n (resQ R) (bodyT tau gl J code14 32 [.tmp 2] args H n)) : CallA P gl 14 args H n R :=
  CallA.inlineE IsProg.eq tau_ok0 mix0 Tryd.func14 (by kernel_rfl) (by kernel_rfl) (by kernel_rfl) (by kernel_rfl) hargs h

/- analemma/name.Set -/
noncomputable def code15 : Code := Tryd.f15.body.getD .skip
theorem inl15 {J : Jd} {args : List AV} {H : Heap} {n : Nat} {R : AV → Heap → Nat → Prop} (hargs : args.length ≤ 5) (h : T.prop P gl n (resQ R) (bodyT tau gl J code15 5 [.tmp 2] args H n)) : CallA P gl 15 args H n R :=
  CallA.inlineE IsProg.eq tau_ok0 mix0 Tryd.func15 (by kernel_rfl) (by kernel_rfl) (by kernel_rfl) (by kernel_rfl) hargs h

/- analemma/analemmaref07.Set -/
noncomputable def code16 : Code := Tryd.f16.body.getD .skip
theorem inl16 {J : Jd} {args : List AV} {H : Heap} {n : Nat} {R : AV → Heap → Nat → Prop} (hargs : args.length ≤ 48) (h : T.prop P gl n (resQ R) (bodyT tau gl J code16 48 [.tmp 2] args H n)) : CallA P gl 16 args H n R :=
  CallA.inlineE IsProg.eq tau_ok0 mix0 Tryd.func16 (by kernel_rfl) (by kernel_rfl) (by kernel_rfl) (by kernel_rfl) hargs h

/- analemma/name.Letter -/
noncomputable def code17 : Code := Tryd.f17.body.getD .skip
theorem inl17 {J : Jd} {args : List AV} {H : Heap} {n : Nat} {R : AV → Heap → Nat → Prop} (hargs : args.length ≤ 5) (h : T.prop P gl n (resQ R) (bodyT tau gl J code17 5 [.tmp 2] args H n)) : CallA P gl 17 args H n R :=
  CallA.inlineE IsProg.eq tau_ok0 mix0 Tryd.func17 (by kernel_rfl) (by kernel_rfl) (by kernel_rfl) (by kernel_rfl) hargs h

/- analemma/analemmaref07.Letter -/
noncomputable def code18 : Code := Tryd.f18.body.getD .skip
theorem inl18 {J : Jd} {args : List AV} {H : Heap} {n : Nat} {R : AV → Heap → Nat → Prop} (hargs : args.length ≤ 5) (h : T.prop P gl n (resQ R) (bodyT tau gl J code18 5 [.tmp 2] args H n)) : CallA P gl 18 args H n R :=
  CallA.inlineE IsProg.eq tau_ok0 mix0 Tryd.func18 (by kernel_rfl) (by kernel_rfl) (by kernel_rfl) (by kernel_rfl) hargs h

/- analemma/name.Abbr -/
noncomputable def code19 : Code := Tryd.f19.body.getD .skip
theorem inl19 {J : Jd} {args : List AV} {H : Heap} {n : Nat} {R : AV → Heap → Nat → Prop} (hargs : args.length ≤ 5) (h : T.prop P gl n (resQ R) (bodyT tau gl J code19 5 [.tmp 2] args H n)) : CallA P gl 19 args H n R :=
  CallA.inlineE IsProg.eq tau_ok0 mix0 Tryd.func19 (by kernel_rfl) (by kernel_rfl) (by kernel_rfl) (by kernel_rfl) hargs h

/- analemma/analemmaref07.Abbr -/
noncomputable def code20 : Code := Tryd.f20.body.getD .skip
theorem inl20 {J : Jd} {args : List AV} {H : Heap} {n : Nat} {R : AV → Heap → Nat → Prop} (hargs : args.length ≤ 5) (h : T.prop P gl n (resQ R) (bodyT tau gl J code20 5 [.tmp 2] args H n)) : CallA P gl 20 args H n R :=
  CallA.inlineE IsProg.eq tau_ok0 mix0 Tryd.func20 (by kernel_rfl) (by kernel_rfl) (by kernel_rfl) (by kernel_rfl) hargs h

/- analemma/analemmalaw07.Zone -/
noncomputable def code21 : Code := Tryd.f21.body.getD .skip
theorem inl21 {J : Jd} {args : List AV} {H : Heap} {n : Nat} {R : AV → Heap → Nat → Prop} (hargs : args.length ≤ 29) (h : T.prop P gl n (resQ R) (bodyT tau gl J code21 29 [.tmp 2] args H n)) : CallA P gl 21 args H n R :=
  CallA.inlineE IsProg.eq tau_ok0 mix0 Tryd.func21 (by kernel_rfl) (by kernel_rfl) (by kernel_rfl) (by kernel_rfl) hargs h

/- strings.Split -/
noncomputable def code22 : Code := Tryd.f22.body.getD .skip
theorem inl22 {J : Jd} {args : List AV} {H : Heap} {n : Nat} {R : AV → Heap → Nat → Prop} (hargs : args.length ≤ 8) (h : T.prop P gl n (resQ R) (bodyT tau gl J code22 8 [.tmp 4] args H n)) : CallA P gl 22 args H n R :=
  CallA.inlineE IsProg.eq tau_ok0 mix0 Tryd.func22 (by kernel_rfl) (by kernel_rfl) (by kernel_rfl) (by kernel_rfl) hargs h

/- strings.Repeat -/
noncomputable def code23 : Code := Tryd.f23.body.getD .skip
theorem inl23 {J : Jd} {args : List AV} {H : Heap} {n : Nat} {R : AV → Heap → Nat → Prop} (hargs : args.length ≤ 125) (h : T.prop P gl n (resQ R) (bodyT tau gl J code23 125 [.tmp 4] args H n)) : CallA P gl 23 args H n R :=
  CallA.inlineE IsProg.eq tau_ok0 mix0 Tryd.func23 (by kernel_rfl) (by kernel_rfl) (by kernel_rfl) (by kernel_rfl) hargs h

/- analemma/analemmalaw07.Letters -/
noncomputable def code24 : Code := Tryd.f24.body.getD .skip
theorem inl24 {J : Jd} {args : List AV} {H : Heap} {n : Nat} {R : AV → Heap → Nat → Prop} (hargs : args.length ≤ 46) (h : T.prop P gl n (resQ R) (bodyT tau gl J code24 46 [.tmp 6] args H n)) : CallA P gl 24 args H n R :=
  CallA.inlineE IsProg.eq tau_ok0 mix0 Tryd.func24 (by kernel_rfl) (by kernel_rfl) (by kernel_rfl) (by kernel_rfl) hargs h

/- analemma/analemmalaw12.few -/
noncomputable def code25 : Code := Tryd.f25.body.getD .skip
theorem inl25 {J : Jd} {args : List AV} {H : Heap} {n : Nat} {R : AV → Heap → Nat → Prop} (hargs : args.length ≤ 19) (h : T.prop P gl n (resQ R) (bodyT tau gl J code25 19 [.tmp 2] args H n)) : CallA P gl 25 args H n R :=
  CallA.inlineE IsProg.eq tau_ok0 mix0 Tryd.func25 (by kernel_rfl) (by kernel_rfl) (by kernel_rfl) (by kernel_rfl) hargs h

/- analemma/analemmalaw12.works -/
noncomputable def code26 : Code := Tryd.f26.body.getD .skip
theorem inl26 {J : Jd} {args : List AV} {H : Heap} {n : Nat} {R : AV → Heap → Nat → Prop} (hargs : args.length ≤ 131) (h : T.prop P gl n (resQ R) (bodyT tau gl J code26 131 [.tmp 0] args H n)) : CallA P gl 26 args H n R :=
  CallA.inlineE IsProg.eq tau_ok0 mix0 Tryd.func26 (by kernel_rfl) (by kernel_rfl) (by kernel_rfl) (by kernel_rfl) hargs h

/- analemma/linkline.Link -/
noncomputable def code27 : Code := Tryd.f27.body.getD .skip
theorem inl27 {J : Jd} {args : List AV} {H : Heap} {n : Nat} {R : AV → Heap → Nat → Prop} (hargs : args.length ≤ 19) (h : T.prop P gl n (resQ R) (bodyT tau gl J code27 19 [.cell 2 37, .tmp 3] args H n)) : CallA P gl 27 args H n R :=
  CallA.inlineE IsProg.eq tau_ok0 mix0 Tryd.func27 (by kernel_rfl) (by kernel_rfl) (by kernel_rfl) (by kernel_rfl) hargs h

/- analemma/analemmaref12.Link -/
noncomputable def code28 : Code := Tryd.f28.body.getD .skip
theorem inl28 {J : Jd} {args : List AV} {H : Heap} {n : Nat} {R : AV → Heap → Nat → Prop} (hargs : args.length ≤ 28) (h : T.prop P gl n (resQ R) (bodyT tau gl J code28 28 [.cell 2 37, .tmp 3] args H n)) : CallA P gl 28 args H n R :=
  CallA.inlineE IsProg.eq tau_ok0 mix0 Tryd.func28 (by kernel_rfl) (by kernel_rfl) (by kernel_rfl) (by kernel_rfl) hargs h

/- analemma/linkline.Shift -/
noncomputable def code29 : Code := Tryd.f29.body.getD .skip
theorem inl29 {J : Jd} {args : List AV} {H : Heap} {n : Nat} {R : AV → Heap → Nat → Prop} (hargs : args.length ≤ 13) (h : T.prop P gl n (resQ R) (bodyT tau gl J code29 13 [.tmp 2, .tmp 3] args H n)) : CallA P gl 29 args H n R :=
  CallA.inlineE IsProg.eq tau_ok0 mix0 Tryd.func29 (by kernel_rfl) (by kernel_rfl) (by kernel_rfl) (by kernel_rfl) hargs h

/- analemma/analemmaref12.Shift -/
noncomputable def code30 : Code := Tryd.f30.body.getD .skip
theorem inl30 {J : Jd} {args : List AV} {H : Heap} {n : Nat} {R : AV → Heap → Nat → Prop} (hargs : args.length ≤ 15) (h : T.prop P gl n (resQ R) (bodyT tau gl J code30 15 [.tmp 2, .tmp 3] args H n)) : CallA P gl 30 args H n R :=
  CallA.inlineE IsProg.eq tau_ok0 mix0 Tryd.func30 (by kernel_rfl) (by kernel_rfl) (by kernel_rfl) (by kernel_rfl) hargs h

/- analemma/linkline.Print -/
noncomputable def code31 : Code := Tryd.f31.body.getD .skip
theorem inl31 {J : Jd} {args : List AV} {H : Heap} {n : Nat} {R : AV → Heap → Nat → Prop} (hargs : args.length ≤ 12) (h : T.prop P gl n (resQ R) (bodyT tau gl J code31 12 [.tmp 2, .tmp 3] args H n)) : CallA P gl 31 args H n R :=
  CallA.inlineE IsProg.eq tau_ok0 mix0 Tryd.func31 (by kernel_rfl) (by kernel_rfl) (by kernel_rfl) (by kernel_rfl) hargs h

/- analemma/analemmaref12.Print -/
noncomputable def code32 : Code := Tryd.f32.body.getD .skip
theorem inl32 {J : Jd} {args : List AV} {H : Heap} {n : Nat} {R : AV → Heap → Nat → Prop} (hargs : args.length ≤ 21) (h : T.prop P gl n (resQ R) (bodyT tau gl J code32 21 [.tmp 2, .tmp 3] args H n)) : CallA P gl 32 args H n R :=
  CallA.inlineE IsProg.eq tau_ok0 mix0 Tryd.func32 (by kernel_rfl) (by kernel_rfl) (by kernel_rfl) (by kernel_rfl) hargs h

/- analemma/linkline.PrintShift -/
noncomputable def code33 : Code := Tryd.f33.body.getD .skip
theorem inl33 {J : Jd} {args : List AV} {H : Heap} {n : Nat} {R : AV → Heap → Nat → Prop} (hargs : args.length ≤ 9) (h : T.prop P gl n (resQ R) (bodyT tau gl J code33 9 [.tmp 2, .tmp 3] args H n)) : CallA P gl 33 args H n R :=
  CallA.inlineE IsProg.eq tau_ok0 mix0 Tryd.func33 (by kernel_rfl) (by kernel_rfl) (by kernel_rfl) (by kernel_rfl) hargs h

/- analemma/analemmaref12.PrintShift -/
noncomputable def code34 : Code := Tryd.f34.body.getD .skip
theorem inl34 {J : Jd} {args : List AV} {H : Heap} {n : Nat} {R : AV → Heap → Nat → Prop} (hargs : args.length ≤ 9) (h : T.prop P gl n (resQ R) (bodyT tau gl J code34 9 [.tmp 2, .tmp 3] args H n)) : CallA P gl 34 args H n R :=
  CallA.inlineE IsProg.eq tau_ok0 mix0 Tryd.func34 (by kernel_rfl) (by kernel_rfl) (by kernel_rfl) (by kernel_rfl) hargs h

/- analemma/lexeme.Fields -/
noncomputable def code35 : Code := Tryd.f35.body.getD .skip
theorem inl35 {J : Jd} {args : List AV} {H : Heap} {n : Nat} {R : AV → Heap → Nat → Prop} (hargs : args.length ≤ 64) (h : T.prop P gl n (resQ R) (bodyT tau gl J code35 64 [.tmp 2, .tmp 3] args H n)) : CallA P gl 35 args H n R :=
  CallA.inlineE IsProg.eq tau_ok0 mix0 Tryd.func35 (by kernel_rfl) (by kernel_rfl) (by kernel_rfl) (by kernel_rfl) hargs h

/- strings.Join -/
noncomputable def code36 : Code := Tryd.f36.body.getD .skip
theorem inl36 {J : Jd} {args : List AV} {H : Heap} {n : Nat} {R : AV → Heap → Nat → Prop} (hargs : args.length ≤ 75) (h : T.prop P gl n (resQ R) (bodyT tau gl J code36 75 [.tmp 4] args H n)) : CallA P gl 36 args H n R :=
  CallA.inlineE IsProg.eq tau_ok0 mix0 Tryd.func36 (by kernel_rfl) (by kernel_rfl) (by kernel_rfl) (by kernel_rfl) hargs h

/- analemma/analemmalaw07.all -/
noncomputable def code37 : Code := Tryd.f37.body.getD .skip
theorem inl37 {J : Jd} {args : List AV} {H : Heap} {n : Nat} {R : AV → Heap → Nat → Prop} (hargs : args.length ≤ 21) (h : T.prop P gl n (resQ R) (bodyT tau gl J code37 21 [.tmp 6] args H n)) : CallA P gl 37 args H n R :=
  CallA.inlineE IsProg.eq tau_ok0 mix0 Tryd.func37 (by kernel_rfl) (by kernel_rfl) (by kernel_rfl) (by kernel_rfl) hargs h

/- strings.SplitSeq -/
noncomputable def code38 : Code := Tryd.f38.body.getD .skip
theorem inl38 {J : Jd} {args : List AV} {H : Heap} {n : Nat} {R : AV → Heap → Nat → Prop} (hargs : args.length ≤ 8) (h : T.prop P gl n (resQ R) (bodyT tau gl J code38 8 [.tmp 4] args H n)) : CallA P gl 38 args H n R :=
  CallA.inlineE IsProg.eq tau_ok0 mix0 Tryd.func38 (by kernel_rfl) (by kernel_rfl) (by kernel_rfl) (by kernel_rfl) hargs h

/- analemma/name.all -/
noncomputable def code39 : Code := Tryd.f39.body.getD .skip
theorem inl39 {J : Jd} {args : List AV} {H : Heap} {n : Nat} {R : AV → Heap → Nat → Prop} (hargs : args.length ≤ 44) (h : T.prop P gl n (resQ R) (bodyT tau gl J code39 44 [.tmp 8] args H n)) : CallA P gl 39 args H n R :=
  CallA.inlineE IsProg.eq tau_ok0 mix0 Tryd.func39 (by kernel_rfl) (by kernel_rfl) (by kernel_rfl) (by kernel_rfl) hargs h

/- analemma/name.Zone$1 -/
noncomputable def code40 : Code := Tryd.f40.body.getD .skip
theorem inl40 {J : Jd} {args : List AV} {H : Heap} {n : Nat} {R : AV → Heap → Nat → Prop} (hargs : args.length ≤ 21) (h : T.prop P gl n (resQ R) (bodyT tau gl J code40 21 [.tmp 6] args H n)) : CallA P gl 40 args H n R :=
  CallA.inlineE IsProg.eq tau_ok0 mix0 Tryd.func40 (by kernel_rfl) (by kernel_rfl) (by kernel_rfl) (by kernel_rfl) hargs h

/- analemma/analemmaref07.part -/
noncomputable def code41 : Code := Tryd.f41.body.getD .skip
theorem inl41 {J : Jd} {args : List AV} {H : Heap} {n : Nat} {R : AV → Heap → Nat → Prop} (hargs : args.length ≤ 64) (h : T.prop P gl n (resQ R) (bodyT tau gl J code41 64 [.tmp 2] args H n)) : CallA P gl 41 args H n R :=
  CallA.inlineE IsProg.eq tau_ok0 mix0 Tryd.func41 (by kernel_rfl) (by kernel_rfl) (by kernel_rfl) (by kernel_rfl) hargs h

/- analemma/name.Set$1 -/
noncomputable def code42 : Code := Tryd.f42.body.getD .skip
theorem inl42 {J : Jd} {args : List AV} {H : Heap} {n : Nat} {R : AV → Heap → Nat → Prop} (hargs : args.length ≤ 18) (h : T.prop P gl n (resQ R) (bodyT tau gl J code42 18 [.tmp 6] args H n)) : CallA P gl 42 args H n R :=
  CallA.inlineE IsProg.eq tau_ok0 mix0 Tryd.func42 (by kernel_rfl) (by kernel_rfl) (by kernel_rfl) (by kernel_rfl) hargs h

/- analemma/analemmaref07.letter -/
noncomputable def code43 : Code := Tryd.f43.body.getD .skip
theorem inl43 {J : Jd} {args : List AV} {H : Heap} {n : Nat} {R : AV → Heap → Nat → Prop} (hargs : args.length ≤ 17) (h : T.prop P gl n (resQ R) (bodyT tau gl J code43 17 [.tmp 2] args H n)) : CallA P gl 43 args H n R :=
  CallA.inlineE IsProg.eq tau_ok0 mix0 Tryd.func43 (by kernel_rfl) (by kernel_rfl) (by kernel_rfl) (by kernel_rfl) hargs h

/- analemma/analemmaref07.digit -/
noncomputable def code44 : Code := Tryd.f44.body.getD .skip
theorem inl44 {J : Jd} {args : List AV} {H : Heap} {n : Nat} {R : AV → Heap → Nat → Prop} (hargs : args.length ≤ 9) (h : T.prop P gl n (resQ R) (bodyT tau gl J code44 9 [.tmp 2] args H n)) : CallA P gl 44 args H n R :=
  CallA.inlineE IsProg.eq tau_ok0 mix0 Tryd.func44 (by kernel_rfl) (by kernel_rfl) (by kernel_rfl) (by kernel_rfl) hargs h

/- analemma/name.letters -/
noncomputable def code45 : Code := Tryd.f45.body.getD .skip
theorem inl45 {J : Jd} {args : List AV} {H : Heap} {n : Nat} {R : AV → Heap → Nat → Prop} (hargs : args.length ≤ 11) (h : T.prop P gl n (resQ R) (bodyT tau gl J code45 11 [.tmp 6] args H n)) : CallA P gl 45 args H n R :=
  CallA.inlineE IsProg.eq tau_ok0 mix0 Tryd.func45 (by kernel_rfl) (by kernel_rfl) (by kernel_rfl) (by kernel_rfl) hargs h

/- analemma/analemmaref07.letters -/
noncomputable def code46 : Code := Tryd.f46.body.getD .skip
theorem inl46 {J : Jd} {args : List AV} {H : Heap} {n : Nat} {R : AV → Heap → Nat → Prop} (hargs : args.length ≤ 29) (h : T.prop P gl n (resQ R) (bodyT tau gl J code46 29 [.tmp 6] args H n)) : CallA P gl 46 args H n R :=
  CallA.inlineE IsProg.eq tau_ok0 mix0 Tryd.func46 (by kernel_rfl) (by kernel_rfl) (by kernel_rfl) (by kernel_rfl) hargs h

/- analemma/analemmalaw07.part -/
noncomputable def code47 : Code := Tryd.f47.body.getD .skip
theorem inl47 {J : Jd} {args : List AV} {H : Heap} {n : Nat} {R : AV → Heap → Nat → Prop} (hargs : args.length ≤ 36) (h : T.prop P gl n (resQ R) (bodyT tau gl J code47 36 [.tmp 2] args H n)) : CallA P gl 47 args H n R :=
  CallA.inlineE IsProg.eq tau_ok0 mix0 Tryd.func47 (by kernel_rfl) (by kernel_rfl) (by kernel_rfl) (by kernel_rfl) hargs h

/- strings.genSplit -/
noncomputable def code48 : Code := Tryd.f48.body.getD .skip
theorem inl48 {J : Jd} {args : List AV} {H : Heap} {n : Nat} {R : AV → Heap → Nat → Prop} (hargs : args.length ≤ 66) (h : T.prop P gl n (resQ R) (bodyT tau gl J code48 66 [.tmp 8] args H n)) : CallA P gl 48 args H n R :=
  CallA.inlineE IsProg.eq tau_ok0 mix0 Tryd.func48 (by kernel_rfl) (by kernel_rfl) (by kernel_rfl) (by kernel_rfl) hargs h

/- math/bits.Mul -/
noncomputable def code49 : Code := Tryd.f49.body.getD .skip
theorem inl49 {J : Jd} {args : List AV} {H : Heap} {n : Nat} {R : AV → Heap → Nat → Prop} (hargs : args.length ≤ 30) (h : T.prop P gl n (resQ R) (bodyT tau gl J code49 30 [.tmp 4, .tmp 5] args H n)) : CallA P gl 49 args H n R :=
  CallA.inlineE IsProg.eq tau_ok0 mix0 Tryd.func49 (by kernel_rfl) (by kernel_rfl) (by kernel_rfl) (by kernel_rfl) hargs h

/- strings.HasPrefix -/
noncomputable def code50 : Code := Tryd.f50.body.getD .skip
theorem inl50 {J : Jd} {args : List AV} {H : Heap} {n : Nat} {R : AV → Heap → Nat → Prop} (hargs : args.length ≤ 8) (h : T.prop P gl n (resQ R) (bodyT tau gl J code50 8 [.tmp 4] args H n)) : CallA P gl 50 args H n R :=
  CallA.inlineE IsProg.eq tau_ok0 mix0 Tryd.func50 (by kernel_rfl) (by kernel_rfl) (by kernel_rfl) (by kernel_rfl) hargs h

/- (*strings.Builder).Grow -/
noncomputable def code51 : Code := Tryd.f51.body.getD .skip
theorem inl51 {J : Jd} {args : List AV} {H : Heap} {n : Nat} {R : AV → Heap → Nat → Prop} (hargs : args.length ≤ 25) (h : T.prop P gl n (resQ R) (bodyT tau gl J code51 25 [] args H n)) : CallA P gl 51 args H n R :=
  CallA.inlineE IsProg.eq tau_ok0 mix0 Tryd.func51 (by kernel_rfl) (by kernel_rfl) (by kernel_rfl) (by kernel_rfl) hargs h

/- (*strings.Builder).WriteString -/
noncomputable def code52 : Code := Tryd.f52.body.getD .skip
theorem inl52 {J : Jd} {args : List AV} {H : Heap} {n : Nat} {R : AV → Heap → Nat → Prop} (hargs : args.length ≤ 19) (h : T.prop P gl n (resQ R) (bodyT tau gl J code52 19 [.tmp 4, .tmp 5] args H n)) : CallA P gl 52 args H n R :=
  CallA.inlineE IsProg.eq tau_ok0 mix0 Tryd.func52 (by kernel_rfl) (by kernel_rfl) (by kernel_rfl) (by kernel_rfl) hargs h

/- (*strings.Builder).Len -/
noncomputable def code53 : Code := Tryd.f53.body.getD .skip
theorem inl53 {J : Jd} {args : List AV} {H : Heap} {n : Nat} {R : AV → Heap → Nat → Prop} (hargs : args.length ≤ 8) (h : T.prop P gl n (resQ R) (bodyT tau gl J code53 8 [.tmp 2] args H n)) : CallA P gl 53 args H n R :=
  CallA.inlineE IsProg.eq tau_ok0 mix0 Tryd.func53 (by kernel_rfl) (by kernel_rfl) (by kernel_rfl) (by kernel_rfl) hargs h

/- (*strings.Builder).String -/
noncomputable def code54 : Code := Tryd.f54.body.getD .skip
theorem inl54 {J : Jd} {args : List AV} {H : Heap} {n : Nat} {R : AV → Heap → Nat → Prop} (hargs : args.length ≤ 14) (h : T.prop P gl n (resQ R) (bodyT tau gl J code54 14 [.tmp 2] args H n)) : CallA P gl 54 args H n R :=
  CallA.inlineE IsProg.eq tau_ok0 mix0 Tryd.func54 (by kernel_rfl) (by kernel_rfl) (by kernel_rfl) (by kernel_rfl) hargs h

/- analemma/linkline.all -/
noncomputable def code55 : Code := Tryd.f55.body.getD .skip
theorem inl55 {J : Jd} {args : List AV} {H : Heap} {n : Nat} {R : AV → Heap → Nat → Prop} (hargs : args.length ≤ 9) (h : T.prop P gl n (resQ R) (bodyT tau gl J code55 9 [.tmp 4] args H n)) : CallA P gl 55 args H n R :=
  CallA.inlineE IsProg.eq tau_ok0 mix0 Tryd.func55 (by kernel_rfl) (by kernel_rfl) (by kernel_rfl) (by kernel_rfl) hargs h

/- analemma/linkline.line -/
noncomputable def code56 : Code := Tryd.f56.body.getD .skip
theorem inl56 {J : Jd} {args : List AV} {H : Heap} {n : Nat} {R : AV → Heap → Nat → Prop} (hargs : args.length ≤ 25) (h : T.prop P gl n (resQ R) (bodyT tau gl J code56 25 [.tmp 6, .tmp 7] args H n)) : CallA P gl 56 args H n R :=
  CallA.inlineE IsProg.eq tau_ok0 mix0 Tryd.func56 (by kernel_rfl) (by kernel_rfl) (by kernel_rfl) (by kernel_rfl) hargs h

/- analemma/lexeme.Fields$1 -/
noncomputable def code57 : Code := Tryd.f57.body.getD .skip
theorem inl57 {J : Jd} {args : List AV} {H : Heap} {n : Nat} {R : AV → Heap → Nat → Prop} (hargs : args.length ≤ 9) (h : T.prop P gl n (resQ R) (bodyT tau gl J code57 9 [] args H n)) : CallA P gl 57 args H n R :=
  CallA.inlineE IsProg.eq tau_ok0 mix0 Tryd.func57 (by kernel_rfl) (by kernel_rfl) (by kernel_rfl) (by kernel_rfl) hargs h

/- strings.splitSeq -/
noncomputable def code58 : Code := Tryd.f58.body.getD .skip
theorem inl58 {J : Jd} {args : List AV} {H : Heap} {n : Nat} {R : AV → Heap → Nat → Prop} (hargs : args.length ≤ 8) (h : T.prop P gl n (resQ R) (bodyT tau gl J code58 8 [.tmp 6] args H n)) : CallA P gl 58 args H n R :=
  CallA.inlineE IsProg.eq tau_ok0 mix0 Tryd.func58 (by kernel_rfl) (by kernel_rfl) (by kernel_rfl) (by kernel_rfl) hargs h

/- analemma/name.letters$1 -/
noncomputable def code59 : Code := Tryd.f59.body.getD .skip
theorem inl59 {J : Jd} {args : List AV} {H : Heap} {n : Nat} {R : AV → Heap → Nat → Prop} (hargs : args.length ≤ 9) (h : T.prop P gl n (resQ R) (bodyT tau gl J code59 9 [.tmp 6] args H n)) : CallA P gl 59 args H n R :=
  CallA.inlineE IsProg.eq tau_ok0 mix0 Tryd.func59 (by kernel_rfl) (by kernel_rfl) (by kernel_rfl) (by kernel_rfl) hargs h

/- strings.explode -/
noncomputable def code60 : Code := Tryd.f60.body.getD .skip
theorem inl60 {J : Jd} {args : List AV} {H : Heap} {n : Nat} {R : AV → Heap → Nat → Prop} (hargs : args.length ≤ 50) (h : T.prop P gl n (resQ R) (bodyT tau gl J code60 50 [.tmp 4] args H n)) : CallA P gl 60 args H n R :=
  CallA.inlineE IsProg.eq tau_ok0 mix0 Tryd.func60 (by kernel_rfl) (by kernel_rfl) (by kernel_rfl) (by kernel_rfl) hargs h

/- strings.Count -/
noncomputable def code61 : Code := Tryd.f61.body.getD .skip
theorem inl61 {J : Jd} {args : List AV} {H : Heap} {n : Nat} {R : AV → Heap → Nat → Prop} (hargs : args.length ≤ 34) (h : T.prop P gl n (resQ R) (bodyT tau gl J code61 34 [.tmp 4] args H n)) : CallA P gl 61 args H n R :=
  CallA.inlineE IsProg.eq tau_ok0 mix0 Tryd.func61 (by kernel_rfl) (by kernel_rfl) (by kernel_rfl) (by kernel_rfl) hargs h

/- strings.Index -/
noncomputable def code62 : Code := Tryd.f62.body.getD .skip
theorem inl62 {J : Jd} {args : List AV} {H : Heap} {n : Nat} {R : AV → Heap → Nat → Prop} (hargs : args.length ≤ 8) (h : T.prop P gl n (resQ R) (bodyT tau gl J code62 8 [.tmp 4] args H n)) : CallA P gl 62 args H n R :=
  CallA.inlineE IsProg.eq tau_ok0 mix0 Tryd.func62 (by kernel_rfl) (by kernel_rfl) (by kernel_rfl) (by kernel_rfl) hargs h

/- math/bits.Mul32 -/
noncomputable def code63 : Code := Tryd.f63.body.getD .skip
theorem inl63 {J : Jd} {args : List AV} {H : Heap} {n : Nat} {R : AV → Heap → Nat → Prop} (hargs : args.length ≤ 17) (h : T.prop P gl n (resQ R) (bodyT tau gl J code63 17 [.tmp 4, .tmp 5] args H n)) : CallA P gl 63 args H n R :=
  CallA.inlineE IsProg.eq tau_ok0 mix0 Tryd.func63 (by kernel_rfl) (by kernel_rfl) (by kernel_rfl) (by kernel_rfl) hargs h

/- math/bits.Mul64 -/
noncomputable def code64 : Code := Tryd.f64.body.getD .skip
theorem inl64 {J : Jd} {args : List AV} {H : Heap} {n : Nat} {R : AV → Heap → Nat → Prop} (hargs : args.length ≤ 51) (h : T.prop P gl n (resQ R) (bodyT tau gl J code64 51 [.tmp 4, .tmp 5] args H n)) : CallA P gl 64 args H n R :=
  CallA.inlineE IsProg.eq tau_ok0 mix0 Tryd.func64 (by kernel_rfl) (by kernel_rfl) (by kernel_rfl) (by kernel_rfl) hargs h

/- internal/stringslite.HasPrefix -/
noncomputable def code65 : Code := Tryd.f65.body.getD .skip
theorem inl65 {J : Jd} {args : List AV} {H : Heap} {n : Nat} {R : AV → Heap → Nat → Prop} (hargs : args.length ≤ 18) (h : T.prop P gl n (resQ R) (bodyT tau gl J code65 18 [.tmp 4] args H n)) : CallA P gl 65 args H n R :=
  CallA.inlineE IsProg.eq tau_ok0 mix0 Tryd.func65 (by kernel_rfl) (by kernel_rfl) (by kernel_rfl) (by kernel_rfl) hargs h

/- (*strings.Builder).copyCheck -/
noncomputable def code66 : Code := Tryd.f66.body.getD .skip
theorem inl66 {J : Jd} {args : List AV} {H : Heap} {n : Nat} {R : AV → Heap → Nat → Prop} (hargs : args.length ≤ 20) (h : T.prop P gl n (resQ R) (bodyT tau gl J code66 20 [] args H n)) : CallA P gl 66 args H n R :=
  CallA.inlineE IsProg.eq tau_ok0 mix0 Tryd.func66 (by kernel_rfl) (by kernel_rfl) (by kernel_rfl) (by kernel_rfl) hargs h

/- (*strings.Builder).grow -/
noncomputable def code67 : Code := Tryd.f67.body.getD .skip
theorem inl67 {J : Jd} {args : List AV} {H : Heap} {n : Nat} {R : AV → Heap → Nat → Prop} (hargs : args.length ≤ 30) (h : T.prop P gl n (resQ R) (bodyT tau gl J code67 30 [] args H n)) : CallA P gl 67 args H n R :=
  CallA.inlineE IsProg.eq tau_ok0 mix0 Tryd.func67 (by kernel_rfl) (by kernel_rfl) (by kernel_rfl) (by kernel_rfl) hargs h

/- slices.ContainsFunc[[]string,string] -/
noncomputable def code68 : Code := Tryd.f68.body.getD .skip
theorem inl68 {J : Jd} {args : List AV} {H : Heap} {n : Nat} {R : AV → Heap → Nat → Prop} (hargs : args.length ≤ 9) (h : T.prop P gl n (resQ R) (bodyT tau gl J code68 9 [.tmp 4] args H n)) : CallA P gl 68 args H n R :=
  CallA.inlineE IsProg.eq tau_ok0 mix0 Tryd.func68 (by kernel_rfl) (by kernel_rfl) (by kernel_rfl) (by kernel_rfl) hargs h

/- analemma/linkline.all$1 -/
noncomputable def code69 : Code := Tryd.f69.body.getD .skip
theorem inl69 {J : Jd} {args : List AV} {H : Heap} {n : Nat} {R : AV → Heap → Nat → Prop} (hargs : args.length ≤ 8) (h : T.prop P gl n (resQ R) (bodyT tau gl J code69 8 [.tmp 3] args H n)) : CallA P gl 69 args H n R :=
  CallA.inlineE IsProg.eq tau_ok0 mix0 Tryd.func69 (by kernel_rfl) (by kernel_rfl) (by kernel_rfl) (by kernel_rfl) hargs h

/- analemma/lexeme.Join -/
noncomputable def code70 : Code := Tryd.f70.body.getD .skip
theorem inl70 {J : Jd} {args : List AV} {H : Heap} {n : Nat} {R : AV → Heap → Nat → Prop} (hargs : args.length ≤ 35) (h : T.prop P gl n (resQ R) (bodyT tau gl J code70 35 [.tmp 2, .tmp 3] args H n)) : CallA P gl 70 args H n R :=
  CallA.inlineE IsProg.eq tau_ok0 mix0 Tryd.func70 (by kernel_rfl) (by kernel_rfl) (by kernel_rfl) (by kernel_rfl) hargs h

/- strings.splitSeq$1 -/
noncomputable def code71 : Code := Tryd.f71.body.getD .skip
theorem inl71 {J : Jd} {args : List AV} {H : Heap} {n : Nat} {R : AV → Heap → Nat → Prop} (hargs : args.length ≤ 52) (h : T.prop P gl n (resQ R) (bodyT tau gl J code71 52 [] args H n)) : CallA P gl 71 args H n R :=
  CallA.inlineE IsProg.eq tau_ok0 mix0 Tryd.func71 (by kernel_rfl) (by kernel_rfl) (by kernel_rfl) (by kernel_rfl) hargs h

/- unicode/utf8.DecodeRuneInString -/
noncomputable def code72 : Code := Tryd.f72.body.getD .skip
theorem inl72 {J : Jd} {args : List AV} {H : Heap} {n : Nat} {R : AV → Heap → Nat → Prop} (hargs : args.length ≤ 19) (h : T.prop P gl n (resQ R) (bodyT tau gl J code72 19 [.tmp 2, .tmp 3] args H n)) : CallA P gl 72 args H n R :=
  CallA.inlineE IsProg.eq tau_ok0 mix0 Tryd.func72 (by kernel_rfl) (by kernel_rfl) (by kernel_rfl) (by kernel_rfl) hargs h

/- unicode/utf8.RuneCountInString -/
noncomputable def code73 : Code := Tryd.f73.body.getD .skip
theorem inl73 {J : Jd} {args : List AV} {H : Heap} {n : Nat} {R : AV → Heap → Nat → Prop} (hargs : args.length ≤ 10) (h : T.prop P gl n (resQ R) (bodyT tau gl J code73 10 [.tmp 2] args H n)) : CallA P gl 73 args H n R :=
  CallA.inlineE IsProg.eq tau_ok0 mix0 Tryd.func73 (by kernel_rfl) (by kernel_rfl) (by kernel_rfl) (by kernel_rfl) hargs h

/- internal/stringslite.Index -/
noncomputable def code75 : Code := Tryd.f75.body.getD .skip
theorem inl75 {J : Jd} {args : List AV} {H : Heap} {n : Nat} {R : AV → Heap → Nat → Prop} (hargs : args.length ≤ 143) (h : T.prop P gl n (resQ R) (bodyT tau gl J code75 143 [.tmp 4] args H n)) : CallA P gl 75 args H n R :=
  CallA.inlineE IsProg.eq tau_ok0 mix0 Tryd.func75 (by kernel_rfl) (by kernel_rfl) (by kernel_rfl) (by kernel_rfl) hargs h

/- slices.IndexFunc[[]string,string] -/
noncomputable def code78 : Code := Tryd.f78.body.getD .skip
theorem inl78 {J : Jd} {args : List AV} {H : Heap} {n : Nat} {R : AV → Heap → Nat → Prop} (hargs : args.length ≤ 19) (h : T.prop P gl n (resQ R) (bodyT tau gl J code78 19 [.tmp 4] args H n)) : CallA P gl 78 args H n R :=
  CallA.inlineE IsProg.eq tau_ok0 mix0 Tryd.func78 (by kernel_rfl) (by kernel_rfl) (by kernel_rfl) (by kernel_rfl) hargs h

/- analemma/lexeme.writable -/
noncomputable def code79 : Code := Tryd.f79.body.getD .skip
theorem inl79 {J : Jd} {args : List AV} {H : Heap} {n : Nat} {R : AV → Heap → Nat → Prop} (hargs : args.length ≤ 26) (h : T.prop P gl n (resQ R) (bodyT tau gl J code79 26 [.tmp 2] args H n)) : CallA P gl 79 args H n R :=
  CallA.inlineE IsProg.eq tau_ok0 mix0 Tryd.func79 (by kernel_rfl) (by kernel_rfl) (by kernel_rfl) (by kernel_rfl) hargs h

/- (*strings.Builder).WriteByte -/
noncomputable def code80 : Code := Tryd.f80.body.getD .skip
theorem inl80 {J : Jd} {args : List AV} {H : Heap} {n : Nat} {R : AV → Heap → Nat → Prop} (hargs : args.length ≤ 17) (h : T.prop P gl n (resQ R) (bodyT tau gl J code80 17 [.tmp 4] args H n)) : CallA P gl 80 args H n R :=
  CallA.inlineE IsProg.eq tau_ok0 mix0 Tryd.func80 (by kernel_rfl) (by kernel_rfl) (by kernel_rfl) (by kernel_rfl) hargs h

/- strings.ContainsAny -/
noncomputable def code81 : Code := Tryd.f81.body.getD .skip
theorem inl81 {J : Jd} {args : List AV} {H : Heap} {n : Nat} {R : AV → Heap → Nat → Prop} (hargs : args.length ≤ 9) (h : T.prop P gl n (resQ R) (bodyT tau gl J code81 9 [.tmp 4] args H n)) : CallA P gl 81 args H n R :=
  CallA.inlineE IsProg.eq tau_ok0 mix0 Tryd.func81 (by kernel_rfl) (by kernel_rfl) (by kernel_rfl) (by kernel_rfl) hargs h

/- unicode/utf8.decodeRuneInStringSlow -/
noncomputable def code82 : Code := Tryd.f82.body.getD .skip
theorem inl82 {J : Jd} {args : List AV} {H : Heap} {n : Nat} {R : AV → Heap → Nat → Prop} (hargs : args.length ≤ 117) (h : T.prop P gl n (resQ R) (bodyT tau gl J code82 117 [.tmp 2, .tmp 3] args H n)) : CallA P gl 82 args H n R :=
  CallA.inlineE IsProg.eq tau_ok0 mix0 Tryd.func82 (by kernel_rfl) (by kernel_rfl) (by kernel_rfl) (by kernel_rfl) hargs h

/- internal/stringslite.IndexByte -/
noncomputable def code83 : Code := Tryd.f83.body.getD .skip
theorem inl83 {J : Jd} {args : List AV} {H : Heap} {n : Nat} {R : AV → Heap → Nat → Prop} (hargs : args.length ≤ 8) (h : T.prop P gl n (resQ R) (bodyT tau gl J code83 8 [.tmp 4] args H n)) : CallA P gl 83 args H n R :=
  CallA.inlineE IsProg.eq tau_ok0 mix0 Tryd.func83 (by kernel_rfl) (by kernel_rfl) (by kernel_rfl) (by kernel_rfl) hargs h

/- internal/bytealg.Cutover -/
noncomputable def code85 : Code := Tryd.f85.body.getD .skip
theorem inl85 {J : Jd} {args : List AV} {H : Heap} {n : Nat} {R : AV → Heap → Nat → Prop} (hargs : args.length ≤ 6) (h : T.prop P gl n (resQ R) (bodyT tau gl J code85 6 [.tmp 2] args H n)) : CallA P gl 85 args H n R :=
  CallA.inlineE IsProg.eq tau_ok0 mix0 Tryd.func85 (by kernel_rfl) (by kernel_rfl) (by kernel_rfl) (by kernel_rfl) hargs h

/- internal/bytealg.IndexRabinKarp[string] -/
noncomputable def code86 : Code := Tryd.f86.body.getD .skip
theorem inl86 {J : Jd} {args : List AV} {H : Heap} {n : Nat} {R : AV → Heap → Nat → Prop} (hargs : args.length ≤ 81) (h : T.prop P gl n (resQ R) (bodyT tau gl J code86 81 [.tmp 4] args H n)) : CallA P gl 86 args H n R :=
  CallA.inlineE IsProg.eq tau_ok0 mix0 Tryd.func86 (by kernel_rfl) (by kernel_rfl) (by kernel_rfl) (by kernel_rfl) hargs h

/- strings.IndexAny -/
noncomputable def code87 : Code := Tryd.f87.body.getD .skip
theorem inl87 {J : Jd} {args : List AV} {H : Heap} {n : Nat} {R : AV → Heap → Nat → Prop} (hargs : args.length ≤ 55) (h : T.prop P gl n (resQ R) (bodyT tau gl J code87 55 [.tmp 4] args H n)) : CallA P gl 87 args H n R :=
  CallA.inlineE IsProg.eq tau_ok0 mix0 Tryd.func87 (by kernel_rfl) (by kernel_rfl) (by kernel_rfl) (by kernel_rfl) hargs h

/- internal/bytealg.hashStr[string] -/
noncomputable def code89 : Code := Tryd.f89.body.getD .skip
theorem inl89 {J : Jd} {args : List AV} {H : Heap} {n : Nat} {R : AV → Heap → Nat → Prop} (hargs : args.length ≤ 39) (h : T.prop P gl n (resQ R) (bodyT tau gl J code89 39 [.tmp 2, .tmp 3] args H n)) : CallA P gl 89 args H n R :=
  CallA.inlineE IsProg.eq tau_ok0 mix0 Tryd.func89 (by kernel_rfl) (by kernel_rfl) (by kernel_rfl) (by kernel_rfl) hargs h

/- strings.IndexRune -/
noncomputable def code90 : Code := Tryd.f90.body.getD .skip
theorem inl90 {J : Jd} {args : List AV} {H : Heap} {n : Nat} {R : AV → Heap → Nat → Prop} (hargs : args.length ≤ 187) (h : T.prop P gl n (resQ R) (bodyT tau gl J code90 187 [.tmp 4] args H n)) : CallA P gl 90 args H n R :=
  CallA.inlineE IsProg.eq tau_ok0 mix0 Tryd.func90 (by kernel_rfl) (by kernel_rfl) (by kernel_rfl) (by kernel_rfl) hargs h

/- strings.shouldUseASCIISet -/
noncomputable def code91 : Code := Tryd.f91.body.getD .skip
theorem inl91 {J : Jd} {args : List AV} {H : Heap} {n : Nat} {R : AV → Heap → Nat → Prop} (hargs : args.length ≤ 5) (h : T.prop P gl n (resQ R) (bodyT tau gl J code91 5 [.tmp 2] args H n)) : CallA P gl 91 args H n R :=
  CallA.inlineE IsProg.eq tau_ok0 mix0 Tryd.func91 (by kernel_rfl) (by kernel_rfl) (by kernel_rfl) (by kernel_rfl) hargs h

/- strings.makeASCIISet -/
noncomputable def code92 : Code := Tryd.f92.body.getD .skip
theorem inl92 {J : Jd} {args : List AV} {H : Heap} {n : Nat} {R : AV → Heap → Nat → Prop} (hargs : args.length ≤ 21) (h : T.prop P gl n (resQ R) (bodyT tau gl J code92 21 [.cell 2 111, .tmp 3] args H n)) : CallA P gl 92 args H n R :=
  CallA.inlineE IsProg.eq tau_ok0 mix0 Tryd.func92 (by kernel_rfl) (by kernel_rfl) (by kernel_rfl) (by kernel_rfl) hargs h

/- (*strings.asciiSet).contains -/
noncomputable def code93 : Code := Tryd.f93.body.getD .skip
theorem inl93 {J : Jd} {args : List AV} {H : Heap} {n : Nat} {R : AV → Heap → Nat → Prop} (hargs : args.length ≤ 10) (h : T.prop P gl n (resQ R) (bodyT tau gl J code93 10 [.tmp 4] args H n)) : CallA P gl 93 args H n R :=
  CallA.inlineE IsProg.eq tau_ok0 mix0 Tryd.func93 (by kernel_rfl) (by kernel_rfl) (by kernel_rfl) (by kernel_rfl) hargs h

/- strings.IndexByte -/
noncomputable def code94 : Code := Tryd.f94.body.getD .skip
theorem inl94 {J : Jd} {args : List AV} {H : Heap} {n : Nat} {R : AV → Heap → Nat → Prop} (hargs : args.length ≤ 8) (h : T.prop P gl n (resQ R) (bodyT tau gl J code94 8 [.tmp 4] args H n)) : CallA P gl 94 args H n R :=
  CallA.inlineE IsProg.eq tau_ok0 mix0 Tryd.func94 (by kernel_rfl) (by kernel_rfl) (by kernel_rfl) (by kernel_rfl) hargs h

/- unicode/utf8.ValidRune -/
noncomputable def code95 : Code := Tryd.f95.body.getD .skip
theorem inl95 {J : Jd} {args : List AV} {H : Heap} {n : Nat} {R : AV → Heap → Nat → Prop} (hargs : args.length ≤ 17) (h : T.prop P gl n (resQ R) (bodyT tau gl J code95 17 [.tmp 2] args H n)) : CallA P gl 95 args H n R :=
  CallA.inlineE IsProg.eq tau_ok0 mix0 Tryd.func95 (by kernel_rfl) (by kernel_rfl) (by kernel_rfl) (by kernel_rfl) hargs h

noncomputable def fnList : List (Nat × FDesc) := [(3, code3, 36, [.tmp 2]),
  (4, code4, 107, [.tmp 6]),
  (5, code5, 168, [.tmp 8]),
  (6, code6, 86, [.tmp 4]),
  (7, code7, 56, [.tmp 2]),
  (8, code8, 63, [.tmp 4]),
  (9, code9, 129, [.tmp 6]),
  (10, code10, 133, [.tmp 4]),
  (11, code11, 53, [.tmp 2]),
  (12, code12, 31, [.tmp 0]),
  (13, code13, 15, [.cell 2 4]),
  (14, code14, 32, [.tmp 2]),
  (15, code15, 5, [.tmp 2]),
  (16, code16, 48, [.tmp 2]),
  (17, code17, 5, [.tmp 2]),
  (18, code18, 5, [.tmp 2]),
  (19, code19, 5, [.tmp 2]),
  (20, code20, 5, [.tmp 2]),
  (21, code21, 29, [.tmp 2]),
  (22, code22, 8, [.tmp 4]),
  (23, code23, 125, [.tmp 4]),
  (24, code24, 46, [.tmp 6]),
  (25, code25, 19, [.tmp 2]),
  (26, code26, 131, [.tmp 0]),
  (27, code27, 19, [.cell 2 37, .tmp 3]),
  (28, code28, 28, [.cell 2 37, .tmp 3]),
  (29, code29, 13, [.tmp 2, .tmp 3]),
  (30, code30, 15, [.tmp 2, .tmp 3]),
  (31, code31, 12, [.tmp 2, .tmp 3]),
  (32, code32, 21, [.tmp 2, .tmp 3]),
  (33, code33, 9, [.tmp 2, .tmp 3]),
  (34, code34, 9, [.tmp 2, .tmp 3]),
  (35, code35, 64, [.tmp 2, .tmp 3]),
  (36, code36, 75, [.tmp 4]),
  (37, code37, 21, [.tmp 6]),
  (38, code38, 8, [.tmp 4]),
  (39, code39, 44, [.tmp 8]),
  (40, code40, 21, [.tmp 6]),
  (41, code41, 64, [.tmp 2]),
  (42, code42, 18, [.tmp 6]),
  (43, code43, 17, [.tmp 2]),
  (44, code44, 9, [.tmp 2]),
  (45, code45, 11, [.tmp 6]),
  (46, code46, 29, [.tmp 6]),
  (47, code47, 36, [.tmp 2]),
  (48, code48, 66, [.tmp 8]),
  (49, code49, 30, [.tmp 4, .tmp 5]),
  (50, code50, 8, [.tmp 4]),
  (51, code51, 25, []),
  (52, code52, 19, [.tmp 4, .tmp 5]),
  (53, code53, 8, [.tmp 2]),
  (54, code54, 14, [.tmp 2]),
  (55, code55, 9, [.tmp 4]),
  (56, code56, 25, [.tmp 6, .tmp 7]),
  (57, code57, 9, []),
  (58, code58, 8, [.tmp 6]),
  (59, code59, 9, [.tmp 6]),
  (60, code60, 50, [.tmp 4]),
  (61, code61, 34, [.tmp 4]),
  (62, code62, 8, [.tmp 4]),
  (63, code63, 17, [.tmp 4, .tmp 5]),
  (64, code64, 51, [.tmp 4, .tmp 5]),
  (65, code65, 18, [.tmp 4]),
  (66, code66, 20, []),
  (67, code67, 30, []),
  (68, code68, 9, [.tmp 4]),
  (69, code69, 8, [.tmp 3]),
  (70, code70, 35, [.tmp 2, .tmp 3]),
  (71, code71, 52, []),
  (72, code72, 19, [.tmp 2, .tmp 3]),
  (73, code73, 10, [.tmp 2]),
  (75, code75, 143, [.tmp 4]),
  (78, code78, 19, [.tmp 4]),
  (79, code79, 26, [.tmp 2]),
  (80, code80, 17, [.tmp 4]),
  (81, code81, 9, [.tmp 4]),
  (82, code82, 117, [.tmp 2, .tmp 3]),
  (83, code83, 8, [.tmp 4]),
  (85, code85, 6, [.tmp 2]),
  (86, code86, 81, [.tmp 4]),
  (87, code87, 55, [.tmp 4]),
  (89, code89, 39, [.tmp 2, .tmp 3]),
  (90, code90, 187, [.tmp 4]),
  (91, code91, 5, [.tmp 2]),
  (92, code92, 21, [.cell 2 111, .tmp 3]),
  (93, code93, 10, [.tmp 4]),
  (94, code94, 8, [.tmp 4]),
  (95, code95, 17, [.tmp 2])]
theorem fnD_ok : DOk P gl tau (Ax.look fnList) := dok
  (dok_cons (fun _ _ _ _ _ => inl3) 
  (dok_cons (fun _ _ _ _ _ => inl4) 
  (dok_cons (fun _ _ _ _ _ => inl5) 
  (dok_cons (fun _ _ _ _ _ => inl6) 
  (dok_cons (fun _ _ _ _ _ => inl7) 
  (dok_cons (fun _ _ _ _ _ => inl8) 
  (dok_cons (fun _ _ _ _ _ => inl9) 
  (dok_cons (fun _ _ _ _ _ => inl10) 
  (dok_cons (fun _ _ _ _ _ => inl11) 
  (dok_cons (fun _ _ _ _ _ => inl12) 
  (dok_cons (fun _ _ _ _ _ => inl13) 
  (dok_cons (fun _ _ _ _ _ => inl14) 
  (dok_cons (fun _ _ _ _ _ => inl15) 
  (dok_cons (fun _ _ _ _ _ => inl16) 
  (dok_cons (fun _ _ _ _ _ => inl17) 
  (dok_cons (fun _ _ _ _ _ => inl18) 
  (dok_cons (fun _ _ _ _ _ => inl19) 
  (dok_cons (fun _ _ _ _ _ => inl20) 
  (dok_cons (fun _ _ _ _ _ => inl21) 
  (dok_cons (fun _ _ _ _ _ => inl22) 
  (dok_cons (fun _ _ _ _ _ => inl23) 
  (dok_cons (fun _ _ _ _ _ => inl24) 
  (dok_cons (fun _ _ _ _ _ => inl25) 
  (dok_cons (fun _ _ _ _ _ => inl26) 
  (dok_cons (fun _ _ _ _ _ => inl27) 
  (dok_cons (fun _ _ _ _ _ => inl28) 
  (dok_cons (fun _ _ _ _ _ => inl29) 
  (dok_cons (fun _ _ _ _ _ => inl30) 
  (dok_cons (fun _ _ _ _ _ => inl31) 
  (dok_cons (fun _ _ _ _ _ => inl32) 
  (dok_cons (fun _ _ _ _ _ => inl33) 
  (dok_cons (fun _ _ _ _ _ => inl34) 
  (dok_cons (fun _ _ _ _ _ => inl35) 
  (dok_cons (fun _ _ _ _ _ => inl36) 
  (dok_cons (fun _ _ _ _ _ => inl37) 
  (dok_cons (fun _ _ _ _ _ => inl38) 
  (dok_cons (fun _ _ _ _ _ => inl39) 
  (dok_cons (fun _ _ _ _ _ => inl40) 
  (dok_cons (fun _ _ _ _ _ => inl41) 
  (dok_cons (fun _ _ _ _ _ => inl42) 
  (dok_cons (fun _ _ _ _ _ => inl43) 
  (dok_cons (fun _ _ _ _ _ => inl44) 
  (dok_cons (fun _ _ _ _ _ => inl45) 
  (dok_cons (fun _ _ _ _ _ => inl46) 
  (dok_cons (fun _ _ _ _ _ => inl47) 
  (dok_cons (fun _ _ _ _ _ => inl48) 
  (dok_cons (fun _ _ _ _ _ => inl49) 
  (dok_cons (fun _ _ _ _ _ => inl50) 
  (dok_cons (fun _ _ _ _ _ => inl51) 
  (dok_cons (fun _ _ _ _ _ => inl52) 
  (dok_cons (fun _ _ _ _ _ => inl53) 
  (dok_cons (fun _ _ _ _ _ => inl54) 
  (dok_cons (fun _ _ _ _ _ => inl55) 
  (dok_cons (fun _ _ _ _ _ => inl56) 
  (dok_cons (fun _ _ _ _ _ => inl57) 
  (dok_cons (fun _ _ _ _ _ => inl58) 
  (dok_cons (fun _ _ _ _ _ => inl59) 
  (dok_cons (fun _ _ _ _ _ => inl60) 
  (dok_cons (fun _ _ _ _ _ => inl61) 
  (dok_cons (fun _ _ _ _ _ => inl62) 
  (dok_cons (fun _ _ _ _ _ => inl63) 
  (dok_cons (fun _ _ _ _ _ => inl64) 
  (dok_cons (fun _ _ _ _ _ => inl65) 
  (dok_cons (fun _ _ _ _ _ => inl66) 
  (dok_cons (fun _ _ _ _ _ => inl67) 
  (dok_cons (fun _ _ _ _ _ => inl68) 
  (dok_cons (fun _ _ _ _ _ => inl69) 
  (dok_cons (fun _ _ _ _ _ => inl70) 
  (dok_cons (fun _ _ _ _ _ => inl71) 
  (dok_cons (fun _ _ _ _ _ => inl72) 
  (dok_cons (fun _ _ _ _ _ => inl73) 
  (dok_cons (fun _ _ _ _ _ => inl75) 
  (dok_cons (fun _ _ _ _ _ => inl78) 
  (dok_cons (fun _ _ _ _ _ => inl79) 
  (dok_cons (fun _ _ _ _ _ => inl80) 
  (dok_cons (fun _ _ _ _ _ => inl81) 
  (dok_cons (fun _ _ _ _ _ => inl82) 
  (dok_cons (fun _ _ _ _ _ => inl83) 
  (dok_cons (fun _ _ _ _ _ => inl85) 
  (dok_cons (fun _ _ _ _ _ => inl86) 
  (dok_cons (fun _ _ _ _ _ => inl87) 
  (dok_cons (fun _ _ _ _ _ => inl89) 
  (dok_cons (fun _ _ _ _ _ => inl90) 
  (dok_cons (fun _ _ _ _ _ => inl91) 
  (dok_cons (fun _ _ _ _ _ => inl92) 
  (dok_cons (fun _ _ _ _ _ => inl93) 
  (dok_cons (fun _ _ _ _ _ => inl94) 
  (dok_cons (fun _ _ _ _ _ => inl95) dok_nil))))))))))))))))))))))))))))))))))))))))))))))))))))))))))))))))))))))))))))))))))))))))
def jList : List (Nat × Jd) := [(3, ⟨[], [], [(3, [2]), (2, [2]), (1, [0, 5]), (0, [0])]⟩), (4, ⟨[], [], [(14, [6]), (13, [7, 8, 12]), (12, [6]), (11, [2, 7, 8, 72]), (10, [2, 7, 8, 11]), (9, [2, 7, 8, 40, 41, 42]), (8, [6]), (7, [2, 7, 8, 40, 41, 42, 48]), (6, [2, 7, 8, 10, 40, 41, 42]), (5, [2, 7, 8, 40, 41, 42, 43]), (4, [2, 7, 8, 40, 41, 42]), (3, [6]), (2, [2, 7, 8, 38]), (1, [2, 7, 8]), (0, [0, 1, 2])]⟩), (5, ⟨[(3, 11), (4, 12), (5, 13), (6, 14), (16, 21)], [], [(19, [8]), (18, [8]), (17, [1, 2, 3, 11, 12, 110, 166]), (16, [1, 2, 3, 11, 12, 17, 18, 20, 21, 110]), (15, [1, 2, 3, 11, 12, 16, 17, 18, 19, 20, 110]), (14, [1, 2, 3, 11, 12, 16, 17, 18, 19, 110]), (13, [1, 2, 3, 11, 12, 16, 17, 18, 110]), (12, [1, 2, 3, 11, 12, 16, 17, 110]), (11, [1, 2, 3, 11, 12, 110, 112]), (10, [1, 2, 3, 11, 12, 110]), (9, [8]), (8, [1, 2, 3, 11, 12, 107]), (7, [1, 2, 3, 9, 10, 11, 12, 14, 15]), (6, [1, 2, 3, 9, 10, 11, 12, 14]), (5, [1, 2, 3, 9, 10, 11, 12, 13]), (4, [1, 2, 3, 9, 10, 11, 12]), (3, [1, 2, 3, 9, 10, 11]), (2, [1, 2, 3, 9, 10]), (1, [1, 2, 3, 9]), (0, [0, 1, 2, 3])]⟩), (6, ⟨[], [], [(5, [4]), (4, [4]), (3, [6, 61]), (2, [5, 6]), (1, [0, 5]), (0, [0, 1])]⟩), (7, ⟨[], [], [(7, [2]), (6, [3, 4, 5, 6, 7, 8, 9, 10]), (5, [0, 3, 4, 5, 6, 7, 8]), (4, [0, 3, 4, 5, 6]), (3, [0, 3, 4]), (2, [2]), (1, [0, 13]), (0, [0])]⟩), (8, ⟨[], [], [(7, [4]), (6, [5, 6, 7, 8, 9, 10, 11, 12]), (5, [1, 5, 6, 7, 8, 9, 10]), (4, [1, 5, 6, 7, 8]), (3, [1, 2, 5, 6]), (2, [4]), (1, [1, 2, 20]), (0, [1, 2])]⟩), (9, ⟨[(7, 70), (12, 103)], [], [(15, [6]), (14, [7, 8, 13, 14, 19, 20]), (13, [6]), (12, [7, 8, 13, 14, 17, 103]), (11, [7, 8, 13, 14, 16, 17, 18]), (10, [7, 8, 13, 14, 15, 16]), (9, [7, 8, 13, 14]), (8, [6]), (7, [7, 8, 11, 70]), (6, [7, 8, 10, 11, 12]), (5, [7, 8, 9, 10]), (4, [6]), (3, [7, 8, 43]), (2, [7, 8]), (1, [2, 7]), (0, [0, 1, 2])]⟩), (10, ⟨[(10, 93)], [], [(14, [4]), (13, [4]), (12, [0, 1, 5, 6, 8, 112]), (11, [4]), (10, [0, 1, 5, 6, 8, 10, 11, 12, 13, 93]), (9, [4]), (8, [0, 1, 5, 6, 7, 8, 9, 10, 11, 12, 13, 74]), (7, [0, 1, 5, 6, 7, 8, 9, 10, 11, 12, 13]), (6, [0, 1, 5, 6, 7, 8, 9, 10, 11]), (5, [0, 1, 5, 6, 7, 8, 9]), (4, [0, 1, 5, 6, 7]), (3, [0, 1, 5]), (2, [4]), (1, [0, 1, 18]), (0, [0, 1])]⟩), (11, ⟨[(5, 34)], [], [(7, [2]), (6, [2]), (5, [3, 4, 5, 6, 34]), (4, [0, 3, 4, 5, 6]), (3, [0, 3, 4]), (2, [2]), (1, [0, 9]), (0, [0])]⟩), (12, ⟨[], [], [(1, [0]), (0, [])]⟩), (13, ⟨[], [], [(8, [2]), (3, [2, 3, 4, 9, 10, 11, 12, 13, 14]), (2, [2]), (1, [0, 2, 3, 4, 7, 10, 11, 12, 13, 14]), (0, [0, 2, 3, 4, 10, 11, 12, 13, 14])]⟩), (14, ⟨[], [], [(9, [2]), (4, [0, 3, 4]), (8, [0, 3, 4]), (7, [2]), (6, [0, 4, 20]), (5, [0, 3, 4, 14]), (3, [0, 3, 4, 8]), (2, [0, 3, 4]), (1, [0, 3]), (0, [0])]⟩), (15, ⟨[], [], [(1, [2]), (0, [0])]⟩), (16, ⟨[], [], [(8, [2]), (5, [0, 3]), (7, [2]), (6, [0, 3, 47]), (4, [0, 3, 21]), (3, [0, 3]), (2, [2]), (1, [0, 17]), (0, [0])]⟩), (17, ⟨[], [], [(1, [2]), (0, [0])]⟩), (18, ⟨[], [], [(1, [2]), (0, [0])]⟩), (19, ⟨[], [], [(1, [2]), (0, [0])]⟩), (20, ⟨[], [], [(1, [2]), (0, [0])]⟩), (21, ⟨[], [], [(11, [2]), (10, [2]), (9, [3, 27]), (8, [3, 10, 11, 12]), (7, [3, 10, 11, 12]), (6, [3, 5, 10, 11, 12]), (5, [3, 5, 10, 11, 12, 18]), (4, [3, 4, 5, 10, 11, 12]), (3, [3, 10, 11, 12, 13]), (2, [3, 10, 11, 12]), (1, [0, 3]), (0, [0])]⟩), (22, ⟨[], [], [(1, [4]), (0, [0, 1])]⟩), (23, ⟨[(9, 34), (19, 43)], [7, 10, 16, 32], [(41, [4]), (40, [7, 8, 9]), (39, [7, 8, 9, 10]), (38, [7, 8, 9, 113]), (37, [7, 8, 9]), (36, [0, 7, 8, 9]), (35, [0, 7, 8, 9]), (34, [0, 7, 8]), (33, [0, 7, 8, 104]), (32, [0, 7, 8]), (31, [0, 7, 8, 96]), (30, [0, 7, 8]), (21, [4]), (23, [4]), (25, [4]), (27, [4]), (29, [4]), (28, [0, 7, 85]), (26, [0, 7, 76]), (24, [0, 7, 67]), (22, [0, 7, 58]), (20, [0, 7, 49]), (19, [0, 7, 43]), (18, [0, 7, 42, 43]), (17, [0, 7, 42, 43]), (16, [0, 7, 42, 43]), (15, [0, 7, 42, 43]), (14, [0, 7, 42]), (13, [4]), (12, [0, 7, 40]), (11, [0, 7]), (10, [0, 6]), (9, [0, 6, 34]), (8, [0, 5, 6]), (7, [0, 1]), (6, [0, 1, 18]), (3, [4]), (5, [4]), (4, [0, 1, 14]), (2, [0, 1, 11, 12]), (1, [0, 1, 11]), (0, [0, 1])]⟩), (24, ⟨[(3, 23)], [], [(9, [6]), (4, [0, 1, 2, 7, 8]), (8, [0, 1, 2, 7, 8]), (7, [0, 1, 2, 7, 8, 9]), (6, [0, 1, 2, 7, 8, 9, 32]), (5, [0, 1, 2, 7, 8, 9]), (3, [0, 1, 2, 7, 8, 23]), (2, [0, 1, 2, 7, 8]), (1, [0, 1, 2, 7]), (0, [0, 1, 2])]⟩), (25, ⟨[(6, 2)], [], [(6, [2]), (3, [0, 3]), (5, [2]), (4, [0, 3, 15]), (2, [0, 3, 7]), (1, [0, 3]), (0, [0])]⟩), (26, ⟨[(5, 53), (12, 81), (19, 0)], [], [(19, [0]), (18, [9, 10, 11, 12, 13, 14, 15, 16]), (17, [9, 10, 11, 12, 13, 14]), (16, [9, 10, 11, 12]), (15, [9, 10]), (14, [60, 61, 62]), (13, [0]), (12, [60, 61, 62, 81]), (11, [6, 7, 8, 60, 61, 62]), (10, [6, 60, 61, 62]), (9, [60, 61, 62, 63]), (8, [60, 61, 62]), (7, [32, 33, 34]), (6, [0]), (5, [32, 33, 34, 53]), (4, [2, 3, 4, 32, 33, 34]), (3, [2, 32, 33, 34]), (2, [32, 33, 34, 35]), (1, [32, 33, 34]), (0, [])]⟩), (27, ⟨[], [], [(5, [2, 3]), (4, [2, 3]), (3, [0, 2, 10]), (2, [2, 3]), (1, [0, 2, 6]), (0, [0, 2])]⟩), (28, ⟨[], [], [(5, [2, 3]), (4, [2, 3]), (3, [0, 2, 19]), (2, [2, 3]), (1, [0, 2, 6]), (0, [0, 2])]⟩), (29, ⟨[], [], [(5, [2, 3]), (4, [2, 3]), (3, [0, 9]), (2, [2, 3]), (1, [0, 6]), (0, [0])]⟩), (30, ⟨[], [], [(5, [2, 3]), (4, [2, 3]), (3, [0, 11]), (2, [2, 3]), (1, [0, 6]), (0, [0])]⟩), (31, ⟨[], [], [(1, [2, 3]), (0, [1])]⟩), (32, ⟨[], [], [(3, [2, 3]), (2, [2, 3]), (1, [1, 13]), (0, [1])]⟩), (33, ⟨[], [], [(1, [2, 3]), (0, [0])]⟩), (34, ⟨[], [], [(3, [2, 3]), (2, [2, 3]), (1, [0, 6]), (0, [0])]⟩), (35, ⟨[(11, 23), (14, 36), (15, 43)], [], [(26, [2, 3]), (25, [4]), (24, [2, 3]), (23, [4, 8, 60]), (22, [0, 4, 5, 6, 7, 8, 16, 17]), (21, [0, 4, 5, 6, 7, 8, 16, 17]), (20, [2, 3]), (19, [0, 4, 5, 6, 7, 8, 16, 17]), (18, [2, 3]), (17, [0, 4, 5, 6, 7, 8, 16, 17, 52]), (16, [0, 4, 5, 6, 7, 8, 16, 17]), (15, [0, 4, 5, 6, 7, 8, 10, 16, 17, 43]), (14, [0, 4, 5, 6, 7, 8, 10, 16, 17, 36]), (13, [0, 4, 5, 6, 7, 8, 10, 16, 17, 33]), (12, [0, 4, 5, 6, 7, 8, 10, 16, 17, 30]), (11, [0, 4, 5, 6, 7, 8, 10, 16, 17, 23]), (10, [0, 4, 5, 6, 7, 8, 10, 16, 17]), (9, [0, 4, 5, 6, 7, 8, 9, 16, 17]), (8, [0, 4, 5, 6, 7, 8, 16, 17, 18]), (7, [0, 4, 5, 6, 7, 8, 16, 17]), (6, [0, 4, 5, 6, 7, 8]), (5, [0, 4, 5, 6, 7]), (4, [0, 4, 5]), (3, [0, 4]), (2, [2, 3]), (1, [0, 13]), (0, [0])]⟩), (36, ⟨[], [8], [(27, [4]), (26, [1, 8, 63, 64, 65]), (25, [1, 8, 63, 64, 65]), (24, [1, 8, 10, 63, 64, 65]), (23, [1, 8, 10, 63, 64, 65]), (22, [1, 8, 63, 64, 65, 66]), (21, [1, 8, 63, 64, 65]), (20, [0, 1, 8]), (19, [0, 1, 8]), (18, [0, 1, 5, 8]), (17, [0, 1, 5, 39, 40, 41]), (16, [0, 1, 5, 39, 40, 41]), (15, [0, 1, 5, 7, 39, 40, 41]), (14, [0, 1, 5, 7, 39, 40, 41, 49]), (13, [0, 1, 5, 7, 39, 40, 41]), (12, [0, 1, 5, 39, 40, 41, 42]), (11, [0, 1, 5, 39, 40, 41]), (10, [0, 1, 5]), (9, [0, 1, 5]), (8, [0, 1, 5, 29]), (7, [0, 1, 5, 22]), (6, [0, 1, 5]), (3, [4]), (5, [4]), (4, [0, 1, 15]), (2, [0, 1, 12, 13]), (1, [0, 1, 12]), (0, [0, 1])]⟩), (37, ⟨[], [], [(7, [6]), (6, [0, 1, 9, 10, 11]), (5, [6]), (4, [0, 1, 9, 10, 11, 19]), (3, [0, 1, 8, 9, 10, 11]), (2, [0, 1, 9, 10, 11, 12]), (1, [0, 1, 9, 10, 11]), (0, [0, 1, 2])]⟩), (38, ⟨[], [], [(1, [4]), (0, [0, 1])]⟩), (39, ⟨[(1, 19)], [], [(9, [8]), (8, [0, 3, 21, 22]), (7, [8]), (6, [0, 3, 21, 22, 42]), (5, [0, 3, 9, 21, 22]), (4, [0, 3, 21, 22, 23]), (3, [0, 3, 21, 22]), (2, [8]), (1, [0, 3, 19]), (0, [0, 1, 2, 3])]⟩), (40, ⟨[(1, 6)], [], [(1, [6]), (0, [0, 1, 2])]⟩), (41, ⟨[(1, 21)], [], [(8, [2]), (5, [0, 3]), (7, [2]), (6, [0, 3, 63]), (4, [0, 3, 25]), (3, [0, 3]), (2, [2]), (1, [0, 21]), (0, [0])]⟩), (42, ⟨[(1, 6)], [], [(1, [6]), (0, [0, 2])]⟩), (43, ⟨[(1, 2)], [], [(1, [2]), (0, [0])]⟩), (44, ⟨[(1, 2)], [], [(1, [2]), (0, [0])]⟩), (45, ⟨[], [], [(1, [6]), (0, [0, 1, 2])]⟩), (46, ⟨[(6, 6)], [], [(6, [6]), (3, [0, 1, 2, 7]), (5, [6]), (4, [0, 1, 2, 7, 18]), (2, [0, 1, 2, 7, 11]), (1, [0, 1, 2, 7]), (0, [0, 1, 2])]⟩), (47, ⟨[], [], [(12, [2]), (11, [2]), (10, [3, 34]), (9, [3, 11, 12, 13]), (8, [3, 11, 12, 13]), (7, [3, 5, 6, 11, 12, 13]), (6, [3, 5, 6, 11, 12, 13, 19]), (5, [3, 4, 5, 6, 11, 12, 13]), (4, [3, 4, 5, 11, 12, 13]), (3, [3, 11, 12, 13, 14]), (2, [3, 11, 12, 13]), (1, [0, 3]), (0, [0])]⟩), (48, ⟨[], [6], [(18, [8]), (17, [9, 10]), (16, [0, 1, 2, 3, 9, 10]), (15, [0, 1, 2, 3, 9, 10]), (14, [0, 1, 2, 3, 9, 10, 11]), (13, [0, 1, 2, 3, 9, 10, 11, 41]), (12, [0, 1, 2, 3, 9, 10, 11]), (11, [0, 1, 2, 3, 9, 10, 36]), (10, [0, 1, 2, 3, 9, 10]), (9, [0, 1, 2, 3, 9]), (8, [0, 1, 2, 3, 9]), (7, [0, 1, 2, 3]), (6, [0, 1, 2, 3]), (5, [0, 1, 2, 3, 20]), (4, [8]), (3, [0, 1, 2, 3, 15]), (2, [8]), (1, [0, 1, 2, 3, 13]), (0, [0, 1, 2, 3])]⟩), (49, ⟨[], [], [(4, [4, 5]), (3, [8, 9]), (2, [4, 5]), (1, [6, 7]), (0, [0, 1])]⟩), (50, ⟨[], [], [(1, [4]), (0, [0, 1])]⟩), (51, ⟨[], [2], [(4, []), (3, [0, 1, 21]), (2, [0, 1]), (1, [0, 1, 7]), (0, [0, 1])]⟩), (52, ⟨[], [], [(3, [4, 5]), (2, [1]), (1, [0, 1]), (0, [0, 1])]⟩), (53, ⟨[], [], [(1, [2]), (0, [0])]⟩), (54, ⟨[], [], [(1, [2]), (0, [0])]⟩), (55, ⟨[], [], [(1, [4]), (0, [1, 2])]⟩), (56, ⟨[], [], [(6, [6, 7]), (5, [6, 7]), (4, [8, 23]), (3, [8, 9]), (2, [6, 7]), (1, [0, 2, 13]), (0, [0, 1, 2])]⟩), (57, ⟨[], [], [(2, []), (1, [0, 2]), (0, [0, 1, 2, 3])]⟩), (58, ⟨[], [], [(1, [6]), (0, [3, 4, 5])]⟩), (59, ⟨[(1, 6)], [], [(1, [6]), (0, [2])]⟩), (60, ⟨[(2, 18)], [3], [(13, [4]), (12, [6]), (11, [0, 1, 6, 43]), (7, [0, 1, 6, 7]), (10, [0, 1, 6, 7]), (9, [0, 1, 6, 7, 9]), (8, [0, 1, 6, 7, 9]), (6, [0, 1, 6, 7, 25]), (5, [0, 1, 6, 7]), (4, [0, 1, 6]), (3, [0, 1]), (2, [0, 1, 5, 18]), (1, [0, 1, 5]), (0, [0, 1])]⟩), (61, ⟨[], [], [(10, [0, 1, 5]), (9, [0, 1, 5, 6]), (8, [4]), (7, [0, 1, 5, 6, 24]), (6, [0, 1, 5, 6]), (5, [0, 1, 5]), (4, [4]), (3, [0, 1, 15]), (2, [4]), (1, [0, 1, 9]), (0, [0, 1])]⟩), (62, ⟨[], [], [(1, [4]), (0, [0, 1])]⟩), (63, ⟨[], [], [(2, [4, 5]), (1, [6]), (0, [0, 1])]⟩), (64, ⟨[], [], [(11, [4, 5]), (10, [0, 1, 4]), (9, [0, 1, 7, 9, 12, 13]), (8, [0, 1, 6, 7, 9, 12, 13]), (7, [0, 1, 6, 7, 9, 11, 12]), (6, [0, 1, 6, 7, 9, 11]), (5, [0, 1, 6, 7, 8, 9, 10]), (4, [0, 1, 6, 7, 8, 9]), (3, [0, 1, 6, 7, 8]), (2, [0, 1, 6, 7]), (1, [0, 1, 6]), (0, [0, 1])]⟩), (65, ⟨[(1, 4)], [], [(1, [4]), (0, [0, 1])]⟩), (66, ⟨[], [], [(1, []), (2, [19]), (0, [0, 6])]⟩), (67, ⟨[], [], [(2, []), (1, [0, 4]), (0, [0, 4])]⟩), (68, ⟨[], [], [(1, [4]), (0, [0, 1])]⟩), (69, ⟨[], [], [(1, [3]), (0, [0, 1])]⟩), (70, ⟨[], [8], [(15, [2, 3]), (14, [2, 3]), (13, [4, 33]), (12, [4, 7, 8, 9]), (11, [4, 7, 8, 9]), (10, [4, 6, 7, 8, 9]), (9, [4, 6, 7, 8, 9, 25]), (8, [4, 6, 7, 8, 9]), (7, [4, 6, 7, 8, 9, 18]), (6, [2, 3]), (5, [4, 5, 6, 7, 8, 9, 16]), (4, [4, 5, 6, 7, 8, 9]), (3, [4, 7, 8, 9, 10]), (2, [4, 7, 8, 9]), (1, [0, 4]), (0, [0])]⟩), (71, ⟨[], [], [(10, []), (9, [0, 1, 2, 3]), (8, [0, 1, 2, 3, 7, 42]), (7, [0, 1, 2, 3, 7, 8]), (6, [0, 1, 2, 3, 7, 33]), (5, [0, 1, 2, 3, 7]), (4, [0, 2]), (3, [0, 2, 6, 25]), (2, [0, 2, 6]), (1, [0, 2, 14]), (0, [0, 1, 2, 3, 11])]⟩), (72, ⟨[(1, 10)], [], [(2, [2, 3]), (3, [2, 3]), (1, [0, 10]), (0, [0])]⟩), (73, ⟨[], [], [(4, [2]), (3, [2, 4]), (2, [2, 4, 6]), (1, [2, 4]), (0, [0, 2])]⟩), (75, ⟨[(2, 16), (8, 36), (21, 93), (30, 132)], [17], [(35, [4]), (29, [4]), (28, [4]), (27, [8, 12, 114]), (26, [8, 12]), (34, [4]), (33, [4]), (32, [8, 13, 139]), (31, [8, 13]), (30, [0, 1, 5, 6, 7, 8, 9, 10, 132]), (25, [0, 1, 5, 6, 7, 8, 9, 10, 107]), (24, [0, 1, 5, 6, 7, 8, 9, 10]), (23, [0, 1, 5, 6, 7, 8, 9, 10]), (22, [4]), (21, [0, 1, 5, 6, 7, 8, 9, 10, 93]), (20, [0, 1, 5, 6, 7, 8, 9, 10]), (19, [4]), (18, [0, 1, 5, 6, 7, 8, 9, 10, 11, 73]), (17, [0, 1, 5, 6, 7, 8, 9, 10, 11]), (16, [0, 1, 5, 6, 7, 8, 9, 10, 64]), (15, [0, 1, 5, 6, 7, 8, 9, 10, 59]), (14, [0, 1, 5, 6, 7, 8, 9, 10]), (13, [0, 1, 5, 6, 7, 8, 9]), (12, [0, 1, 5, 6, 7, 8]), (11, [0, 1, 5, 6, 7]), (10, [0, 1, 5, 6]), (3, [4]), (5, [4]), (7, [4]), (9, [4]), (8, [0, 1, 5, 36]), (6, [0, 1, 5, 31]), (4, [0, 1, 5, 24]), (2, [0, 1, 5, 16]), (1, [0, 1, 5]), (0, [0, 1])]⟩), (78, ⟨[], [], [(7, [4]), (6, [0, 1, 7, 8]), (5, [4]), (4, [0, 1, 5, 7, 8, 16]), (3, [0, 1, 5, 7, 8]), (2, [0, 1, 7, 8, 9]), (1, [0, 1, 7, 8]), (0, [0, 1])]⟩), (79, ⟨[(4, 24)], [], [(7, [2]), (6, [0, 5, 6]), (5, [2]), (4, [0, 5, 6, 24]), (3, [0, 3, 5, 6]), (2, [0, 5, 6, 7]), (1, [0, 5, 6]), (0, [0])]⟩), (80, ⟨[], [], [(3, [4]), (2, []), (1, [0, 1]), (0, [0, 1])]⟩), (81, ⟨[], [], [(1, [4]), (0, [0, 1])]⟩), (82, ⟨[(14, 57), (19, 75), (24, 98)], [], [(26, [2, 3]), (25, [2, 3]), (24, [5, 10, 11, 12, 98]), (23, [5, 10, 11, 12]), (22, [2, 3]), (21, [0, 5, 10, 11, 77]), (20, [2, 3]), (19, [0, 5, 8, 10, 11, 75]), (18, [0, 5, 8, 10, 11]), (17, [2, 3]), (16, [0, 5, 8, 10, 59]), (15, [2, 3]), (14, [0, 5, 8, 10, 57]), (13, [0, 5, 8, 9, 10]), (12, [2, 3]), (11, [0, 5, 8, 9, 45]), (10, [0, 4, 5, 8, 9]), (9, [0, 4, 5, 6, 8]), (8, [2, 3]), (7, [0, 7]), (6, [0, 4, 5, 6, 23]), (5, [0, 4, 5, 6]), (4, [0, 4, 5]), (3, [2, 3]), (2, [0, 4, 16]), (1, [0, 4]), (0, [0])]⟩), (83, ⟨[], [], [(1, [4]), (0, [0, 1])]⟩), (85, ⟨[], [], [(1, [2]), (0, [0])]⟩), (86, ⟨[(8, 39), (16, 77)], [], [(18, [4]), (17, [4]), (16, [0, 1, 5, 6, 7, 8, 10, 77]), (15, [0, 1, 5, 6, 7, 8, 10]), (14, [0, 1, 5, 6, 7, 8, 10]), (13, [0, 1, 5, 6, 7, 8, 10]), (12, [0, 1, 5, 6, 7, 8, 10]), (11, [0, 1, 5, 6, 7, 8, 10, 44]), (10, [0, 1, 5, 6, 7, 8, 10]), (9, [4]), (8, [0, 1, 5, 6, 7, 8, 39]), (6, [0, 1, 5, 6, 7, 8, 9]), (7, [0, 1, 5, 6, 7, 8, 9]), (5, [0, 1, 5, 6, 7, 8, 9, 20]), (4, [0, 1, 5, 6, 7, 8, 9]), (3, [0, 1, 5, 6, 7, 8]), (2, [0, 1, 5, 6, 7]), (1, [0, 1, 5, 6]), (0, [0, 1])]⟩), (87, ⟨[], [9], [(22, [4]), (21, [4]), (20, [1, 9, 45, 53]), (19, [1, 9, 10, 45]), (18, [1, 45, 46, 47]), (17, [1, 45]), (16, [4]), (13, [0, 6, 8]), (15, [4]), (14, [0, 6, 8, 42]), (12, [0, 6, 8, 36]), (11, [0, 6, 8]), (10, [0, 1, 6, 32]), (9, [0, 1, 6, 7]), (8, [0, 1, 26]), (7, [4]), (6, [0, 5]), (5, [0, 5, 20]), (4, [0, 5]), (3, [0, 1, 15]), (2, [4]), (1, [0, 1, 12]), (0, [0, 1])]⟩), (89, ⟨[], [], [(13, [2, 3]), (9, [4, 6, 7, 8]), (12, [4, 6, 7, 8]), (11, [4, 6, 7, 8]), (10, [4, 6, 7, 8, 30]), (8, [4, 6, 7, 8, 25]), (7, [4, 6, 7, 8]), (6, [0, 4, 6, 7]), (4, [0, 4, 5]), (5, [0, 4, 5]), (3, [0, 4, 5, 12]), (2, [0, 4, 5]), (1, [0, 4]), (0, [0])]⟩), (90, ⟨[(34, 160), (27, 139)], [7], [(35, [4]), (42, [4]), (41, [4]), (40, [5, 175, 181]), (39, [5, 6, 175]), (38, [175, 176, 177]), (37, [175]), (44, [4]), (33, [4]), (22, [4]), (21, [8, 9, 13, 108]), (20, [8, 9, 13]), (26, [0, 7, 8, 9, 14, 15]), (32, [4]), (30, [0, 7, 8, 9, 14, 15, 16]), (31, [0, 7, 8, 9, 14, 15, 16, 156]), (29, [0, 7, 8, 9, 14, 15, 16, 143]), (28, [0, 7, 8, 9, 14, 15, 16]), (27, [0, 7, 8, 9, 14, 15, 139]), (25, [0, 7, 8, 9, 14, 15, 124]), (24, [0, 7, 8, 9, 14, 15]), (23, [0, 7, 8, 9, 14]), (19, [4]), (18, [0, 7, 8, 9, 98]), (17, [0, 7, 8, 9, 10]), (16, [0, 7, 8, 9, 10]), (15, [4]), (13, [0, 7, 8, 9, 12]), (14, [0, 7, 8, 9, 12, 64]), (12, [0, 7, 8, 9, 12, 51]), (11, [0, 7, 8, 9, 12]), (10, [0, 7, 8, 9]), (9, [4]), (8, [0, 7, 8, 9, 11, 43]), (7, [0, 7, 8, 9, 11]), (6, [0, 7, 8, 9, 33]), (5, [0, 7, 8, 9, 26]), (4, [0, 7, 8, 9]), (3, [0, 7, 8, 9]), (2, [0, 7, 8]), (1, [0, 7]), (43, [0, 1, 183]), (36, [0, 1, 171]), (34, [0, 1, 160]), (0, [0, 1])]⟩), (91, ⟨[(1, 2)], [], [(1, [2]), (0, [0])]⟩), (92, ⟨[], [], [(8, [2, 3]), (3, [0, 2, 4]), (7, [0, 2, 4]), (6, [2, 3]), (5, [0, 2, 4, 5, 16]), (4, [0, 2, 4, 5]), (2, [0, 2, 4, 9]), (1, [0, 2, 4]), (0, [0, 2])]⟩), (93, ⟨[], [], [(1, [4]), (0, [0, 1])]⟩), (94, ⟨[], [], [(1, [4]), (0, [0, 1])]⟩), (95, ⟨[(1, 3), (3, 10)], [], [(5, [2]), (2, [2]), (4, [2]), (3, [10]), (1, [0, 3]), (0, [0])]⟩)]
/-- The functions, each with the tests of its regions and the shapes of its loops. -/
noncomputable def xd (tms : List (Nat × List (Nat × Nat × Tm))) (f : Nat) : Option XDesc :=
  match Ax.look fnList f with
  | some (c, nt, rs) => some (c, nt, rs, ⟨(Ax.look jList f).getD noJ, (Ax.look tms f).getD []⟩)
  | none => none

theorem xd_ok (tms : List (Nat × List (Nat × Nat × Tm))) : DXOk P gl tau (xd tms) := by
  intro f c nt res cx h J args H n R ha hp
  unfold xd at h
  split at h
  · rename_i c' nt' rs' hf
    cases h
    exact fnD_ok f c nt res hf J args H n R ha hp
  · cases h
end Go.Proofs.YtgmmcmfnniaekaaDoor
