/-
  The types and the functions of this seat, for the small abstract machine.
-/
import Derived.Test.YtdpednaafficmaaDoorAx27
import Derived.Test.YtdpednaafficmaaDoorProg
import Derived.KernelRfl
namespace Go.Proofs.YtdpednaafficmaaDoor
open Go.Ax
set_option linter.unusedVariables false
set_option maxRecDepth 100000

def tyList : List (Nat × TI) := [(1, ⟨.func, 1, 8, [.nilFunc], []⟩),
  (2, ⟨.int .i64, 1, 8, [.int .i64 (.lit 0)], []⟩),
  (3, ⟨.int .i64, 1, 8, [.int .i64 (.lit 0)], []⟩),
  (4, ⟨.bool, 1, 1, [.bool false], []⟩),
  (5, ⟨.int .u8, 1, 1, [.int .u8 (.lit 0)], []⟩),
  (6, ⟨.int .u8, 1, 1, [.int .u8 (.lit 0)], []⟩),
  (7, ⟨.struct [(0, 2), (1, 3), (2, 4), (3, 6)], 4, 24, [.int .i64 (.lit 0), .int .i64 (.lit 0), .bool false, .int .u8 (.lit 0)], []⟩),
  (8, ⟨.struct [(0, 2), (1, 3), (2, 4), (3, 6)], 4, 24, [.int .i64 (.lit 0), .int .i64 (.lit 0), .bool false, .int .u8 (.lit 0)], []⟩),
  (9, ⟨.string, 1, 16, [.str (.lit [])], []⟩),
  (10, ⟨.string, 1, 16, [.str (.lit [])], []⟩),
  (11, ⟨.string, 1, 16, [.str (.lit [])], []⟩),
  (12, ⟨.int .u64, 1, 8, [.int .u64 (.lit 0)], []⟩),
  (13, ⟨.struct [(0, 9), (1, 12)], 2, 24, [.str (.lit []), .int .u64 (.lit 0)], []⟩),
  (14, ⟨.struct [(0, 9), (1, 12)], 2, 24, [.str (.lit []), .int .u64 (.lit 0)], []⟩),
  (15, ⟨.ptr 200, 1, 8, [.nilptr], []⟩),
  (16, ⟨.ptr 203, 1, 8, [.nilptr], []⟩),
  (17, ⟨.ptr 210, 1, 8, [.nilptr], []⟩),
  (18, ⟨.struct [(0, 17)], 1, 8, [.nilptr], []⟩),
  (19, ⟨.struct [(0, 17)], 1, 8, [.nilptr], []⟩),
  (20, ⟨.iface, 1, 16, [.nilIface], []⟩),
  (21, ⟨.int .i32, 1, 4, [.int .i32 (.lit 0)], []⟩),
  (22, ⟨.struct [(0, 3), (1, 3), (2, 3)], 3, 24, [.int .i64 (.lit 0), .int .i64 (.lit 0), .int .i64 (.lit 0)], []⟩),
  (23, ⟨.struct [(0, 3), (1, 3), (2, 3)], 3, 24, [.int .i64 (.lit 0), .int .i64 (.lit 0), .int .i64 (.lit 0)], [.int .i64, .int .i64, .int .i64]⟩),
  (24, ⟨.func, 1, 8, [.nilFunc], []⟩),
  (25, ⟨.int .i64, 1, 8, [.int .i64 (.lit 0)], []⟩),
  (27, ⟨.func, 1, 8, [.nilFunc], []⟩),
  (29, ⟨.func, 1, 8, [.nilFunc], []⟩),
  (30, ⟨.func, 1, 8, [.nilFunc], []⟩),
  (31, ⟨.array 3 5, 3, 3, [.int .u8 (.lit 0), .int .u8 (.lit 0), .int .u8 (.lit 0)], []⟩),
  (32, ⟨.func, 1, 8, [.nilFunc], []⟩),
  (33, ⟨.func, 1, 8, [.nilFunc], []⟩),
  (34, ⟨.func, 1, 8, [.nilFunc], []⟩),
  (35, ⟨.slice 9, 1, 24, [.nil], []⟩),
  (36, ⟨.slice 3, 1, 24, [.nil], []⟩),
  (37, ⟨.func, 1, 8, [.nilFunc], []⟩),
  (38, ⟨.slice 5, 1, 24, [.nil], []⟩),
  (39, ⟨.func, 1, 8, [.nilFunc], []⟩),
  (40, ⟨.func, 1, 8, [.nilFunc], []⟩),
  (41, ⟨.int .u16, 1, 2, [.int .u16 (.lit 0)], []⟩),
  (42, ⟨.func, 1, 8, [.nilFunc], []⟩),
  (43, ⟨.slice 23, 1, 24, [.nil], []⟩),
  (44, ⟨.func, 1, 8, [.nilFunc], []⟩),
  (45, ⟨.func, 1, 8, [.nilFunc], []⟩),
  (47, ⟨.func, 1, 8, [.nilFunc], []⟩),
  (48, ⟨.func, 1, 8, [.nilFunc], []⟩),
  (49, ⟨.func, 1, 8, [.nilFunc], []⟩),
  (50, ⟨.func, 1, 8, [.nilFunc], []⟩),
  (51, ⟨.slice 54, 1, 24, [.nil], []⟩),
  (52, ⟨.func, 1, 8, [.nilFunc], []⟩),
  (53, ⟨.struct [(0, 2), (1, 4), (2, 9)], 3, 32, [.int .i64 (.lit 0), .bool false, .str (.lit [])], []⟩),
  (54, ⟨.struct [(0, 2), (1, 4), (2, 9)], 3, 32, [.int .i64 (.lit 0), .bool false, .str (.lit [])], [.int .i64, .bool, .string]⟩),
  (56, ⟨.func, 1, 8, [.nilFunc], []⟩),
  (57, ⟨.func, 1, 8, [.nilFunc], []⟩),
  (58, ⟨.func, 1, 8, [.nilFunc], []⟩),
  (59, ⟨.slice 38, 1, 24, [.nil], []⟩),
  (60, ⟨.func, 1, 8, [.nilFunc], []⟩),
  (61, ⟨.func, 1, 8, [.nilFunc], []⟩),
  (62, ⟨.func, 1, 8, [.nilFunc], []⟩),
  (63, ⟨.func, 1, 8, [.nilFunc], []⟩),
  (64, ⟨.func, 1, 8, [.nilFunc], []⟩),
  (65, ⟨.func, 1, 8, [.nilFunc], []⟩),
  (66, ⟨.func, 1, 8, [.nilFunc], []⟩),
  (67, ⟨.func, 1, 8, [.nilFunc], []⟩),
  (68, ⟨.slice 35, 1, 24, [.nil], []⟩),
  (69, ⟨.func, 1, 8, [.nilFunc], []⟩),
  (70, ⟨.func, 1, 8, [.nilFunc], []⟩),
  (71, ⟨.func, 1, 8, [.nilFunc], []⟩),
  (72, ⟨.func, 1, 8, [.nilFunc], []⟩),
  (73, ⟨.func, 1, 8, [.nilFunc], []⟩),
  (74, ⟨.func, 1, 8, [.nilFunc], []⟩),
  (75, ⟨.func, 1, 8, [.nilFunc], []⟩),
  (76, ⟨.struct [(0, 9), (1, 23), (4, 25)], 5, 48, [.str (.lit []), .int .i64 (.lit 0), .int .i64 (.lit 0), .int .i64 (.lit 0), .int .i64 (.lit 0)], []⟩),
  (77, ⟨.slice 76, 1, 24, [.nil], []⟩),
  (78, ⟨.struct [(0, 5), (1, 5)], 2, 2, [.int .u8 (.lit 0), .int .u8 (.lit 0)], []⟩),
  (79, ⟨.struct [(0, 5), (1, 5)], 2, 2, [.int .u8 (.lit 0), .int .u8 (.lit 0)], [.int .u8, .int .u8]⟩),
  (80, ⟨.func, 1, 8, [.nilFunc], []⟩),
  (81, ⟨.func, 1, 8, [.nilFunc], []⟩),
  (83, ⟨.func, 1, 8, [.nilFunc], []⟩),
  (85, ⟨.func, 1, 8, [.nilFunc], []⟩),
  (86, ⟨.func, 1, 8, [.nilFunc], []⟩),
  (87, ⟨.func, 1, 8, [.nilFunc], []⟩),
  (88, ⟨.struct [(0, 4), (1, 4), (2, 87)], 3, 16, [.bool false, .bool false, .nilFunc], []⟩),
  (89, ⟨.struct [(0, 4), (1, 4), (2, 87)], 3, 16, [.bool false, .bool false, .nilFunc], []⟩),
  (91, ⟨.func, 1, 8, [.nilFunc], []⟩),
  (92, ⟨.ptr 94, 1, 8, [.nilptr], []⟩),
  (93, ⟨.struct [(0, 92), (1, 38)], 2, 32, [.nilptr, .nil], []⟩),
  (94, ⟨.struct [(0, 92), (1, 38)], 2, 32, [.nilptr, .nil], []⟩),
  (95, ⟨.func, 1, 8, [.nilFunc], []⟩),
  (96, ⟨.iface, 1, 16, [.nilIface], []⟩),
  (97, ⟨.iface, 1, 16, [.nilIface], []⟩),
  (99, ⟨.func, 1, 8, [.nilFunc], []⟩),
  (100, ⟨.func, 1, 8, [.nilFunc], []⟩),
  (101, ⟨.func, 1, 8, [.nilFunc], []⟩),
  (102, ⟨.func, 1, 8, [.nilFunc], []⟩),
  (103, ⟨.func, 1, 8, [.nilFunc], []⟩),
  (104, ⟨.func, 1, 8, [.nilFunc], []⟩),
  (106, ⟨.func, 1, 8, [.nilFunc], []⟩),
  (107, ⟨.func, 1, 8, [.nilFunc], []⟩),
  (108, ⟨.func, 1, 8, [.nilFunc], []⟩),
  (110, ⟨.func, 1, 8, [.nilFunc], []⟩),
  (111, ⟨.func, 1, 8, [.nilFunc], []⟩),
  (112, ⟨.func, 1, 8, [.nilFunc], []⟩),
  (113, ⟨.func, 1, 8, [.nilFunc], []⟩),
  (114, ⟨.int .u64, 1, 8, [.int .u64 (.lit 0)], []⟩),
  (116, ⟨.func, 1, 8, [.nilFunc], []⟩),
  (117, ⟨.func, 1, 8, [.nilFunc], []⟩),
  (118, ⟨.func, 1, 8, [.nilFunc], []⟩),
  (119, ⟨.array 256 4, 256, 256, [.bool false, .bool false, .bool false, .bool false, .bool false, .bool false, .bool false, .bool false, .bool false, .bool false, .bool false, .bool false, .bool false, .bool false, .bool false, .bool false, .bool false, .bool false, .bool false, .bool false, .bool false, .bool false, .bool false, .bool false, .bool false, .bool false, .bool false, .bool false, .bool false, .bool false, .bool false, .bool false, .bool false, .bool false, .bool false, .bool false, .bool false, .bool false, .bool false, .bool false, .bool false, .bool false, .bool false, .bool false, .bool false, .bool false, .bool false, .bool false, .bool false, .bool false, .bool false, .bool false, .bool false, .bool false, .bool false, .bool false, .bool false, .bool false, .bool false, .bool false, .bool false, .bool false, .bool false, .bool false, .bool false, .bool false, .bool false, .bool false, .bool false, .bool false, .bool false, .bool false, .bool false, .bool false, .bool false, .bool false, .bool false, .bool false, .bool false, .bool false, .bool false, .bool false, .bool false, .bool false, .bool false, .bool false, .bool false, .bool false, .bool false, .bool false, .bool false, .bool false, .bool false, .bool false, .bool false, .bool false, .bool false, .bool false, .bool false, .bool false, .bool false, .bool false, .bool false, .bool false, .bool false, .bool false, .bool false, .bool false, .bool false, .bool false, .bool false, .bool false, .bool false, .bool false, .bool false, .bool false, .bool false, .bool false, .bool false, .bool false, .bool false, .bool false, .bool false, .bool false, .bool false, .bool false, .bool false, .bool false, .bool false, .bool false, .bool false, .bool false, .bool false, .bool false, .bool false, .bool false, .bool false, .bool false, .bool false, .bool false, .bool false, .bool false, .bool false, .bool false, .bool false, .bool false, .bool false, .bool false, .bool false, .bool false, .bool false, .bool false, .bool false, .bool false, .bool false, .bool false, .bool false, .bool false, .bool false, .bool false, .bool false, .bool false, .bool false, .bool false, .bool false, .bool false, .bool false, .bool false, .bool false, .bool false, .bool false, .bool false, .bool false, .bool false, .bool false, .bool false, .bool false, .bool false, .bool false, .bool false, .bool false, .bool false, .bool false, .bool false, .bool false, .bool false, .bool false, .bool false, .bool false, .bool false, .bool false, .bool false, .bool false, .bool false, .bool false, .bool false, .bool false, .bool false, .bool false, .bool false, .bool false, .bool false, .bool false, .bool false, .bool false, .bool false, .bool false, .bool false, .bool false, .bool false, .bool false, .bool false, .bool false, .bool false, .bool false, .bool false, .bool false, .bool false, .bool false, .bool false, .bool false, .bool false, .bool false, .bool false, .bool false, .bool false, .bool false, .bool false, .bool false, .bool false, .bool false, .bool false, .bool false, .bool false, .bool false, .bool false, .bool false, .bool false, .bool false, .bool false, .bool false, .bool false, .bool false, .bool false, .bool false, .bool false, .bool false, .bool false, .bool false, .bool false, .bool false, .bool false, .bool false, .bool false, .bool false, .bool false], []⟩),
  (120, ⟨.array 256 4, 256, 256, [.bool false, .bool false, .bool false, .bool false, .bool false, .bool false, .bool false, .bool false, .bool false, .bool false, .bool false, .bool false, .bool false, .bool false, .bool false, .bool false, .bool false, .bool false, .bool false, .bool false, .bool false, .bool false, .bool false, .bool false, .bool false, .bool false, .bool false, .bool false, .bool false, .bool false, .bool false, .bool false, .bool false, .bool false, .bool false, .bool false, .bool false, .bool false, .bool false, .bool false, .bool false, .bool false, .bool false, .bool false, .bool false, .bool false, .bool false, .bool false, .bool false, .bool false, .bool false, .bool false, .bool false, .bool false, .bool false, .bool false, .bool false, .bool false, .bool false, .bool false, .bool false, .bool false, .bool false, .bool false, .bool false, .bool false, .bool false, .bool false, .bool false, .bool false, .bool false, .bool false, .bool false, .bool false, .bool false, .bool false, .bool false, .bool false, .bool false, .bool false, .bool false, .bool false, .bool false, .bool false, .bool false, .bool false, .bool false, .bool false, .bool false, .bool false, .bool false, .bool false, .bool false, .bool false, .bool false, .bool false, .bool false, .bool false, .bool false, .bool false, .bool false, .bool false, .bool false, .bool false, .bool false, .bool false, .bool false, .bool false, .bool false, .bool false, .bool false, .bool false, .bool false, .bool false, .bool false, .bool false, .bool false, .bool false, .bool false, .bool false, .bool false, .bool false, .bool false, .bool false, .bool false, .bool false, .bool false, .bool false, .bool false, .bool false, .bool false, .bool false, .bool false, .bool false, .bool false, .bool false, .bool false, .bool false, .bool false, .bool false, .bool false, .bool false, .bool false, .bool false, .bool false, .bool false, .bool false, .bool false, .bool false, .bool false, .bool false, .bool false, .bool false, .bool false, .bool false, .bool false, .bool false, .bool false, .bool false, .bool false, .bool false, .bool false, .bool false, .bool false, .bool false, .bool false, .bool false, .bool false, .bool false, .bool false, .bool false, .bool false, .bool false, .bool false, .bool false, .bool false, .bool false, .bool false, .bool false, .bool false, .bool false, .bool false, .bool false, .bool false, .bool false, .bool false, .bool false, .bool false, .bool false, .bool false, .bool false, .bool false, .bool false, .bool false, .bool false, .bool false, .bool false, .bool false, .bool false, .bool false, .bool false, .bool false, .bool false, .bool false, .bool false, .bool false, .bool false, .bool false, .bool false, .bool false, .bool false, .bool false, .bool false, .bool false, .bool false, .bool false, .bool false, .bool false, .bool false, .bool false, .bool false, .bool false, .bool false, .bool false, .bool false, .bool false, .bool false, .bool false, .bool false, .bool false, .bool false, .bool false, .bool false, .bool false, .bool false, .bool false, .bool false, .bool false, .bool false, .bool false, .bool false, .bool false, .bool false, .bool false, .bool false, .bool false, .bool false, .bool false, .bool false, .bool false, .bool false, .bool false, .bool false, .bool false, .bool false, .bool false], []⟩),
  (122, ⟨.func, 1, 8, [.nilFunc], []⟩),
  (123, ⟨.func, 1, 8, [.nilFunc], []⟩),
  (125, ⟨.func, 1, 8, [.nilFunc], []⟩),
  (126, ⟨.func, 1, 8, [.nilFunc], []⟩),
  (127, ⟨.array 12 9, 12, 192, [.str (.lit []), .str (.lit []), .str (.lit []), .str (.lit []), .str (.lit []), .str (.lit []), .str (.lit []), .str (.lit []), .str (.lit []), .str (.lit []), .str (.lit []), .str (.lit [])], []⟩),
  (128, ⟨.array 12 9, 12, 192, [.str (.lit []), .str (.lit []), .str (.lit []), .str (.lit []), .str (.lit []), .str (.lit []), .str (.lit []), .str (.lit []), .str (.lit []), .str (.lit []), .str (.lit []), .str (.lit [])], []⟩),
  (129, ⟨.func, 1, 8, [.nilFunc], []⟩),
  (130, ⟨.func, 1, 8, [.nilFunc], []⟩),
  (131, ⟨.func, 1, 8, [.nilFunc], []⟩),
  (132, ⟨.func, 1, 8, [.nilFunc], []⟩),
  (133, ⟨.func, 1, 8, [.nilFunc], []⟩),
  (134, ⟨.array 5 89, 15, 80, [.bool false, .bool false, .nilFunc, .bool false, .bool false, .nilFunc, .bool false, .bool false, .nilFunc, .bool false, .bool false, .nilFunc, .bool false, .bool false, .nilFunc], []⟩),
  (135, ⟨.func, 1, 8, [.nilFunc], []⟩),
  (136, ⟨.ptr 5, 1, 8, [.nilptr], []⟩),
  (137, ⟨.func, 1, 8, [.nilFunc], []⟩),
  (138, ⟨.func, 1, 8, [.nilFunc], []⟩),
  (139, ⟨.func, 1, 8, [.nilFunc], []⟩),
  (140, ⟨.func, 1, 8, [.nilFunc], []⟩),
  (141, ⟨.func, 1, 8, [.nilFunc], []⟩),
  (142, ⟨.func, 1, 8, [.nilFunc], []⟩),
  (143, ⟨.func, 1, 8, [.nilFunc], []⟩),
  (144, ⟨.int .u32, 1, 4, [.int .u32 (.lit 0)], []⟩),
  (146, ⟨.func, 1, 8, [.nilFunc], []⟩),
  (147, ⟨.int .u64, 1, 8, [.int .u64 (.lit 0)], []⟩),
  (149, ⟨.func, 1, 8, [.nilFunc], []⟩),
  (150, ⟨.func, 1, 8, [.nilFunc], []⟩),
  (151, ⟨.ptr 120, 1, 8, [.nilptr], []⟩),
  (152, ⟨.array 128 41, 128, 256, [.int .u16 (.lit 0), .int .u16 (.lit 0), .int .u16 (.lit 0), .int .u16 (.lit 0), .int .u16 (.lit 0), .int .u16 (.lit 0), .int .u16 (.lit 0), .int .u16 (.lit 0), .int .u16 (.lit 0), .int .u16 (.lit 0), .int .u16 (.lit 0), .int .u16 (.lit 0), .int .u16 (.lit 0), .int .u16 (.lit 0), .int .u16 (.lit 0), .int .u16 (.lit 0), .int .u16 (.lit 0), .int .u16 (.lit 0), .int .u16 (.lit 0), .int .u16 (.lit 0), .int .u16 (.lit 0), .int .u16 (.lit 0), .int .u16 (.lit 0), .int .u16 (.lit 0), .int .u16 (.lit 0), .int .u16 (.lit 0), .int .u16 (.lit 0), .int .u16 (.lit 0), .int .u16 (.lit 0), .int .u16 (.lit 0), .int .u16 (.lit 0), .int .u16 (.lit 0), .int .u16 (.lit 0), .int .u16 (.lit 0), .int .u16 (.lit 0), .int .u16 (.lit 0), .int .u16 (.lit 0), .int .u16 (.lit 0), .int .u16 (.lit 0), .int .u16 (.lit 0), .int .u16 (.lit 0), .int .u16 (.lit 0), .int .u16 (.lit 0), .int .u16 (.lit 0), .int .u16 (.lit 0), .int .u16 (.lit 0), .int .u16 (.lit 0), .int .u16 (.lit 0), .int .u16 (.lit 0), .int .u16 (.lit 0), .int .u16 (.lit 0), .int .u16 (.lit 0), .int .u16 (.lit 0), .int .u16 (.lit 0), .int .u16 (.lit 0), .int .u16 (.lit 0), .int .u16 (.lit 0), .int .u16 (.lit 0), .int .u16 (.lit 0), .int .u16 (.lit 0), .int .u16 (.lit 0), .int .u16 (.lit 0), .int .u16 (.lit 0), .int .u16 (.lit 0), .int .u16 (.lit 0), .int .u16 (.lit 0), .int .u16 (.lit 0), .int .u16 (.lit 0), .int .u16 (.lit 0), .int .u16 (.lit 0), .int .u16 (.lit 0), .int .u16 (.lit 0), .int .u16 (.lit 0), .int .u16 (.lit 0), .int .u16 (.lit 0), .int .u16 (.lit 0), .int .u16 (.lit 0), .int .u16 (.lit 0), .int .u16 (.lit 0), .int .u16 (.lit 0), .int .u16 (.lit 0), .int .u16 (.lit 0), .int .u16 (.lit 0), .int .u16 (.lit 0), .int .u16 (.lit 0), .int .u16 (.lit 0), .int .u16 (.lit 0), .int .u16 (.lit 0), .int .u16 (.lit 0), .int .u16 (.lit 0), .int .u16 (.lit 0), .int .u16 (.lit 0), .int .u16 (.lit 0), .int .u16 (.lit 0), .int .u16 (.lit 0), .int .u16 (.lit 0), .int .u16 (.lit 0), .int .u16 (.lit 0), .int .u16 (.lit 0), .int .u16 (.lit 0), .int .u16 (.lit 0), .int .u16 (.lit 0), .int .u16 (.lit 0), .int .u16 (.lit 0), .int .u16 (.lit 0), .int .u16 (.lit 0), .int .u16 (.lit 0), .int .u16 (.lit 0), .int .u16 (.lit 0), .int .u16 (.lit 0), .int .u16 (.lit 0), .int .u16 (.lit 0), .int .u16 (.lit 0), .int .u16 (.lit 0), .int .u16 (.lit 0), .int .u16 (.lit 0), .int .u16 (.lit 0), .int .u16 (.lit 0), .int .u16 (.lit 0), .int .u16 (.lit 0), .int .u16 (.lit 0), .int .u16 (.lit 0), .int .u16 (.lit 0), .int .u16 (.lit 0), .int .u16 (.lit 0), .int .u16 (.lit 0), .int .u16 (.lit 0), .int .u16 (.lit 0)], []⟩),
  (153, ⟨.slice 155, 1, 24, [.nil], []⟩),
  (154, ⟨.struct [(0, 41), (1, 41)], 2, 4, [.int .u16 (.lit 0), .int .u16 (.lit 0)], []⟩),
  (155, ⟨.struct [(0, 41), (1, 41)], 2, 4, [.int .u16 (.lit 0), .int .u16 (.lit 0)], []⟩),
  (156, ⟨.ptr 184, 1, 8, [.nilptr], []⟩),
  (157, ⟨.func, 1, 8, [.nilFunc], []⟩),
  (158, ⟨.slice 184, 1, 24, [.nil], []⟩),
  (159, ⟨.func, 1, 8, [.nilFunc], []⟩),
  (160, ⟨.func, 1, 8, [.nilFunc], []⟩),
  (161, ⟨.func, 1, 8, [.nilFunc], []⟩),
  (162, ⟨.func, 1, 8, [.nilFunc], []⟩),
  (163, ⟨.func, 1, 8, [.nilFunc], []⟩),
  (164, ⟨.func, 1, 8, [.nilFunc], []⟩),
  (165, ⟨.func, 1, 8, [.nilFunc], []⟩),
  (167, ⟨.func, 1, 8, [.nilFunc], []⟩),
  (168, ⟨.func, 1, 8, [.nilFunc], []⟩),
  (169, ⟨.func, 1, 8, [.nilFunc], []⟩),
  (171, ⟨.func, 1, 8, [.nilFunc], []⟩),
  (172, ⟨.func, 1, 8, [.nilFunc], []⟩),
  (173, ⟨.func, 1, 8, [.nilFunc], []⟩),
  (174, ⟨.func, 1, 8, [.nilFunc], []⟩),
  (175, ⟨.func, 1, 8, [.nilFunc], []⟩),
  (176, ⟨.func, 1, 8, [.nilFunc], []⟩),
  (177, ⟨.array 256 5, 256, 256, [.int .u8 (.lit 0), .int .u8 (.lit 0), .int .u8 (.lit 0), .int .u8 (.lit 0), .int .u8 (.lit 0), .int .u8 (.lit 0), .int .u8 (.lit 0), .int .u8 (.lit 0), .int .u8 (.lit 0), .int .u8 (.lit 0), .int .u8 (.lit 0), .int .u8 (.lit 0), .int .u8 (.lit 0), .int .u8 (.lit 0), .int .u8 (.lit 0), .int .u8 (.lit 0), .int .u8 (.lit 0), .int .u8 (.lit 0), .int .u8 (.lit 0), .int .u8 (.lit 0), .int .u8 (.lit 0), .int .u8 (.lit 0), .int .u8 (.lit 0), .int .u8 (.lit 0), .int .u8 (.lit 0), .int .u8 (.lit 0), .int .u8 (.lit 0), .int .u8 (.lit 0), .int .u8 (.lit 0), .int .u8 (.lit 0), .int .u8 (.lit 0), .int .u8 (.lit 0), .int .u8 (.lit 0), .int .u8 (.lit 0), .int .u8 (.lit 0), .int .u8 (.lit 0), .int .u8 (.lit 0), .int .u8 (.lit 0), .int .u8 (.lit 0), .int .u8 (.lit 0), .int .u8 (.lit 0), .int .u8 (.lit 0), .int .u8 (.lit 0), .int .u8 (.lit 0), .int .u8 (.lit 0), .int .u8 (.lit 0), .int .u8 (.lit 0), .int .u8 (.lit 0), .int .u8 (.lit 0), .int .u8 (.lit 0), .int .u8 (.lit 0), .int .u8 (.lit 0), .int .u8 (.lit 0), .int .u8 (.lit 0), .int .u8 (.lit 0), .int .u8 (.lit 0), .int .u8 (.lit 0), .int .u8 (.lit 0), .int .u8 (.lit 0), .int .u8 (.lit 0), .int .u8 (.lit 0), .int .u8 (.lit 0), .int .u8 (.lit 0), .int .u8 (.lit 0), .int .u8 (.lit 0), .int .u8 (.lit 0), .int .u8 (.lit 0), .int .u8 (.lit 0), .int .u8 (.lit 0), .int .u8 (.lit 0), .int .u8 (.lit 0), .int .u8 (.lit 0), .int .u8 (.lit 0), .int .u8 (.lit 0), .int .u8 (.lit 0), .int .u8 (.lit 0), .int .u8 (.lit 0), .int .u8 (.lit 0), .int .u8 (.lit 0), .int .u8 (.lit 0), .int .u8 (.lit 0), .int .u8 (.lit 0), .int .u8 (.lit 0), .int .u8 (.lit 0), .int .u8 (.lit 0), .int .u8 (.lit 0), .int .u8 (.lit 0), .int .u8 (.lit 0), .int .u8 (.lit 0), .int .u8 (.lit 0), .int .u8 (.lit 0), .int .u8 (.lit 0), .int .u8 (.lit 0), .int .u8 (.lit 0), .int .u8 (.lit 0), .int .u8 (.lit 0), .int .u8 (.lit 0), .int .u8 (.lit 0), .int .u8 (.lit 0), .int .u8 (.lit 0), .int .u8 (.lit 0), .int .u8 (.lit 0), .int .u8 (.lit 0), .int .u8 (.lit 0), .int .u8 (.lit 0), .int .u8 (.lit 0), .int .u8 (.lit 0), .int .u8 (.lit 0), .int .u8 (.lit 0), .int .u8 (.lit 0), .int .u8 (.lit 0), .int .u8 (.lit 0), .int .u8 (.lit 0), .int .u8 (.lit 0), .int .u8 (.lit 0), .int .u8 (.lit 0), .int .u8 (.lit 0), .int .u8 (.lit 0), .int .u8 (.lit 0), .int .u8 (.lit 0), .int .u8 (.lit 0), .int .u8 (.lit 0), .int .u8 (.lit 0), .int .u8 (.lit 0), .int .u8 (.lit 0), .int .u8 (.lit 0), .int .u8 (.lit 0), .int .u8 (.lit 0), .int .u8 (.lit 0), .int .u8 (.lit 0), .int .u8 (.lit 0), .int .u8 (.lit 0), .int .u8 (.lit 0), .int .u8 (.lit 0), .int .u8 (.lit 0), .int .u8 (.lit 0), .int .u8 (.lit 0), .int .u8 (.lit 0), .int .u8 (.lit 0), .int .u8 (.lit 0), .int .u8 (.lit 0), .int .u8 (.lit 0), .int .u8 (.lit 0), .int .u8 (.lit 0), .int .u8 (.lit 0), .int .u8 (.lit 0), .int .u8 (.lit 0), .int .u8 (.lit 0), .int .u8 (.lit 0), .int .u8 (.lit 0), .int .u8 (.lit 0), .int .u8 (.lit 0), .int .u8 (.lit 0), .int .u8 (.lit 0), .int .u8 (.lit 0), .int .u8 (.lit 0), .int .u8 (.lit 0), .int .u8 (.lit 0), .int .u8 (.lit 0), .int .u8 (.lit 0), .int .u8 (.lit 0), .int .u8 (.lit 0), .int .u8 (.lit 0), .int .u8 (.lit 0), .int .u8 (.lit 0), .int .u8 (.lit 0), .int .u8 (.lit 0), .int .u8 (.lit 0), .int .u8 (.lit 0), .int .u8 (.lit 0), .int .u8 (.lit 0), .int .u8 (.lit 0), .int .u8 (.lit 0), .int .u8 (.lit 0), .int .u8 (.lit 0), .int .u8 (.lit 0), .int .u8 (.lit 0), .int .u8 (.lit 0), .int .u8 (.lit 0), .int .u8 (.lit 0), .int .u8 (.lit 0), .int .u8 (.lit 0), .int .u8 (.lit 0), .int .u8 (.lit 0), .int .u8 (.lit 0), .int .u8 (.lit 0), .int .u8 (.lit 0), .int .u8 (.lit 0), .int .u8 (.lit 0), .int .u8 (.lit 0), .int .u8 (.lit 0), .int .u8 (.lit 0), .int .u8 (.lit 0), .int .u8 (.lit 0), .int .u8 (.lit 0), .int .u8 (.lit 0), .int .u8 (.lit 0), .int .u8 (.lit 0), .int .u8 (.lit 0), .int .u8 (.lit 0), .int .u8 (.lit 0), .int .u8 (.lit 0), .int .u8 (.lit 0), .int .u8 (.lit 0), .int .u8 (.lit 0), .int .u8 (.lit 0), .int .u8 (.lit 0), .int .u8 (.lit 0), .int .u8 (.lit 0), .int .u8 (.lit 0), .int .u8 (.lit 0), .int .u8 (.lit 0), .int .u8 (.lit 0), .int .u8 (.lit 0), .int .u8 (.lit 0), .int .u8 (.lit 0), .int .u8 (.lit 0), .int .u8 (.lit 0), .int .u8 (.lit 0), .int .u8 (.lit 0), .int .u8 (.lit 0), .int .u8 (.lit 0), .int .u8 (.lit 0), .int .u8 (.lit 0), .int .u8 (.lit 0), .int .u8 (.lit 0), .int .u8 (.lit 0), .int .u8 (.lit 0), .int .u8 (.lit 0), .int .u8 (.lit 0), .int .u8 (.lit 0), .int .u8 (.lit 0), .int .u8 (.lit 0), .int .u8 (.lit 0), .int .u8 (.lit 0), .int .u8 (.lit 0), .int .u8 (.lit 0), .int .u8 (.lit 0), .int .u8 (.lit 0), .int .u8 (.lit 0), .int .u8 (.lit 0), .int .u8 (.lit 0), .int .u8 (.lit 0), .int .u8 (.lit 0), .int .u8 (.lit 0), .int .u8 (.lit 0), .int .u8 (.lit 0), .int .u8 (.lit 0), .int .u8 (.lit 0), .int .u8 (.lit 0), .int .u8 (.lit 0), .int .u8 (.lit 0), .int .u8 (.lit 0), .int .u8 (.lit 0), .int .u8 (.lit 0), .int .u8 (.lit 0)], []⟩),
  (178, ⟨.struct [(0, 5), (1, 5)], 2, 2, [.int .u8 (.lit 0), .int .u8 (.lit 0)], []⟩),
  (179, ⟨.struct [(0, 5), (1, 5)], 2, 2, [.int .u8 (.lit 0), .int .u8 (.lit 0)], []⟩),
  (180, ⟨.array 16 179, 32, 32, [.int .u8 (.lit 0), .int .u8 (.lit 0), .int .u8 (.lit 0), .int .u8 (.lit 0), .int .u8 (.lit 0), .int .u8 (.lit 0), .int .u8 (.lit 0), .int .u8 (.lit 0), .int .u8 (.lit 0), .int .u8 (.lit 0), .int .u8 (.lit 0), .int .u8 (.lit 0), .int .u8 (.lit 0), .int .u8 (.lit 0), .int .u8 (.lit 0), .int .u8 (.lit 0), .int .u8 (.lit 0), .int .u8 (.lit 0), .int .u8 (.lit 0), .int .u8 (.lit 0), .int .u8 (.lit 0), .int .u8 (.lit 0), .int .u8 (.lit 0), .int .u8 (.lit 0), .int .u8 (.lit 0), .int .u8 (.lit 0), .int .u8 (.lit 0), .int .u8 (.lit 0), .int .u8 (.lit 0), .int .u8 (.lit 0), .int .u8 (.lit 0), .int .u8 (.lit 0)], []⟩),
  (181, ⟨.array 3 21, 3, 12, [.int .i32 (.lit 0), .int .i32 (.lit 0), .int .i32 (.lit 0)], []⟩),
  (182, ⟨.array 3 21, 3, 12, [.int .i32 (.lit 0), .int .i32 (.lit 0), .int .i32 (.lit 0)], []⟩),
  (183, ⟨.struct [(0, 144), (1, 144), (2, 182)], 5, 20, [.int .u32 (.lit 0), .int .u32 (.lit 0), .int .i32 (.lit 0), .int .i32 (.lit 0), .int .i32 (.lit 0)], []⟩),
  (184, ⟨.struct [(0, 144), (1, 144), (2, 182)], 5, 20, [.int .u32 (.lit 0), .int .u32 (.lit 0), .int .i32 (.lit 0), .int .i32 (.lit 0), .int .i32 (.lit 0)], []⟩),
  (185, ⟨.func, 1, 8, [.nilFunc], []⟩),
  (186, ⟨.array 24 5, 24, 24, [.int .u8 (.lit 0), .int .u8 (.lit 0), .int .u8 (.lit 0), .int .u8 (.lit 0), .int .u8 (.lit 0), .int .u8 (.lit 0), .int .u8 (.lit 0), .int .u8 (.lit 0), .int .u8 (.lit 0), .int .u8 (.lit 0), .int .u8 (.lit 0), .int .u8 (.lit 0), .int .u8 (.lit 0), .int .u8 (.lit 0), .int .u8 (.lit 0), .int .u8 (.lit 0), .int .u8 (.lit 0), .int .u8 (.lit 0), .int .u8 (.lit 0), .int .u8 (.lit 0), .int .u8 (.lit 0), .int .u8 (.lit 0), .int .u8 (.lit 0), .int .u8 (.lit 0)], []⟩),
  (187, ⟨.func, 1, 8, [.nilFunc], []⟩),
  (188, ⟨.func, 1, 8, [.nilFunc], []⟩),
  (190, ⟨.func, 1, 8, [.nilFunc], []⟩),
  (191, ⟨.func, 1, 8, [.nilFunc], []⟩),
  (192, ⟨.func, 1, 8, [.nilFunc], []⟩),
  (193, ⟨.array 20 147, 20, 160, [.int .u64 (.lit 0), .int .u64 (.lit 0), .int .u64 (.lit 0), .int .u64 (.lit 0), .int .u64 (.lit 0), .int .u64 (.lit 0), .int .u64 (.lit 0), .int .u64 (.lit 0), .int .u64 (.lit 0), .int .u64 (.lit 0), .int .u64 (.lit 0), .int .u64 (.lit 0), .int .u64 (.lit 0), .int .u64 (.lit 0), .int .u64 (.lit 0), .int .u64 (.lit 0), .int .u64 (.lit 0), .int .u64 (.lit 0), .int .u64 (.lit 0), .int .u64 (.lit 0)], []⟩),
  (194, ⟨.array 65 5, 65, 65, [.int .u8 (.lit 0), .int .u8 (.lit 0), .int .u8 (.lit 0), .int .u8 (.lit 0), .int .u8 (.lit 0), .int .u8 (.lit 0), .int .u8 (.lit 0), .int .u8 (.lit 0), .int .u8 (.lit 0), .int .u8 (.lit 0), .int .u8 (.lit 0), .int .u8 (.lit 0), .int .u8 (.lit 0), .int .u8 (.lit 0), .int .u8 (.lit 0), .int .u8 (.lit 0), .int .u8 (.lit 0), .int .u8 (.lit 0), .int .u8 (.lit 0), .int .u8 (.lit 0), .int .u8 (.lit 0), .int .u8 (.lit 0), .int .u8 (.lit 0), .int .u8 (.lit 0), .int .u8 (.lit 0), .int .u8 (.lit 0), .int .u8 (.lit 0), .int .u8 (.lit 0), .int .u8 (.lit 0), .int .u8 (.lit 0), .int .u8 (.lit 0), .int .u8 (.lit 0), .int .u8 (.lit 0), .int .u8 (.lit 0), .int .u8 (.lit 0), .int .u8 (.lit 0), .int .u8 (.lit 0), .int .u8 (.lit 0), .int .u8 (.lit 0), .int .u8 (.lit 0), .int .u8 (.lit 0), .int .u8 (.lit 0), .int .u8 (.lit 0), .int .u8 (.lit 0), .int .u8 (.lit 0), .int .u8 (.lit 0), .int .u8 (.lit 0), .int .u8 (.lit 0), .int .u8 (.lit 0), .int .u8 (.lit 0), .int .u8 (.lit 0), .int .u8 (.lit 0), .int .u8 (.lit 0), .int .u8 (.lit 0), .int .u8 (.lit 0), .int .u8 (.lit 0), .int .u8 (.lit 0), .int .u8 (.lit 0), .int .u8 (.lit 0), .int .u8 (.lit 0), .int .u8 (.lit 0), .int .u8 (.lit 0), .int .u8 (.lit 0), .int .u8 (.lit 0), .int .u8 (.lit 0)], []⟩),
  (195, ⟨.func, 1, 8, [.nilFunc], []⟩),
  (196, ⟨.func, 1, 8, [.nilFunc], []⟩),
  (197, ⟨.array 32 5, 32, 32, [.int .u8 (.lit 0), .int .u8 (.lit 0), .int .u8 (.lit 0), .int .u8 (.lit 0), .int .u8 (.lit 0), .int .u8 (.lit 0), .int .u8 (.lit 0), .int .u8 (.lit 0), .int .u8 (.lit 0), .int .u8 (.lit 0), .int .u8 (.lit 0), .int .u8 (.lit 0), .int .u8 (.lit 0), .int .u8 (.lit 0), .int .u8 (.lit 0), .int .u8 (.lit 0), .int .u8 (.lit 0), .int .u8 (.lit 0), .int .u8 (.lit 0), .int .u8 (.lit 0), .int .u8 (.lit 0), .int .u8 (.lit 0), .int .u8 (.lit 0), .int .u8 (.lit 0), .int .u8 (.lit 0), .int .u8 (.lit 0), .int .u8 (.lit 0), .int .u8 (.lit 0), .int .u8 (.lit 0), .int .u8 (.lit 0), .int .u8 (.lit 0), .int .u8 (.lit 0)], []⟩),
  (198, ⟨.array 64 5, 64, 64, [.int .u8 (.lit 0), .int .u8 (.lit 0), .int .u8 (.lit 0), .int .u8 (.lit 0), .int .u8 (.lit 0), .int .u8 (.lit 0), .int .u8 (.lit 0), .int .u8 (.lit 0), .int .u8 (.lit 0), .int .u8 (.lit 0), .int .u8 (.lit 0), .int .u8 (.lit 0), .int .u8 (.lit 0), .int .u8 (.lit 0), .int .u8 (.lit 0), .int .u8 (.lit 0), .int .u8 (.lit 0), .int .u8 (.lit 0), .int .u8 (.lit 0), .int .u8 (.lit 0), .int .u8 (.lit 0), .int .u8 (.lit 0), .int .u8 (.lit 0), .int .u8 (.lit 0), .int .u8 (.lit 0), .int .u8 (.lit 0), .int .u8 (.lit 0), .int .u8 (.lit 0), .int .u8 (.lit 0), .int .u8 (.lit 0), .int .u8 (.lit 0), .int .u8 (.lit 0), .int .u8 (.lit 0), .int .u8 (.lit 0), .int .u8 (.lit 0), .int .u8 (.lit 0), .int .u8 (.lit 0), .int .u8 (.lit 0), .int .u8 (.lit 0), .int .u8 (.lit 0), .int .u8 (.lit 0), .int .u8 (.lit 0), .int .u8 (.lit 0), .int .u8 (.lit 0), .int .u8 (.lit 0), .int .u8 (.lit 0), .int .u8 (.lit 0), .int .u8 (.lit 0), .int .u8 (.lit 0), .int .u8 (.lit 0), .int .u8 (.lit 0), .int .u8 (.lit 0), .int .u8 (.lit 0), .int .u8 (.lit 0), .int .u8 (.lit 0), .int .u8 (.lit 0), .int .u8 (.lit 0), .int .u8 (.lit 0), .int .u8 (.lit 0), .int .u8 (.lit 0), .int .u8 (.lit 0), .int .u8 (.lit 0), .int .u8 (.lit 0), .int .u8 (.lit 0)], []⟩),
  (199, ⟨.struct [(0, 17), (1, 17), (2, 17), (3, 9)], 4, 40, [.nilptr, .nilptr, .nilptr, .str (.lit [])], []⟩),
  (200, ⟨.struct [(0, 17), (1, 17), (2, 17), (3, 9)], 4, 40, [.nilptr, .nilptr, .nilptr, .str (.lit [])], []⟩),
  (201, ⟨.array 0 16, 0, 0, [], []⟩),
  (202, ⟨.struct [(0, 201)], 0, 0, [], []⟩),
  (203, ⟨.struct [(0, 201)], 0, 0, [], []⟩),
  (204, ⟨.int .u8, 1, 1, [.int .u8 (.lit 0)], []⟩),
  (205, ⟨.int .u8, 1, 1, [.int .u8 (.lit 0)], []⟩),
  (206, ⟨.func, 1, 8, [.nilFunc], []⟩),
  (207, ⟨.int .i32, 1, 4, [.int .i32 (.lit 0)], []⟩),
  (208, ⟨.int .i32, 1, 4, [.int .i32 (.lit 0)], []⟩),
  (209, ⟨.struct [(0, 12), (1, 12), (2, 144), (3, 204), (4, 5), (5, 5), (6, 205), (7, 206), (8, 136), (9, 207), (10, 208)], 11, 48, [.int .u64 (.lit 0), .int .u64 (.lit 0), .int .u32 (.lit 0), .int .u8 (.lit 0), .int .u8 (.lit 0), .int .u8 (.lit 0), .int .u8 (.lit 0), .nilFunc, .nilptr, .int .i32 (.lit 0), .int .i32 (.lit 0)], []⟩),
  (210, ⟨.struct [(0, 12), (1, 12), (2, 144), (3, 204), (4, 5), (5, 5), (6, 205), (7, 206), (8, 136), (9, 207), (10, 208)], 11, 48, [.int .u64 (.lit 0), .int .u64 (.lit 0), .int .u32 (.lit 0), .int .u8 (.lit 0), .int .u8 (.lit 0), .int .u8 (.lit 0), .int .u8 (.lit 0), .nilFunc, .nilptr, .int .i32 (.lit 0), .int .i32 (.lit 0)], []⟩)]

theorem tyList_ok : ∀ p ∈ tyList, TIok Tryd.prog p.1 p.2 :=
  (tys_cons (.of (i := Tryd.t1) (by kernel_rfl) Tryd.underlying1 rfl rfl rfl ⟨_, _, _, rfl⟩ (fun _ e => by cases e) rfl rfl (fun h => absurd rfl h)) 
  (tys_cons (.of (i := Tryd.t2) (by kernel_rfl) Tryd.underlying2 rfl rfl rfl rfl (fun _ e => by cases e) rfl rfl (fun h => absurd rfl h)) 
  (tys_cons (.of (i := Tryd.t3) (by kernel_rfl) Tryd.underlying3 rfl rfl rfl rfl (fun _ e => by cases e) rfl rfl (fun h => absurd rfl h)) 
  (tys_cons (.of (i := Tryd.t4) (by kernel_rfl) Tryd.underlying4 rfl rfl rfl rfl (fun _ e => by cases e) rfl rfl (fun h => absurd rfl h)) 
  (tys_cons (.of (i := Tryd.t5) (by kernel_rfl) Tryd.underlying5 rfl rfl rfl rfl (fun _ e => by cases e) rfl rfl (fun h => absurd rfl h)) 
  (tys_cons (.of (i := Tryd.t6) (by kernel_rfl) Tryd.underlying6 rfl rfl rfl rfl (fun _ e => by cases e) rfl rfl (fun h => absurd rfl h)) 
  (tys_cons (.of (i := Tryd.t7) (by kernel_rfl) Tryd.underlying7 rfl rfl rfl ⟨_, rfl, rfl⟩ (fun _ e => by cases e) rfl rfl (fun h => absurd rfl h)) 
  (tys_cons (.of (i := Tryd.t8) (by kernel_rfl) Tryd.underlying8 rfl rfl rfl ⟨_, rfl, rfl⟩ (fun _ e => by cases e) rfl rfl (fun h => absurd rfl h)) 
  (tys_cons (.of (i := Tryd.t9) (by kernel_rfl) Tryd.underlying9 rfl rfl rfl rfl (fun _ e => by cases e) rfl rfl (fun h => absurd rfl h)) 
  (tys_cons (.of (i := Tryd.t10) (by kernel_rfl) Tryd.underlying10 rfl rfl rfl rfl (fun _ e => by cases e) rfl rfl (fun h => absurd rfl h)) 
  (tys_cons (.of (i := Tryd.t11) (by kernel_rfl) Tryd.underlying11 rfl rfl rfl rfl (fun _ e => by cases e) rfl rfl (fun h => absurd rfl h)) 
  (tys_cons (.of (i := Tryd.t12) (by kernel_rfl) Tryd.underlying12 rfl rfl rfl rfl (fun _ e => by cases e) rfl rfl (fun h => absurd rfl h)) 
  (tys_cons (.of (i := Tryd.t13) (by kernel_rfl) Tryd.underlying13 rfl rfl rfl ⟨_, rfl, rfl⟩ (fun _ e => by cases e) rfl rfl (fun h => absurd rfl h)) 
  (tys_cons (.of (i := Tryd.t14) (by kernel_rfl) Tryd.underlying14 rfl rfl rfl ⟨_, rfl, rfl⟩ (fun _ e => by cases e) rfl rfl (fun h => absurd rfl h)) 
  (tys_cons (.of (i := Tryd.t15) (by kernel_rfl) Tryd.underlying15 rfl rfl rfl rfl (fun _ e => by cases e) rfl rfl (fun h => absurd rfl h)) 
  (tys_cons (.of (i := Tryd.t16) (by kernel_rfl) Tryd.underlying16 rfl rfl rfl rfl (fun _ e => by cases e) rfl rfl (fun h => absurd rfl h)) 
  (tys_cons (.of (i := Tryd.t17) (by kernel_rfl) Tryd.underlying17 rfl rfl rfl rfl (fun _ e => by cases e) rfl rfl (fun h => absurd rfl h)) 
  (tys_cons (.of (i := Tryd.t18) (by kernel_rfl) Tryd.underlying18 rfl rfl rfl ⟨_, rfl, rfl⟩ (fun _ e => by cases e) rfl rfl (fun h => absurd rfl h)) 
  (tys_cons (.of (i := Tryd.t19) (by kernel_rfl) Tryd.underlying19 rfl rfl rfl ⟨_, rfl, rfl⟩ (fun _ e => by cases e) rfl rfl (fun h => absurd rfl h)) 
  (tys_cons (.of (i := Tryd.t20) (by kernel_rfl) Tryd.underlying20 rfl rfl rfl ⟨_, rfl⟩ (fun _ _ => rfl) rfl rfl (fun h => absurd rfl h)) 
  (tys_cons (.of (i := Tryd.t21) (by kernel_rfl) Tryd.underlying21 rfl rfl rfl rfl (fun _ e => by cases e) rfl rfl (fun h => absurd rfl h)) 
  (tys_cons (.of (i := Tryd.t22) (by kernel_rfl) Tryd.underlying22 rfl rfl rfl ⟨_, rfl, rfl⟩ (fun _ e => by cases e) rfl rfl (fun h => absurd rfl h)) 
  (tys_cons (.of (i := Tryd.t23) (by kernel_rfl) Tryd.underlying23 rfl rfl rfl ⟨_, rfl, rfl⟩ (fun _ e => by cases e) rfl rfl (fun _ => ⟨⟨2, by decide, (.struct (by decide) Tryd.underlying23 (by kernel_rfl) (.cons' [.int .i64] [.int .i64, .int .i64] (by kernel_rfl) rfl (.int Tryd.underlying3 Tryd.isAgg3) (.cons' [.int .i64] [.int .i64] (by kernel_rfl) rfl (.int Tryd.underlying3 Tryd.isAgg3) (.cons' [.int .i64] [] (by kernel_rfl) rfl (.int Tryd.underlying3 Tryd.isAgg3) .nil rfl) rfl) rfl))⟩, by kernel_rfl⟩)) 
  (tys_cons (.of (i := Tryd.t24) (by kernel_rfl) Tryd.underlying24 rfl rfl rfl ⟨_, _, _, rfl⟩ (fun _ e => by cases e) rfl rfl (fun h => absurd rfl h)) 
  (tys_cons (.of (i := Tryd.t25) (by kernel_rfl) Tryd.underlying25 rfl rfl rfl rfl (fun _ e => by cases e) rfl rfl (fun h => absurd rfl h)) 
  (tys_cons (.of (i := Tryd.t27) (by kernel_rfl) Tryd.underlying27 rfl rfl rfl ⟨_, _, _, rfl⟩ (fun _ e => by cases e) rfl rfl (fun h => absurd rfl h)) 
  (tys_cons (.of (i := Tryd.t29) (by kernel_rfl) Tryd.underlying29 rfl rfl rfl ⟨_, _, _, rfl⟩ (fun _ e => by cases e) rfl rfl (fun h => absurd rfl h)) 
  (tys_cons (.of (i := Tryd.t30) (by kernel_rfl) Tryd.underlying30 rfl rfl rfl ⟨_, _, _, rfl⟩ (fun _ e => by cases e) rfl rfl (fun h => absurd rfl h)) 
  (tys_cons (.of (i := Tryd.t31) (by kernel_rfl) Tryd.underlying31 rfl rfl rfl rfl (fun _ e => by cases e) rfl rfl (fun h => absurd rfl h)) 
  (tys_cons (.of (i := Tryd.t32) (by kernel_rfl) Tryd.underlying32 rfl rfl rfl ⟨_, _, _, rfl⟩ (fun _ e => by cases e) rfl rfl (fun h => absurd rfl h)) 
  (tys_cons (.of (i := Tryd.t33) (by kernel_rfl) Tryd.underlying33 rfl rfl rfl ⟨_, _, _, rfl⟩ (fun _ e => by cases e) rfl rfl (fun h => absurd rfl h)) 
  (tys_cons (.of (i := Tryd.t34) (by kernel_rfl) Tryd.underlying34 rfl rfl rfl ⟨_, _, _, rfl⟩ (fun _ e => by cases e) rfl rfl (fun h => absurd rfl h)) 
  (tys_cons (.of (i := Tryd.t35) (by kernel_rfl) Tryd.underlying35 rfl rfl rfl rfl (fun _ e => by cases e) rfl rfl (fun h => absurd rfl h)) 
  (tys_cons (.of (i := Tryd.t36) (by kernel_rfl) Tryd.underlying36 rfl rfl rfl rfl (fun _ e => by cases e) rfl rfl (fun h => absurd rfl h)) 
  (tys_cons (.of (i := Tryd.t37) (by kernel_rfl) Tryd.underlying37 rfl rfl rfl ⟨_, _, _, rfl⟩ (fun _ e => by cases e) rfl rfl (fun h => absurd rfl h)) 
  (tys_cons (.of (i := Tryd.t38) (by kernel_rfl) Tryd.underlying38 rfl rfl rfl rfl (fun _ e => by cases e) rfl rfl (fun h => absurd rfl h)) 
  (tys_cons (.of (i := Tryd.t39) (by kernel_rfl) Tryd.underlying39 rfl rfl rfl ⟨_, _, _, rfl⟩ (fun _ e => by cases e) rfl rfl (fun h => absurd rfl h)) 
  (tys_cons (.of (i := Tryd.t40) (by kernel_rfl) Tryd.underlying40 rfl rfl rfl ⟨_, _, _, rfl⟩ (fun _ e => by cases e) rfl rfl (fun h => absurd rfl h)) 
  (tys_cons (.of (i := Tryd.t41) (by kernel_rfl) Tryd.underlying41 rfl rfl rfl rfl (fun _ e => by cases e) rfl rfl (fun h => absurd rfl h)) 
  (tys_cons (.of (i := Tryd.t42) (by kernel_rfl) Tryd.underlying42 rfl rfl rfl ⟨_, _, _, rfl⟩ (fun _ e => by cases e) rfl rfl (fun h => absurd rfl h)) 
  (tys_cons (.of (i := Tryd.t43) (by kernel_rfl) Tryd.underlying43 rfl rfl rfl rfl (fun _ e => by cases e) rfl rfl (fun h => absurd rfl h)) 
  (tys_cons (.of (i := Tryd.t44) (by kernel_rfl) Tryd.underlying44 rfl rfl rfl ⟨_, _, _, rfl⟩ (fun _ e => by cases e) rfl rfl (fun h => absurd rfl h)) 
  (tys_cons (.of (i := Tryd.t45) (by kernel_rfl) Tryd.underlying45 rfl rfl rfl ⟨_, _, _, rfl⟩ (fun _ e => by cases e) rfl rfl (fun h => absurd rfl h)) 
  (tys_cons (.of (i := Tryd.t47) (by kernel_rfl) Tryd.underlying47 rfl rfl rfl ⟨_, _, _, rfl⟩ (fun _ e => by cases e) rfl rfl (fun h => absurd rfl h)) 
  (tys_cons (.of (i := Tryd.t48) (by kernel_rfl) Tryd.underlying48 rfl rfl rfl ⟨_, _, _, rfl⟩ (fun _ e => by cases e) rfl rfl (fun h => absurd rfl h)) 
  (tys_cons (.of (i := Tryd.t49) (by kernel_rfl) Tryd.underlying49 rfl rfl rfl ⟨_, _, _, rfl⟩ (fun _ e => by cases e) rfl rfl (fun h => absurd rfl h)) 
  (tys_cons (.of (i := Tryd.t50) (by kernel_rfl) Tryd.underlying50 rfl rfl rfl ⟨_, _, _, rfl⟩ (fun _ e => by cases e) rfl rfl (fun h => absurd rfl h)) 
  (tys_cons (.of (i := Tryd.t51) (by kernel_rfl) Tryd.underlying51 rfl rfl rfl rfl (fun _ e => by cases e) rfl rfl (fun h => absurd rfl h)) 
  (tys_cons (.of (i := Tryd.t52) (by kernel_rfl) Tryd.underlying52 rfl rfl rfl ⟨_, _, _, rfl⟩ (fun _ e => by cases e) rfl rfl (fun h => absurd rfl h)) 
  (tys_cons (.of (i := Tryd.t53) (by kernel_rfl) Tryd.underlying53 rfl rfl rfl ⟨_, rfl, rfl⟩ (fun _ e => by cases e) rfl rfl (fun h => absurd rfl h)) 
  (tys_cons (.of (i := Tryd.t54) (by kernel_rfl) Tryd.underlying54 rfl rfl rfl ⟨_, rfl, rfl⟩ (fun _ e => by cases e) rfl rfl (fun _ => ⟨⟨2, by decide, (.struct (by decide) Tryd.underlying54 (by kernel_rfl) (.cons' [.int .i64] [.bool, .string] (by kernel_rfl) rfl (.int Tryd.underlying2 Tryd.isAgg2) (.cons' [.bool] [.string] (by kernel_rfl) rfl (.bool Tryd.underlying4 Tryd.isAgg4) (.cons' [.string] [] (by kernel_rfl) rfl (.string Tryd.underlying9 Tryd.isAgg9) .nil rfl) rfl) rfl))⟩, by kernel_rfl⟩)) 
  (tys_cons (.of (i := Tryd.t56) (by kernel_rfl) Tryd.underlying56 rfl rfl rfl ⟨_, _, _, rfl⟩ (fun _ e => by cases e) rfl rfl (fun h => absurd rfl h)) 
  (tys_cons (.of (i := Tryd.t57) (by kernel_rfl) Tryd.underlying57 rfl rfl rfl ⟨_, _, _, rfl⟩ (fun _ e => by cases e) rfl rfl (fun h => absurd rfl h)) 
  (tys_cons (.of (i := Tryd.t58) (by kernel_rfl) Tryd.underlying58 rfl rfl rfl ⟨_, _, _, rfl⟩ (fun _ e => by cases e) rfl rfl (fun h => absurd rfl h)) 
  (tys_cons (.of (i := Tryd.t59) (by kernel_rfl) Tryd.underlying59 rfl rfl rfl rfl (fun _ e => by cases e) rfl rfl (fun h => absurd rfl h)) 
  (tys_cons (.of (i := Tryd.t60) (by kernel_rfl) Tryd.underlying60 rfl rfl rfl ⟨_, _, _, rfl⟩ (fun _ e => by cases e) rfl rfl (fun h => absurd rfl h)) 
  (tys_cons (.of (i := Tryd.t61) (by kernel_rfl) Tryd.underlying61 rfl rfl rfl ⟨_, _, _, rfl⟩ (fun _ e => by cases e) rfl rfl (fun h => absurd rfl h)) 
  (tys_cons (.of (i := Tryd.t62) (by kernel_rfl) Tryd.underlying62 rfl rfl rfl ⟨_, _, _, rfl⟩ (fun _ e => by cases e) rfl rfl (fun h => absurd rfl h)) 
  (tys_cons (.of (i := Tryd.t63) (by kernel_rfl) Tryd.underlying63 rfl rfl rfl ⟨_, _, _, rfl⟩ (fun _ e => by cases e) rfl rfl (fun h => absurd rfl h)) 
  (tys_cons (.of (i := Tryd.t64) (by kernel_rfl) Tryd.underlying64 rfl rfl rfl ⟨_, _, _, rfl⟩ (fun _ e => by cases e) rfl rfl (fun h => absurd rfl h)) 
  (tys_cons (.of (i := Tryd.t65) (by kernel_rfl) Tryd.underlying65 rfl rfl rfl ⟨_, _, _, rfl⟩ (fun _ e => by cases e) rfl rfl (fun h => absurd rfl h)) 
  (tys_cons (.of (i := Tryd.t66) (by kernel_rfl) Tryd.underlying66 rfl rfl rfl ⟨_, _, _, rfl⟩ (fun _ e => by cases e) rfl rfl (fun h => absurd rfl h)) 
  (tys_cons (.of (i := Tryd.t67) (by kernel_rfl) Tryd.underlying67 rfl rfl rfl ⟨_, _, _, rfl⟩ (fun _ e => by cases e) rfl rfl (fun h => absurd rfl h)) 
  (tys_cons (.of (i := Tryd.t68) (by kernel_rfl) Tryd.underlying68 rfl rfl rfl rfl (fun _ e => by cases e) rfl rfl (fun h => absurd rfl h)) 
  (tys_cons (.of (i := Tryd.t69) (by kernel_rfl) Tryd.underlying69 rfl rfl rfl ⟨_, _, _, rfl⟩ (fun _ e => by cases e) rfl rfl (fun h => absurd rfl h)) 
  (tys_cons (.of (i := Tryd.t70) (by kernel_rfl) Tryd.underlying70 rfl rfl rfl ⟨_, _, _, rfl⟩ (fun _ e => by cases e) rfl rfl (fun h => absurd rfl h)) 
  (tys_cons (.of (i := Tryd.t71) (by kernel_rfl) Tryd.underlying71 rfl rfl rfl ⟨_, _, _, rfl⟩ (fun _ e => by cases e) rfl rfl (fun h => absurd rfl h)) 
  (tys_cons (.of (i := Tryd.t72) (by kernel_rfl) Tryd.underlying72 rfl rfl rfl ⟨_, _, _, rfl⟩ (fun _ e => by cases e) rfl rfl (fun h => absurd rfl h)) 
  (tys_cons (.of (i := Tryd.t73) (by kernel_rfl) Tryd.underlying73 rfl rfl rfl ⟨_, _, _, rfl⟩ (fun _ e => by cases e) rfl rfl (fun h => absurd rfl h)) 
  (tys_cons (.of (i := Tryd.t74) (by kernel_rfl) Tryd.underlying74 rfl rfl rfl ⟨_, _, _, rfl⟩ (fun _ e => by cases e) rfl rfl (fun h => absurd rfl h)) 
  (tys_cons (.of (i := Tryd.t75) (by kernel_rfl) Tryd.underlying75 rfl rfl rfl ⟨_, _, _, rfl⟩ (fun _ e => by cases e) rfl rfl (fun h => absurd rfl h)) 
  (tys_cons (.of (i := Tryd.t76) (by kernel_rfl) Tryd.underlying76 rfl rfl rfl ⟨_, rfl, rfl⟩ (fun _ e => by cases e) rfl rfl (fun h => absurd rfl h)) 
  (tys_cons (.of (i := Tryd.t77) (by kernel_rfl) Tryd.underlying77 rfl rfl rfl rfl (fun _ e => by cases e) rfl rfl (fun h => absurd rfl h)) 
  (tys_cons (.of (i := Tryd.t78) (by kernel_rfl) Tryd.underlying78 rfl rfl rfl ⟨_, rfl, rfl⟩ (fun _ e => by cases e) rfl rfl (fun h => absurd rfl h)) 
  (tys_cons (.of (i := Tryd.t79) (by kernel_rfl) Tryd.underlying79 rfl rfl rfl ⟨_, rfl, rfl⟩ (fun _ e => by cases e) rfl rfl (fun _ => ⟨⟨2, by decide, (.struct (by decide) Tryd.underlying79 (by kernel_rfl) (.cons' [.int .u8] [.int .u8] (by kernel_rfl) rfl (.int Tryd.underlying5 Tryd.isAgg5) (.cons' [.int .u8] [] (by kernel_rfl) rfl (.int Tryd.underlying5 Tryd.isAgg5) .nil rfl) rfl))⟩, by kernel_rfl⟩)) 
  (tys_cons (.of (i := Tryd.t80) (by kernel_rfl) Tryd.underlying80 rfl rfl rfl ⟨_, _, _, rfl⟩ (fun _ e => by cases e) rfl rfl (fun h => absurd rfl h)) 
  (tys_cons (.of (i := Tryd.t81) (by kernel_rfl) Tryd.underlying81 rfl rfl rfl ⟨_, _, _, rfl⟩ (fun _ e => by cases e) rfl rfl (fun h => absurd rfl h)) 
  (tys_cons (.of (i := Tryd.t83) (by kernel_rfl) Tryd.underlying83 rfl rfl rfl ⟨_, _, _, rfl⟩ (fun _ e => by cases e) rfl rfl (fun h => absurd rfl h)) 
  (tys_cons (.of (i := Tryd.t85) (by kernel_rfl) Tryd.underlying85 rfl rfl rfl ⟨_, _, _, rfl⟩ (fun _ e => by cases e) rfl rfl (fun h => absurd rfl h)) 
  (tys_cons (.of (i := Tryd.t86) (by kernel_rfl) Tryd.underlying86 rfl rfl rfl ⟨_, _, _, rfl⟩ (fun _ e => by cases e) rfl rfl (fun h => absurd rfl h)) 
  (tys_cons (.of (i := Tryd.t87) (by kernel_rfl) Tryd.underlying87 rfl rfl rfl ⟨_, _, _, rfl⟩ (fun _ e => by cases e) rfl rfl (fun h => absurd rfl h)) 
  (tys_cons (.of (i := Tryd.t88) (by kernel_rfl) Tryd.underlying88 rfl rfl rfl ⟨_, rfl, rfl⟩ (fun _ e => by cases e) rfl rfl (fun h => absurd rfl h)) 
  (tys_cons (.of (i := Tryd.t89) (by kernel_rfl) Tryd.underlying89 rfl rfl rfl ⟨_, rfl, rfl⟩ (fun _ e => by cases e) rfl rfl (fun h => absurd rfl h)) 
  (tys_cons (.of (i := Tryd.t91) (by kernel_rfl) Tryd.underlying91 rfl rfl rfl ⟨_, _, _, rfl⟩ (fun _ e => by cases e) rfl rfl (fun h => absurd rfl h)) 
  (tys_cons (.of (i := Tryd.t92) (by kernel_rfl) Tryd.underlying92 rfl rfl rfl rfl (fun _ e => by cases e) rfl rfl (fun h => absurd rfl h)) 
  (tys_cons (.of (i := Tryd.t93) (by kernel_rfl) Tryd.underlying93 rfl rfl rfl ⟨_, rfl, rfl⟩ (fun _ e => by cases e) rfl rfl (fun h => absurd rfl h)) 
  (tys_cons (.of (i := Tryd.t94) (by kernel_rfl) Tryd.underlying94 rfl rfl rfl ⟨_, rfl, rfl⟩ (fun _ e => by cases e) rfl rfl (fun h => absurd rfl h)) 
  (tys_cons (.of (i := Tryd.t95) (by kernel_rfl) Tryd.underlying95 rfl rfl rfl ⟨_, _, _, rfl⟩ (fun _ e => by cases e) rfl rfl (fun h => absurd rfl h)) 
  (tys_cons (.of (i := Tryd.t96) (by kernel_rfl) Tryd.underlying96 rfl rfl rfl ⟨_, rfl⟩ (fun _ _ => rfl) rfl rfl (fun h => absurd rfl h)) 
  (tys_cons (.of (i := Tryd.t97) (by kernel_rfl) Tryd.underlying97 rfl rfl rfl ⟨_, rfl⟩ (fun _ _ => rfl) rfl rfl (fun h => absurd rfl h)) 
  (tys_cons (.of (i := Tryd.t99) (by kernel_rfl) Tryd.underlying99 rfl rfl rfl ⟨_, _, _, rfl⟩ (fun _ e => by cases e) rfl rfl (fun h => absurd rfl h)) 
  (tys_cons (.of (i := Tryd.t100) (by kernel_rfl) Tryd.underlying100 rfl rfl rfl ⟨_, _, _, rfl⟩ (fun _ e => by cases e) rfl rfl (fun h => absurd rfl h)) 
  (tys_cons (.of (i := Tryd.t101) (by kernel_rfl) Tryd.underlying101 rfl rfl rfl ⟨_, _, _, rfl⟩ (fun _ e => by cases e) rfl rfl (fun h => absurd rfl h)) 
  (tys_cons (.of (i := Tryd.t102) (by kernel_rfl) Tryd.underlying102 rfl rfl rfl ⟨_, _, _, rfl⟩ (fun _ e => by cases e) rfl rfl (fun h => absurd rfl h)) 
  (tys_cons (.of (i := Tryd.t103) (by kernel_rfl) Tryd.underlying103 rfl rfl rfl ⟨_, _, _, rfl⟩ (fun _ e => by cases e) rfl rfl (fun h => absurd rfl h)) 
  (tys_cons (.of (i := Tryd.t104) (by kernel_rfl) Tryd.underlying104 rfl rfl rfl ⟨_, _, _, rfl⟩ (fun _ e => by cases e) rfl rfl (fun h => absurd rfl h)) 
  (tys_cons (.of (i := Tryd.t106) (by kernel_rfl) Tryd.underlying106 rfl rfl rfl ⟨_, _, _, rfl⟩ (fun _ e => by cases e) rfl rfl (fun h => absurd rfl h)) 
  (tys_cons (.of (i := Tryd.t107) (by kernel_rfl) Tryd.underlying107 rfl rfl rfl ⟨_, _, _, rfl⟩ (fun _ e => by cases e) rfl rfl (fun h => absurd rfl h)) 
  (tys_cons (.of (i := Tryd.t108) (by kernel_rfl) Tryd.underlying108 rfl rfl rfl ⟨_, _, _, rfl⟩ (fun _ e => by cases e) rfl rfl (fun h => absurd rfl h)) 
  (tys_cons (.of (i := Tryd.t110) (by kernel_rfl) Tryd.underlying110 rfl rfl rfl ⟨_, _, _, rfl⟩ (fun _ e => by cases e) rfl rfl (fun h => absurd rfl h)) 
  (tys_cons (.of (i := Tryd.t111) (by kernel_rfl) Tryd.underlying111 rfl rfl rfl ⟨_, _, _, rfl⟩ (fun _ e => by cases e) rfl rfl (fun h => absurd rfl h)) 
  (tys_cons (.of (i := Tryd.t112) (by kernel_rfl) Tryd.underlying112 rfl rfl rfl ⟨_, _, _, rfl⟩ (fun _ e => by cases e) rfl rfl (fun h => absurd rfl h)) 
  (tys_cons (.of (i := Tryd.t113) (by kernel_rfl) Tryd.underlying113 rfl rfl rfl ⟨_, _, _, rfl⟩ (fun _ e => by cases e) rfl rfl (fun h => absurd rfl h)) 
  (tys_cons (.of (i := Tryd.t114) (by kernel_rfl) Tryd.underlying114 rfl rfl rfl rfl (fun _ e => by cases e) rfl rfl (fun h => absurd rfl h)) 
  (tys_cons (.of (i := Tryd.t116) (by kernel_rfl) Tryd.underlying116 rfl rfl rfl ⟨_, _, _, rfl⟩ (fun _ e => by cases e) rfl rfl (fun h => absurd rfl h)) 
  (tys_cons (.of (i := Tryd.t117) (by kernel_rfl) Tryd.underlying117 rfl rfl rfl ⟨_, _, _, rfl⟩ (fun _ e => by cases e) rfl rfl (fun h => absurd rfl h)) 
  (tys_cons (.of (i := Tryd.t118) (by kernel_rfl) Tryd.underlying118 rfl rfl rfl ⟨_, _, _, rfl⟩ (fun _ e => by cases e) rfl rfl (fun h => absurd rfl h)) 
  (tys_cons (.of (i := Tryd.t119) (by kernel_rfl) Tryd.underlying119 rfl rfl rfl rfl (fun _ e => by cases e) rfl rfl (fun h => absurd rfl h)) 
  (tys_cons (.of (i := Tryd.t120) (by kernel_rfl) Tryd.underlying120 rfl rfl rfl rfl (fun _ e => by cases e) rfl rfl (fun h => absurd rfl h)) 
  (tys_cons (.of (i := Tryd.t122) (by kernel_rfl) Tryd.underlying122 rfl rfl rfl ⟨_, _, _, rfl⟩ (fun _ e => by cases e) rfl rfl (fun h => absurd rfl h)) 
  (tys_cons (.of (i := Tryd.t123) (by kernel_rfl) Tryd.underlying123 rfl rfl rfl ⟨_, _, _, rfl⟩ (fun _ e => by cases e) rfl rfl (fun h => absurd rfl h)) 
  (tys_cons (.of (i := Tryd.t125) (by kernel_rfl) Tryd.underlying125 rfl rfl rfl ⟨_, _, _, rfl⟩ (fun _ e => by cases e) rfl rfl (fun h => absurd rfl h)) 
  (tys_cons (.of (i := Tryd.t126) (by kernel_rfl) Tryd.underlying126 rfl rfl rfl ⟨_, _, _, rfl⟩ (fun _ e => by cases e) rfl rfl (fun h => absurd rfl h)) 
  (tys_cons (.of (i := Tryd.t127) (by kernel_rfl) Tryd.underlying127 rfl rfl rfl rfl (fun _ e => by cases e) rfl rfl (fun h => absurd rfl h)) 
  (tys_cons (.of (i := Tryd.t128) (by kernel_rfl) Tryd.underlying128 rfl rfl rfl rfl (fun _ e => by cases e) rfl rfl (fun h => absurd rfl h)) 
  (tys_cons (.of (i := Tryd.t129) (by kernel_rfl) Tryd.underlying129 rfl rfl rfl ⟨_, _, _, rfl⟩ (fun _ e => by cases e) rfl rfl (fun h => absurd rfl h)) 
  (tys_cons (.of (i := Tryd.t130) (by kernel_rfl) Tryd.underlying130 rfl rfl rfl ⟨_, _, _, rfl⟩ (fun _ e => by cases e) rfl rfl (fun h => absurd rfl h)) 
  (tys_cons (.of (i := Tryd.t131) (by kernel_rfl) Tryd.underlying131 rfl rfl rfl ⟨_, _, _, rfl⟩ (fun _ e => by cases e) rfl rfl (fun h => absurd rfl h)) 
  (tys_cons (.of (i := Tryd.t132) (by kernel_rfl) Tryd.underlying132 rfl rfl rfl ⟨_, _, _, rfl⟩ (fun _ e => by cases e) rfl rfl (fun h => absurd rfl h)) 
  (tys_cons (.of (i := Tryd.t133) (by kernel_rfl) Tryd.underlying133 rfl rfl rfl ⟨_, _, _, rfl⟩ (fun _ e => by cases e) rfl rfl (fun h => absurd rfl h)) 
  (tys_cons (.of (i := Tryd.t134) (by kernel_rfl) Tryd.underlying134 rfl rfl rfl rfl (fun _ e => by cases e) rfl rfl (fun h => absurd rfl h)) 
  (tys_cons (.of (i := Tryd.t135) (by kernel_rfl) Tryd.underlying135 rfl rfl rfl ⟨_, _, _, rfl⟩ (fun _ e => by cases e) rfl rfl (fun h => absurd rfl h)) 
  (tys_cons (.of (i := Tryd.t136) (by kernel_rfl) Tryd.underlying136 rfl rfl rfl rfl (fun _ e => by cases e) rfl rfl (fun h => absurd rfl h)) 
  (tys_cons (.of (i := Tryd.t137) (by kernel_rfl) Tryd.underlying137 rfl rfl rfl ⟨_, _, _, rfl⟩ (fun _ e => by cases e) rfl rfl (fun h => absurd rfl h)) 
  (tys_cons (.of (i := Tryd.t138) (by kernel_rfl) Tryd.underlying138 rfl rfl rfl ⟨_, _, _, rfl⟩ (fun _ e => by cases e) rfl rfl (fun h => absurd rfl h)) 
  (tys_cons (.of (i := Tryd.t139) (by kernel_rfl) Tryd.underlying139 rfl rfl rfl ⟨_, _, _, rfl⟩ (fun _ e => by cases e) rfl rfl (fun h => absurd rfl h)) 
  (tys_cons (.of (i := Tryd.t140) (by kernel_rfl) Tryd.underlying140 rfl rfl rfl ⟨_, _, _, rfl⟩ (fun _ e => by cases e) rfl rfl (fun h => absurd rfl h)) 
  (tys_cons (.of (i := Tryd.t141) (by kernel_rfl) Tryd.underlying141 rfl rfl rfl ⟨_, _, _, rfl⟩ (fun _ e => by cases e) rfl rfl (fun h => absurd rfl h)) 
  (tys_cons (.of (i := Tryd.t142) (by kernel_rfl) Tryd.underlying142 rfl rfl rfl ⟨_, _, _, rfl⟩ (fun _ e => by cases e) rfl rfl (fun h => absurd rfl h)) 
  (tys_cons (.of (i := Tryd.t143) (by kernel_rfl) Tryd.underlying143 rfl rfl rfl ⟨_, _, _, rfl⟩ (fun _ e => by cases e) rfl rfl (fun h => absurd rfl h)) 
  (tys_cons (.of (i := Tryd.t144) (by kernel_rfl) Tryd.underlying144 rfl rfl rfl rfl (fun _ e => by cases e) rfl rfl (fun h => absurd rfl h)) 
  (tys_cons (.of (i := Tryd.t146) (by kernel_rfl) Tryd.underlying146 rfl rfl rfl ⟨_, _, _, rfl⟩ (fun _ e => by cases e) rfl rfl (fun h => absurd rfl h)) 
  (tys_cons (.of (i := Tryd.t147) (by kernel_rfl) Tryd.underlying147 rfl rfl rfl rfl (fun _ e => by cases e) rfl rfl (fun h => absurd rfl h)) 
  (tys_cons (.of (i := Tryd.t149) (by kernel_rfl) Tryd.underlying149 rfl rfl rfl ⟨_, _, _, rfl⟩ (fun _ e => by cases e) rfl rfl (fun h => absurd rfl h)) 
  (tys_cons (.of (i := Tryd.t150) (by kernel_rfl) Tryd.underlying150 rfl rfl rfl ⟨_, _, _, rfl⟩ (fun _ e => by cases e) rfl rfl (fun h => absurd rfl h)) 
  (tys_cons (.of (i := Tryd.t151) (by kernel_rfl) Tryd.underlying151 rfl rfl rfl rfl (fun _ e => by cases e) rfl rfl (fun h => absurd rfl h)) 
  (tys_cons (.of (i := Tryd.t152) (by kernel_rfl) Tryd.underlying152 rfl rfl rfl rfl (fun _ e => by cases e) rfl rfl (fun h => absurd rfl h)) 
  (tys_cons (.of (i := Tryd.t153) (by kernel_rfl) Tryd.underlying153 rfl rfl rfl rfl (fun _ e => by cases e) rfl rfl (fun h => absurd rfl h)) 
  (tys_cons (.of (i := Tryd.t154) (by kernel_rfl) Tryd.underlying154 rfl rfl rfl ⟨_, rfl, rfl⟩ (fun _ e => by cases e) rfl rfl (fun h => absurd rfl h)) 
  (tys_cons (.of (i := Tryd.t155) (by kernel_rfl) Tryd.underlying155 rfl rfl rfl ⟨_, rfl, rfl⟩ (fun _ e => by cases e) rfl rfl (fun h => absurd rfl h)) 
  (tys_cons (.of (i := Tryd.t156) (by kernel_rfl) Tryd.underlying156 rfl rfl rfl rfl (fun _ e => by cases e) rfl rfl (fun h => absurd rfl h)) 
  (tys_cons (.of (i := Tryd.t157) (by kernel_rfl) Tryd.underlying157 rfl rfl rfl ⟨_, _, _, rfl⟩ (fun _ e => by cases e) rfl rfl (fun h => absurd rfl h)) 
  (tys_cons (.of (i := Tryd.t158) (by kernel_rfl) Tryd.underlying158 rfl rfl rfl rfl (fun _ e => by cases e) rfl rfl (fun h => absurd rfl h)) 
  (tys_cons (.of (i := Tryd.t159) (by kernel_rfl) Tryd.underlying159 rfl rfl rfl ⟨_, _, _, rfl⟩ (fun _ e => by cases e) rfl rfl (fun h => absurd rfl h)) 
  (tys_cons (.of (i := Tryd.t160) (by kernel_rfl) Tryd.underlying160 rfl rfl rfl ⟨_, _, _, rfl⟩ (fun _ e => by cases e) rfl rfl (fun h => absurd rfl h)) 
  (tys_cons (.of (i := Tryd.t161) (by kernel_rfl) Tryd.underlying161 rfl rfl rfl ⟨_, _, _, rfl⟩ (fun _ e => by cases e) rfl rfl (fun h => absurd rfl h)) 
  (tys_cons (.of (i := Tryd.t162) (by kernel_rfl) Tryd.underlying162 rfl rfl rfl ⟨_, _, _, rfl⟩ (fun _ e => by cases e) rfl rfl (fun h => absurd rfl h)) 
  (tys_cons (.of (i := Tryd.t163) (by kernel_rfl) Tryd.underlying163 rfl rfl rfl ⟨_, _, _, rfl⟩ (fun _ e => by cases e) rfl rfl (fun h => absurd rfl h)) 
  (tys_cons (.of (i := Tryd.t164) (by kernel_rfl) Tryd.underlying164 rfl rfl rfl ⟨_, _, _, rfl⟩ (fun _ e => by cases e) rfl rfl (fun h => absurd rfl h)) 
  (tys_cons (.of (i := Tryd.t165) (by kernel_rfl) Tryd.underlying165 rfl rfl rfl ⟨_, _, _, rfl⟩ (fun _ e => by cases e) rfl rfl (fun h => absurd rfl h)) 
  (tys_cons (.of (i := Tryd.t167) (by kernel_rfl) Tryd.underlying167 rfl rfl rfl ⟨_, _, _, rfl⟩ (fun _ e => by cases e) rfl rfl (fun h => absurd rfl h)) 
  (tys_cons (.of (i := Tryd.t168) (by kernel_rfl) Tryd.underlying168 rfl rfl rfl ⟨_, _, _, rfl⟩ (fun _ e => by cases e) rfl rfl (fun h => absurd rfl h)) 
  (tys_cons (.of (i := Tryd.t169) (by kernel_rfl) Tryd.underlying169 rfl rfl rfl ⟨_, _, _, rfl⟩ (fun _ e => by cases e) rfl rfl (fun h => absurd rfl h)) 
  (tys_cons (.of (i := Tryd.t171) (by kernel_rfl) Tryd.underlying171 rfl rfl rfl ⟨_, _, _, rfl⟩ (fun _ e => by cases e) rfl rfl (fun h => absurd rfl h)) 
  (tys_cons (.of (i := Tryd.t172) (by kernel_rfl) Tryd.underlying172 rfl rfl rfl ⟨_, _, _, rfl⟩ (fun _ e => by cases e) rfl rfl (fun h => absurd rfl h)) 
  (tys_cons (.of (i := Tryd.t173) (by kernel_rfl) Tryd.underlying173 rfl rfl rfl ⟨_, _, _, rfl⟩ (fun _ e => by cases e) rfl rfl (fun h => absurd rfl h)) 
  (tys_cons (.of (i := Tryd.t174) (by kernel_rfl) Tryd.underlying174 rfl rfl rfl ⟨_, _, _, rfl⟩ (fun _ e => by cases e) rfl rfl (fun h => absurd rfl h)) 
  (tys_cons (.of (i := Tryd.t175) (by kernel_rfl) Tryd.underlying175 rfl rfl rfl ⟨_, _, _, rfl⟩ (fun _ e => by cases e) rfl rfl (fun h => absurd rfl h)) 
  (tys_cons (.of (i := Tryd.t176) (by kernel_rfl) Tryd.underlying176 rfl rfl rfl ⟨_, _, _, rfl⟩ (fun _ e => by cases e) rfl rfl (fun h => absurd rfl h)) 
  (tys_cons (.of (i := Tryd.t177) (by kernel_rfl) Tryd.underlying177 rfl rfl rfl rfl (fun _ e => by cases e) rfl rfl (fun h => absurd rfl h)) 
  (tys_cons (.of (i := Tryd.t178) (by kernel_rfl) Tryd.underlying178 rfl rfl rfl ⟨_, rfl, rfl⟩ (fun _ e => by cases e) rfl rfl (fun h => absurd rfl h)) 
  (tys_cons (.of (i := Tryd.t179) (by kernel_rfl) Tryd.underlying179 rfl rfl rfl ⟨_, rfl, rfl⟩ (fun _ e => by cases e) rfl rfl (fun h => absurd rfl h)) 
  (tys_cons (.of (i := Tryd.t180) (by kernel_rfl) Tryd.underlying180 rfl rfl rfl rfl (fun _ e => by cases e) rfl rfl (fun h => absurd rfl h)) 
  (tys_cons (.of (i := Tryd.t181) (by kernel_rfl) Tryd.underlying181 rfl rfl rfl rfl (fun _ e => by cases e) rfl rfl (fun h => absurd rfl h)) 
  (tys_cons (.of (i := Tryd.t182) (by kernel_rfl) Tryd.underlying182 rfl rfl rfl rfl (fun _ e => by cases e) rfl rfl (fun h => absurd rfl h)) 
  (tys_cons (.of (i := Tryd.t183) (by kernel_rfl) Tryd.underlying183 rfl rfl rfl ⟨_, rfl, rfl⟩ (fun _ e => by cases e) rfl rfl (fun h => absurd rfl h)) 
  (tys_cons (.of (i := Tryd.t184) (by kernel_rfl) Tryd.underlying184 rfl rfl rfl ⟨_, rfl, rfl⟩ (fun _ e => by cases e) rfl rfl (fun h => absurd rfl h)) 
  (tys_cons (.of (i := Tryd.t185) (by kernel_rfl) Tryd.underlying185 rfl rfl rfl ⟨_, _, _, rfl⟩ (fun _ e => by cases e) rfl rfl (fun h => absurd rfl h)) 
  (tys_cons (.of (i := Tryd.t186) (by kernel_rfl) Tryd.underlying186 rfl rfl rfl rfl (fun _ e => by cases e) rfl rfl (fun h => absurd rfl h)) 
  (tys_cons (.of (i := Tryd.t187) (by kernel_rfl) Tryd.underlying187 rfl rfl rfl ⟨_, _, _, rfl⟩ (fun _ e => by cases e) rfl rfl (fun h => absurd rfl h)) 
  (tys_cons (.of (i := Tryd.t188) (by kernel_rfl) Tryd.underlying188 rfl rfl rfl ⟨_, _, _, rfl⟩ (fun _ e => by cases e) rfl rfl (fun h => absurd rfl h)) 
  (tys_cons (.of (i := Tryd.t190) (by kernel_rfl) Tryd.underlying190 rfl rfl rfl ⟨_, _, _, rfl⟩ (fun _ e => by cases e) rfl rfl (fun h => absurd rfl h)) 
  (tys_cons (.of (i := Tryd.t191) (by kernel_rfl) Tryd.underlying191 rfl rfl rfl ⟨_, _, _, rfl⟩ (fun _ e => by cases e) rfl rfl (fun h => absurd rfl h)) 
  (tys_cons (.of (i := Tryd.t192) (by kernel_rfl) Tryd.underlying192 rfl rfl rfl ⟨_, _, _, rfl⟩ (fun _ e => by cases e) rfl rfl (fun h => absurd rfl h)) 
  (tys_cons (.of (i := Tryd.t193) (by kernel_rfl) Tryd.underlying193 rfl rfl rfl rfl (fun _ e => by cases e) rfl rfl (fun h => absurd rfl h)) 
  (tys_cons (.of (i := Tryd.t194) (by kernel_rfl) Tryd.underlying194 rfl rfl rfl rfl (fun _ e => by cases e) rfl rfl (fun h => absurd rfl h)) 
  (tys_cons (.of (i := Tryd.t195) (by kernel_rfl) Tryd.underlying195 rfl rfl rfl ⟨_, _, _, rfl⟩ (fun _ e => by cases e) rfl rfl (fun h => absurd rfl h)) 
  (tys_cons (.of (i := Tryd.t196) (by kernel_rfl) Tryd.underlying196 rfl rfl rfl ⟨_, _, _, rfl⟩ (fun _ e => by cases e) rfl rfl (fun h => absurd rfl h)) 
  (tys_cons (.of (i := Tryd.t197) (by kernel_rfl) Tryd.underlying197 rfl rfl rfl rfl (fun _ e => by cases e) rfl rfl (fun h => absurd rfl h)) 
  (tys_cons (.of (i := Tryd.t198) (by kernel_rfl) Tryd.underlying198 rfl rfl rfl rfl (fun _ e => by cases e) rfl rfl (fun h => absurd rfl h)) 
  (tys_cons (.of (i := Tryd.t199) (by kernel_rfl) Tryd.underlying199 rfl rfl rfl ⟨_, rfl, rfl⟩ (fun _ e => by cases e) rfl rfl (fun h => absurd rfl h)) 
  (tys_cons (.of (i := Tryd.t200) (by kernel_rfl) Tryd.underlying200 rfl rfl rfl ⟨_, rfl, rfl⟩ (fun _ e => by cases e) rfl rfl (fun h => absurd rfl h)) 
  (tys_cons (.of (i := Tryd.t201) (by kernel_rfl) Tryd.underlying201 rfl rfl rfl rfl (fun _ e => by cases e) rfl rfl (fun h => absurd rfl h)) 
  (tys_cons (.of (i := Tryd.t202) (by kernel_rfl) Tryd.underlying202 rfl rfl rfl ⟨_, rfl, rfl⟩ (fun _ e => by cases e) rfl rfl (fun h => absurd rfl h)) 
  (tys_cons (.of (i := Tryd.t203) (by kernel_rfl) Tryd.underlying203 rfl rfl rfl ⟨_, rfl, rfl⟩ (fun _ e => by cases e) rfl rfl (fun h => absurd rfl h)) 
  (tys_cons (.of (i := Tryd.t204) (by kernel_rfl) Tryd.underlying204 rfl rfl rfl rfl (fun _ e => by cases e) rfl rfl (fun h => absurd rfl h)) 
  (tys_cons (.of (i := Tryd.t205) (by kernel_rfl) Tryd.underlying205 rfl rfl rfl rfl (fun _ e => by cases e) rfl rfl (fun h => absurd rfl h)) 
  (tys_cons (.of (i := Tryd.t206) (by kernel_rfl) Tryd.underlying206 rfl rfl rfl ⟨_, _, _, rfl⟩ (fun _ e => by cases e) rfl rfl (fun h => absurd rfl h)) 
  (tys_cons (.of (i := Tryd.t207) (by kernel_rfl) Tryd.underlying207 rfl rfl rfl rfl (fun _ e => by cases e) rfl rfl (fun h => absurd rfl h)) 
  (tys_cons (.of (i := Tryd.t208) (by kernel_rfl) Tryd.underlying208 rfl rfl rfl rfl (fun _ e => by cases e) rfl rfl (fun h => absurd rfl h)) 
  (tys_cons (.of (i := Tryd.t209) (by kernel_rfl) Tryd.underlying209 rfl rfl rfl ⟨_, rfl, rfl⟩ (fun _ e => by cases e) rfl rfl (fun h => absurd rfl h)) 
  (tys_cons (.of (i := Tryd.t210) (by kernel_rfl) Tryd.underlying210 rfl rfl rfl ⟨_, rfl, rfl⟩ (fun _ e => by cases e) rfl rfl (fun h => absurd rfl h)) tys_nil))))))))))))))))))))))))))))))))))))))))))))))))))))))))))))))))))))))))))))))))))))))))))))))))))))))))))))))))))))))))))))))))))))))))))))))))))))))))))))))))))))))))))))))))))))))))))))))))

/-- The program, behind a name. -/
class IsProg (P : Program) : Prop where
  eq : P = Tryd.prog
instance : IsProg Tryd.prog := ⟨rfl⟩
variable {P : Program} [IsProg P]
def tau : Tys := Ax.look tyList
theorem tau_ok0 : ∀ t ti, tau t = some ti → TIok Tryd.prog t ti := tys_ok tyList_ok
theorem tau_ok : ∀ t ti, tau t = some ti → TIok P t ti := by
  have h := IsProg.eq (P := P)
  subst h
  exact tau_ok0
theorem mix0 : Tryd.prog.follows .mixedOrders = true := by kernel_rfl
theorem mix : P.follows .mixedOrders = true := by
  have h := IsProg.eq (P := P)
  subst h
  exact mix0

variable {gl : Nat → Option (List AV)}

/- analemma/analemmalaw09.DayspecReads -/
noncomputable def code3 : Code := Tryd.f3.body.getD .skip
theorem inl3 {J : Jd} {args : List AV} {H : Heap} {n : Nat} {R : AV → Heap → Nat → Prop} (hargs : args.length ≤ 58) (h : T.prop P gl n (resQ R) (bodyT tau gl J code3 58 [.tmp 4] args H n)) : CallA P gl 3 args H n R :=
  CallA.inlineE IsProg.eq tau_ok0 mix0 Tryd.func3 (by kernel_rfl) (by kernel_rfl) (by kernel_rfl) (by kernel_rfl) hargs h

/- analemma/analemmalaw09.DayspecBack -/
noncomputable def code4 : Code := Tryd.f4.body.getD .skip
theorem inl4 {J : Jd} {args : List AV} {H : Heap} {n : Nat} {R : AV → Heap → Nat → Prop} (hargs : args.length ≤ 72) (h : T.prop P gl n (resQ R) (bodyT tau gl J code4 72 [.tmp 4] args H n)) : CallA P gl 4 args H n R :=
  CallA.inlineE IsProg.eq tau_ok0 mix0 Tryd.func4 (by kernel_rfl) (by kernel_rfl) (by kernel_rfl) (by kernel_rfl) hargs h

/- analemma/analemmalaw09.DayspecWords -/
noncomputable def code5 : Code := Tryd.f5.body.getD .skip
theorem inl5 {J : Jd} {args : List AV} {H : Heap} {n : Nat} {R : AV → Heap → Nat → Prop} (hargs : args.length ≤ 140) (h : T.prop P gl n (resQ R) (bodyT tau gl J code5 140 [.tmp 10] args H n)) : CallA P gl 5 args H n R :=
  CallA.inlineE IsProg.eq tau_ok0 mix0 Tryd.func5 (by kernel_rfl) (by kernel_rfl) (by kernel_rfl) (by kernel_rfl) hargs h

/- analemma/analemmalaw09.DayspecRefuses -/
noncomputable def code6 : Code := Tryd.f6.body.getD .skip
theorem inl6 {J : Jd} {args : List AV} {H : Heap} {n : Nat} {R : AV → Heap → Nat → Prop} (hargs : args.length ≤ 157) (h : T.prop P gl n (resQ R) (bodyT tau gl J code6 157 [.tmp 6] args H n)) : CallA P gl 6 args H n R :=
  CallA.inlineE IsProg.eq tau_ok0 mix0 Tryd.func6 (by kernel_rfl) (by kernel_rfl) (by kernel_rfl) (by kernel_rfl) hargs h

/- analemma/analemmalaw39.PoolAbbrs -/
noncomputable def code7 : Code := Tryd.f7.body.getD .skip
theorem inl7 {J : Jd} {args : List AV} {H : Heap} {n : Nat} {R : AV → Heap → Nat → Prop} (hargs : args.length ≤ 62) (h : T.prop P gl n (resQ R) (bodyT tau gl J code7 62 [.tmp 2] args H n)) : CallA P gl 7 args H n R :=
  CallA.inlineE IsProg.eq tau_ok0 mix0 Tryd.func7 (by kernel_rfl) (by kernel_rfl) (by kernel_rfl) (by kernel_rfl) hargs h

/- analemma/analemmalaw39.PoolTypes -/
noncomputable def code8 : Code := Tryd.f8.body.getD .skip
theorem inl8 {J : Jd} {args : List AV} {H : Heap} {n : Nat} {R : AV → Heap → Nat → Prop} (hargs : args.length ≤ 40) (h : T.prop P gl n (resQ R) (bodyT tau gl J code8 40 [.tmp 2] args H n)) : CallA P gl 8 args H n R :=
  CallA.inlineE IsProg.eq tau_ok0 mix0 Tryd.func8 (by kernel_rfl) (by kernel_rfl) (by kernel_rfl) (by kernel_rfl) hargs h

/- analemma/analemmalaw39.PoolFound -/
noncomputable def code9 : Code := Tryd.f9.body.getD .skip
theorem inl9 {J : Jd} {args : List AV} {H : Heap} {n : Nat} {R : AV → Heap → Nat → Prop} (hargs : args.length ≤ 160) (h : T.prop P gl n (resQ R) (bodyT tau gl J code9 160 [.tmp 4] args H n)) : CallA P gl 9 args H n R :=
  CallA.inlineE IsProg.eq tau_ok0 mix0 Tryd.func9 (by kernel_rfl) (by kernel_rfl) (by kernel_rfl) (by kernel_rfl) hargs h

/- analemma/analemmalaw39.PoolOrder -/
noncomputable def code10 : Code := Tryd.f10.body.getD .skip
theorem inl10 {J : Jd} {args : List AV} {H : Heap} {n : Nat} {R : AV → Heap → Nat → Prop} (hargs : args.length ≤ 118) (h : T.prop P gl n (resQ R) (bodyT tau gl J code10 118 [.tmp 4] args H n)) : CallA P gl 10 args H n R :=
  CallA.inlineE IsProg.eq tau_ok0 mix0 Tryd.func10 (by kernel_rfl) (by kernel_rfl) (by kernel_rfl) (by kernel_rfl) hargs h

/- analemma/analemmalaw39.PoolRefuses -/
noncomputable def code11 : Code := Tryd.f11.body.getD .skip
theorem inl11 {J : Jd} {args : List AV} {H : Heap} {n : Nat} {R : AV → Heap → Nat → Prop} (hargs : args.length ≤ 137) (h : T.prop P gl n (resQ R) (bodyT tau gl J code11 137 [.tmp 6] args H n)) : CallA P gl 11 args H n R :=
  CallA.inlineE IsProg.eq tau_ok0 mix0 Tryd.func11 (by kernel_rfl) (by kernel_rfl) (by kernel_rfl) (by kernel_rfl) hargs h

/- analemma/analemmalaw39.PoolDifferent -/
noncomputable def code12 : Code := Tryd.f12.body.getD .skip
theorem inl12 {J : Jd} {args : List AV} {H : Heap} {n : Nat} {R : AV → Heap → Nat → Prop} (hargs : args.length ≤ 81) (h : T.prop P gl n (resQ R) (bodyT tau gl J code12 81 [.tmp 2] args H n)) : CallA P gl 12 args H n R :=
  CallA.inlineE IsProg.eq tau_ok0 mix0 Tryd.func12 (by kernel_rfl) (by kernel_rfl) (by kernel_rfl) (by kernel_rfl) hargs h

/- analemma/analemmalaw09.works -/
noncomputable def code13 : Code := Tryd.f13.body.getD .skip
theorem inl13 {J : Jd} {args : List AV} {H : Heap} {n : Nat} {R : AV → Heap → Nat → Prop} (hargs : args.length ≤ 86) (h : T.prop P gl n (resQ R) (bodyT tau gl J code13 86 [.tmp 0] args H n)) : CallA P gl 13 args H n R :=
  CallA.inlineE IsProg.eq tau_ok0 mix0 Tryd.func13 (by kernel_rfl) (by kernel_rfl) (by kernel_rfl) (by kernel_rfl) hargs h

/- analemma/dayspec.Parse -/
noncomputable def code14 : Code := Tryd.f14.body.getD .skip
theorem inl14 {J : Jd} {args : List AV} {H : Heap} {n : Nat} {R : AV → Heap → Nat → Prop} (hargs : args.length ≤ 74) (h : T.prop P gl n (resQ R) (bodyT tau gl J code14 74 [.cell 2 23, .tmp 3] args H n)) : CallA P gl 14 args H n R :=
  CallA.inlineE IsProg.eq tau_ok0 mix0 Tryd.func14 (by kernel_rfl) (by kernel_rfl) (by kernel_rfl) (by kernel_rfl) hargs h

/- analemma/analemmaref09.Parse -/
noncomputable def code15 : Code := Tryd.f15.body.getD .skip
theorem inl15 {J : Jd} {args : List AV} {H : Heap} {n : Nat} {R : AV → Heap → Nat → Prop} (hargs : args.length ≤ 75) (h : T.prop P gl n (resQ R) (bodyT tau gl J code15 75 [.cell 2 23, .tmp 3] args H n)) : CallA P gl 15 args H n R :=
  CallA.inlineE IsProg.eq tau_ok0 mix0 Tryd.func15 (by kernel_rfl) (by kernel_rfl) (by kernel_rfl) (by kernel_rfl) hargs h

/- analemma/dayspec.Print -/
noncomputable def code16 : Code := Tryd.f16.body.getD .skip
theorem inl16 {J : Jd} {args : List AV} {H : Heap} {n : Nat} {R : AV → Heap → Nat → Prop} (hargs : args.length ≤ 34) (h : T.prop P gl n (resQ R) (bodyT tau gl J code16 34 [.tmp 2, .tmp 3] args H n)) : CallA P gl 16 args H n R :=
  CallA.inlineE IsProg.eq tau_ok0 mix0 Tryd.func16 (by kernel_rfl) (by kernel_rfl) (by kernel_rfl) (by kernel_rfl) hargs h

/- analemma/analemmaref09.Print -/
noncomputable def code17 : Code := Tryd.f17.body.getD .skip
theorem inl17 {J : Jd} {args : List AV} {H : Heap} {n : Nat} {R : AV → Heap → Nat → Prop} (hargs : args.length ≤ 36) (h : T.prop P gl n (resQ R) (bodyT tau gl J code17 36 [.tmp 2, .tmp 3] args H n)) : CallA P gl 17 args H n R :=
  CallA.inlineE IsProg.eq tau_ok0 mix0 Tryd.func17 (by kernel_rfl) (by kernel_rfl) (by kernel_rfl) (by kernel_rfl) hargs h

/- analemma/analemmalaw09.Made -/
noncomputable def code18 : Code := Tryd.f18.body.getD .skip
theorem inl18 {J : Jd} {args : List AV} {H : Heap} {n : Nat} {R : AV → Heap → Nat → Prop} (hargs : args.length ≤ 29) (h : T.prop P gl n (resQ R) (bodyT tau gl J code18 29 [.cell 6 23] args H n)) : CallA P gl 18 args H n R :=
  CallA.inlineE IsProg.eq tau_ok0 mix0 Tryd.func18 (by kernel_rfl) (by kernel_rfl) (by kernel_rfl) (by kernel_rfl) hargs h

/- analemma/dayform.Check -/
noncomputable def code19 : Code := Tryd.f19.body.getD .skip
theorem inl19 {J : Jd} {args : List AV} {H : Heap} {n : Nat} {R : AV → Heap → Nat → Prop} (hargs : args.length ≤ 12) (h : T.prop P gl n (resQ R) (bodyT tau gl J code19 12 [.tmp 2] args H n)) : CallA P gl 19 args H n R :=
  CallA.inlineE IsProg.eq tau_ok0 mix0 Tryd.func19 (by kernel_rfl) (by kernel_rfl) (by kernel_rfl) (by kernel_rfl) hargs h

/- strings.TrimPrefix -/
noncomputable def code20 : Code := Tryd.f20.body.getD .skip
theorem inl20 {J : Jd} {args : List AV} {H : Heap} {n : Nat} {R : AV → Heap → Nat → Prop} (hargs : args.length ≤ 8) (h : T.prop P gl n (resQ R) (bodyT tau gl J code20 8 [.tmp 4] args H n)) : CallA P gl 20 args H n R :=
  CallA.inlineE IsProg.eq tau_ok0 mix0 Tryd.func20 (by kernel_rfl) (by kernel_rfl) (by kernel_rfl) (by kernel_rfl) hargs h

/- strings.ToUpper -/
noncomputable def code21 : Code := Tryd.f21.body.getD .skip
theorem inl21 {J : Jd} {args : List AV} {H : Heap} {n : Nat} {R : AV → Heap → Nat → Prop} (hargs : args.length ≤ 78) (h : T.prop P gl n (resQ R) (bodyT tau gl J code21 78 [.tmp 2] args H n)) : CallA P gl 21 args H n R :=
  CallA.inlineE IsProg.eq tau_ok0 mix0 Tryd.func21 (by kernel_rfl) (by kernel_rfl) (by kernel_rfl) (by kernel_rfl) hargs h

/- strings.HasPrefix -/
noncomputable def code22 : Code := Tryd.f22.body.getD .skip
theorem inl22 {J : Jd} {args : List AV} {H : Heap} {n : Nat} {R : AV → Heap → Nat → Prop} (hargs : args.length ≤ 8) (h : T.prop P gl n (resQ R) (bodyT tau gl J code22 8 [.tmp 4] args H n)) : CallA P gl 22 args H n R :=
  CallA.inlineE IsProg.eq tau_ok0 mix0 Tryd.func22 (by kernel_rfl) (by kernel_rfl) (by kernel_rfl) (by kernel_rfl) hargs h

/- analemma/analemmalaw39.works -/
noncomputable def code23 : Code := Tryd.f23.body.getD .skip
theorem inl23 {J : Jd} {args : List AV} {H : Heap} {n : Nat} {R : AV → Heap → Nat → Prop} (hargs : args.length ≤ 61) (h : T.prop P gl n (resQ R) (bodyT tau gl J code23 61 [.tmp 0] args H n)) : CallA P gl 23 args H n R :=
  CallA.inlineE IsProg.eq tau_ok0 mix0 Tryd.func23 (by kernel_rfl) (by kernel_rfl) (by kernel_rfl) (by kernel_rfl) hargs h

/- slices.Clone[[]string,string] -/
noncomputable def code24 : Code := Tryd.f24.body.getD .skip
theorem inl24 {J : Jd} {args : List AV} {H : Heap} {n : Nat} {R : AV → Heap → Nat → Prop} (hargs : args.length ≤ 8) (h : T.prop P gl n (resQ R) (bodyT tau gl J code24 8 [.tmp 2] args H n)) : CallA P gl 24 args H n R :=
  CallA.inlineE IsProg.eq tau_ok0 mix0 Tryd.func24 (by kernel_rfl) (by kernel_rfl) (by kernel_rfl) (by kernel_rfl) hargs h

/- analemma/pool.Abbrs -/
noncomputable def code25 : Code := Tryd.f25.body.getD .skip
theorem inl25 {J : Jd} {args : List AV} {H : Heap} {n : Nat} {R : AV → Heap → Nat → Prop} (hargs : args.length ≤ 52) (h : T.prop P gl n (resQ R) (bodyT tau gl J code25 52 [.tmp 2, .tmp 3, .tmp 4] args H n)) : CallA P gl 25 args H n R :=
  CallA.inlineE IsProg.eq tau_ok0 mix0 Tryd.func25 (by kernel_rfl) (by kernel_rfl) (by kernel_rfl) (by kernel_rfl) hargs h

/- analemma/analemmaref39.Abbrs -/
noncomputable def code26 : Code := Tryd.f26.body.getD .skip
theorem inl26 {J : Jd} {args : List AV} {H : Heap} {n : Nat} {R : AV → Heap → Nat → Prop} (hargs : args.length ≤ 85) (h : T.prop P gl n (resQ R) (bodyT tau gl J code26 85 [.tmp 2, .tmp 3, .tmp 4] args H n)) : CallA P gl 26 args H n R :=
  CallA.inlineE IsProg.eq tau_ok0 mix0 Tryd.func26 (by kernel_rfl) (by kernel_rfl) (by kernel_rfl) (by kernel_rfl) hargs h

/- slices.Equal[[]int,int] -/
noncomputable def code27 : Code := Tryd.f27.body.getD .skip
theorem inl27 {J : Jd} {args : List AV} {H : Heap} {n : Nat} {R : AV → Heap → Nat → Prop} (hargs : args.length ≤ 26) (h : T.prop P gl n (resQ R) (bodyT tau gl J code27 26 [.tmp 4] args H n)) : CallA P gl 27 args H n R :=
  CallA.inlineE IsProg.eq tau_ok0 mix0 Tryd.func27 (by kernel_rfl) (by kernel_rfl) (by kernel_rfl) (by kernel_rfl) hargs h

/- slices.Equal[[]string,string] -/
noncomputable def code28 : Code := Tryd.f28.body.getD .skip
theorem inl28 {J : Jd} {args : List AV} {H : Heap} {n : Nat} {R : AV → Heap → Nat → Prop} (hargs : args.length ≤ 26) (h : T.prop P gl n (resQ R) (bodyT tau gl J code28 26 [.tmp 4] args H n)) : CallA P gl 28 args H n R :=
  CallA.inlineE IsProg.eq tau_ok0 mix0 Tryd.func28 (by kernel_rfl) (by kernel_rfl) (by kernel_rfl) (by kernel_rfl) hargs h

/- slices.Clone[[]analemma/api.Local,analemma/api.Local] -/
noncomputable def code29 : Code := Tryd.f29.body.getD .skip
theorem inl29 {J : Jd} {args : List AV} {H : Heap} {n : Nat} {R : AV → Heap → Nat → Prop} (hargs : args.length ≤ 8) (h : T.prop P gl n (resQ R) (bodyT tau gl J code29 8 [.tmp 2] args H n)) : CallA P gl 29 args H n R :=
  CallA.inlineE IsProg.eq tau_ok0 mix0 Tryd.func29 (by kernel_rfl) (by kernel_rfl) (by kernel_rfl) (by kernel_rfl) hargs h

/- analemma/pool.Types -/
noncomputable def code30 : Code := Tryd.f30.body.getD .skip
theorem inl30 {J : Jd} {args : List AV} {H : Heap} {n : Nat} {R : AV → Heap → Nat → Prop} (hargs : args.length ≤ 42) (h : T.prop P gl n (resQ R) (bodyT tau gl J code30 42 [.tmp 2, .tmp 3] args H n)) : CallA P gl 30 args H n R :=
  CallA.inlineE IsProg.eq tau_ok0 mix0 Tryd.func30 (by kernel_rfl) (by kernel_rfl) (by kernel_rfl) (by kernel_rfl) hargs h

/- analemma/analemmaref39.Types -/
noncomputable def code31 : Code := Tryd.f31.body.getD .skip
theorem inl31 {J : Jd} {args : List AV} {H : Heap} {n : Nat} {R : AV → Heap → Nat → Prop} (hargs : args.length ≤ 49) (h : T.prop P gl n (resQ R) (bodyT tau gl J code31 49 [.tmp 2, .tmp 3] args H n)) : CallA P gl 31 args H n R :=
  CallA.inlineE IsProg.eq tau_ok0 mix0 Tryd.func31 (by kernel_rfl) (by kernel_rfl) (by kernel_rfl) (by kernel_rfl) hargs h

/- slices.Equal[[]analemma/api.Local,analemma/api.Local] -/
noncomputable def code32 : Code := Tryd.f32.body.getD .skip
theorem inl32 {J : Jd} {args : List AV} {H : Heap} {n : Nat} {R : AV → Heap → Nat → Prop} (hargs : args.length ≤ 26) (h : T.prop P gl n (resQ R) (bodyT tau gl J code32 26 [.tmp 4] args H n)) : CallA P gl 32 args H n R :=
  CallA.inlineE IsProg.eq tau_ok0 mix0 Tryd.func32 (by kernel_rfl) (by kernel_rfl) (by kernel_rfl) (by kernel_rfl) hargs h

/- analemma/analemmalaw39.Letters -/
noncomputable def code33 : Code := Tryd.f33.body.getD .skip
theorem inl33 {J : Jd} {args : List AV} {H : Heap} {n : Nat} {R : AV → Heap → Nat → Prop} (hargs : args.length ≤ 23) (h : T.prop P gl n (resQ R) (bodyT tau gl J code33 23 [.tmp 2] args H n)) : CallA P gl 33 args H n R :=
  CallA.inlineE IsProg.eq tau_ok0 mix0 Tryd.func33 (by kernel_rfl) (by kernel_rfl) (by kernel_rfl) (by kernel_rfl) hargs h

/- analemma/analemmalaw39.PoolFound$1 -/
noncomputable def code34 : Code := Tryd.f34.body.getD .skip
theorem inl34 {J : Jd} {args : List AV} {H : Heap} {n : Nat} {R : AV → Heap → Nat → Prop} (hargs : args.length ≤ 12) (h : T.prop P gl n (resQ R) (bodyT tau gl J code34 12 [.tmp 3] args H n)) : CallA P gl 34 args H n R :=
  CallA.inlineE IsProg.eq tau_ok0 mix0 Tryd.func34 (by kernel_rfl) (by kernel_rfl) (by kernel_rfl) (by kernel_rfl) hargs h

/- strings.HasSuffix -/
noncomputable def code35 : Code := Tryd.f35.body.getD .skip
theorem inl35 {J : Jd} {args : List AV} {H : Heap} {n : Nat} {R : AV → Heap → Nat → Prop} (hargs : args.length ≤ 8) (h : T.prop P gl n (resQ R) (bodyT tau gl J code35 8 [.tmp 4] args H n)) : CallA P gl 35 args H n R :=
  CallA.inlineE IsProg.eq tau_ok0 mix0 Tryd.func35 (by kernel_rfl) (by kernel_rfl) (by kernel_rfl) (by kernel_rfl) hargs h

/- slices.Index[[]string,string] -/
noncomputable def code36 : Code := Tryd.f36.body.getD .skip
theorem inl36 {J : Jd} {args : List AV} {H : Heap} {n : Nat} {R : AV → Heap → Nat → Prop} (hargs : args.length ≤ 19) (h : T.prop P gl n (resQ R) (bodyT tau gl J code36 19 [.tmp 4] args H n)) : CallA P gl 36 args H n R :=
  CallA.inlineE IsProg.eq tau_ok0 mix0 Tryd.func36 (by kernel_rfl) (by kernel_rfl) (by kernel_rfl) (by kernel_rfl) hargs h

/- slices.ContainsFunc[[]string,string] -/
noncomputable def code37 : Code := Tryd.f37.body.getD .skip
theorem inl37 {J : Jd} {args : List AV} {H : Heap} {n : Nat} {R : AV → Heap → Nat → Prop} (hargs : args.length ≤ 9) (h : T.prop P gl n (resQ R) (bodyT tau gl J code37 9 [.tmp 4] args H n)) : CallA P gl 37 args H n R :=
  CallA.inlineE IsProg.eq tau_ok0 mix0 Tryd.func37 (by kernel_rfl) (by kernel_rfl) (by kernel_rfl) (by kernel_rfl) hargs h

/- strings.IndexByte -/
noncomputable def code38 : Code := Tryd.f38.body.getD .skip
theorem inl38 {J : Jd} {args : List AV} {H : Heap} {n : Nat} {R : AV → Heap → Nat → Prop} (hargs : args.length ≤ 8) (h : T.prop P gl n (resQ R) (bodyT tau gl J code38 8 [.tmp 4] args H n)) : CallA P gl 38 args H n R :=
  CallA.inlineE IsProg.eq tau_ok0 mix0 Tryd.func38 (by kernel_rfl) (by kernel_rfl) (by kernel_rfl) (by kernel_rfl) hargs h

/- strings.Index -/
noncomputable def code39 : Code := Tryd.f39.body.getD .skip
theorem inl39 {J : Jd} {args : List AV} {H : Heap} {n : Nat} {R : AV → Heap → Nat → Prop} (hargs : args.length ≤ 8) (h : T.prop P gl n (resQ R) (bodyT tau gl J code39 8 [.tmp 4] args H n)) : CallA P gl 39 args H n R :=
  CallA.inlineE IsProg.eq tau_ok0 mix0 Tryd.func39 (by kernel_rfl) (by kernel_rfl) (by kernel_rfl) (by kernel_rfl) hargs h

/- slices.Reverse[[]string,string] -/
noncomputable def code40 : Code := Tryd.f40.body.getD .skip
theorem inl40 {J : Jd} {args : List AV} {H : Heap} {n : Nat} {R : AV → Heap → Nat → Prop} (hargs : args.length ≤ 28) (h : T.prop P gl n (resQ R) (bodyT tau gl J code40 28 [] args H n)) : CallA P gl 40 args H n R :=
  CallA.inlineE IsProg.eq tau_ok0 mix0 Tryd.func40 (by kernel_rfl) (by kernel_rfl) (by kernel_rfl) (by kernel_rfl) hargs h

/- strings.Split -/
noncomputable def code41 : Code := Tryd.f41.body.getD .skip
theorem inl41 {J : Jd} {args : List AV} {H : Heap} {n : Nat} {R : AV → Heap → Nat → Prop} (hargs : args.length ≤ 8) (h : T.prop P gl n (resQ R) (bodyT tau gl J code41 8 [.tmp 4] args H n)) : CallA P gl 41 args H n R :=
  CallA.inlineE IsProg.eq tau_ok0 mix0 Tryd.func41 (by kernel_rfl) (by kernel_rfl) (by kernel_rfl) (by kernel_rfl) hargs h

/- strings.TrimSuffix -/
noncomputable def code42 : Code := Tryd.f42.body.getD .skip
theorem inl42 {J : Jd} {args : List AV} {H : Heap} {n : Nat} {R : AV → Heap → Nat → Prop} (hargs : args.length ≤ 8) (h : T.prop P gl n (resQ R) (bodyT tau gl J code42 8 [.tmp 4] args H n)) : CallA P gl 42 args H n R :=
  CallA.inlineE IsProg.eq tau_ok0 mix0 Tryd.func42 (by kernel_rfl) (by kernel_rfl) (by kernel_rfl) (by kernel_rfl) hargs h

/- slices.Insert[[]string,string] -/
noncomputable def code43 : Code := Tryd.f43.body.getD .skip
theorem inl43 {J : Jd} {args : List AV} {H : Heap} {n : Nat} {R : AV → Heap → Nat → Prop} (hargs : args.length ≤ 95) (h : T.prop P gl n (resQ R) (bodyT tau gl J code43 95 [.tmp 6] args H n)) : CallA P gl 43 args H n R :=
  CallA.inlineE IsProg.eq tau_ok0 mix0 Tryd.func43 (by kernel_rfl) (by kernel_rfl) (by kernel_rfl) (by kernel_rfl) hargs h

/- analemma/analemmalaw39.names -/
noncomputable def code44 : Code := Tryd.f44.body.getD .skip
theorem inl44 {J : Jd} {args : List AV} {H : Heap} {n : Nat} {R : AV → Heap → Nat → Prop} (hargs : args.length ≤ 18) (h : T.prop P gl n (resQ R) (bodyT tau gl J code44 18 [.tmp 2] args H n)) : CallA P gl 44 args H n R :=
  CallA.inlineE IsProg.eq tau_ok0 mix0 Tryd.func44 (by kernel_rfl) (by kernel_rfl) (by kernel_rfl) (by kernel_rfl) hargs h

/- strings.Repeat -/
noncomputable def code45 : Code := Tryd.f45.body.getD .skip
theorem inl45 {J : Jd} {args : List AV} {H : Heap} {n : Nat} {R : AV → Heap → Nat → Prop} (hargs : args.length ≤ 125) (h : T.prop P gl n (resQ R) (bodyT tau gl J code45 125 [.tmp 4] args H n)) : CallA P gl 45 args H n R :=
  CallA.inlineE IsProg.eq tau_ok0 mix0 Tryd.func45 (by kernel_rfl) (by kernel_rfl) (by kernel_rfl) (by kernel_rfl) hargs h

/- slices.Index[[]analemma/api.Local,analemma/api.Local] -/
noncomputable def code46 : Code := Tryd.f46.body.getD .skip
theorem inl46 {J : Jd} {args : List AV} {H : Heap} {n : Nat} {R : AV → Heap → Nat → Prop} (hargs : args.length ≤ 19) (h : T.prop P gl n (resQ R) (bodyT tau gl J code46 19 [.tmp 4] args H n)) : CallA P gl 46 args H n R :=
  CallA.inlineE IsProg.eq tau_ok0 mix0 Tryd.func46 (by kernel_rfl) (by kernel_rfl) (by kernel_rfl) (by kernel_rfl) hargs h

/- strings.IndexAny -/
noncomputable def code47 : Code := Tryd.f47.body.getD .skip
theorem inl47 {J : Jd} {args : List AV} {H : Heap} {n : Nat} {R : AV → Heap → Nat → Prop} (hargs : args.length ≤ 55) (h : T.prop P gl n (resQ R) (bodyT tau gl J code47 55 [.tmp 4] args H n)) : CallA P gl 47 args H n R :=
  CallA.inlineE IsProg.eq tau_ok0 mix0 Tryd.func47 (by kernel_rfl) (by kernel_rfl) (by kernel_rfl) (by kernel_rfl) hargs h

/- (analemma/dayspec.operator).kind -/
noncomputable def code48 : Code := Tryd.f48.body.getD .skip
theorem inl48 {J : Jd} {args : List AV} {H : Heap} {n : Nat} {R : AV → Heap → Nat → Prop} (hargs : args.length ≤ 11) (h : T.prop P gl n (resQ R) (bodyT tau gl J code48 11 [.tmp 2] args H n)) : CallA P gl 48 args H n R :=
  CallA.inlineE IsProg.eq tau_ok0 mix0 Tryd.func48 (by kernel_rfl) (by kernel_rfl) (by kernel_rfl) (by kernel_rfl) hargs h

/- analemma/dayspec.between -/
noncomputable def code49 : Code := Tryd.f49.body.getD .skip
theorem inl49 {J : Jd} {args : List AV} {H : Heap} {n : Nat} {R : AV → Heap → Nat → Prop} (hargs : args.length ≤ 33) (h : T.prop P gl n (resQ R) (bodyT tau gl J code49 33 [.cell 6 23, .tmp 7] args H n)) : CallA P gl 49 args H n R :=
  CallA.inlineE IsProg.eq tau_ok0 mix0 Tryd.func49 (by kernel_rfl) (by kernel_rfl) (by kernel_rfl) (by kernel_rfl) hargs h

/- strings.EqualFold -/
noncomputable def code50 : Code := Tryd.f50.body.getD .skip
theorem inl50 {J : Jd} {args : List AV} {H : Heap} {n : Nat} {R : AV → Heap → Nat → Prop} (hargs : args.length ≤ 123) (h : T.prop P gl n (resQ R) (bodyT tau gl J code50 123 [.tmp 4] args H n)) : CallA P gl 50 args H n R :=
  CallA.inlineE IsProg.eq tau_ok0 mix0 Tryd.func50 (by kernel_rfl) (by kernel_rfl) (by kernel_rfl) (by kernel_rfl) hargs h

/- analemma/word.Week -/
noncomputable def code51 : Code := Tryd.f51.body.getD .skip
theorem inl51 {J : Jd} {args : List AV} {H : Heap} {n : Nat} {R : AV → Heap → Nat → Prop} (hargs : args.length ≤ 9) (h : T.prop P gl n (resQ R) (bodyT tau gl J code51 9 [.tmp 2, .tmp 3] args H n)) : CallA P gl 51 args H n R :=
  CallA.inlineE IsProg.eq tau_ok0 mix0 Tryd.func51 (by kernel_rfl) (by kernel_rfl) (by kernel_rfl) (by kernel_rfl) hargs h

/- analemma/dayspec.dayNumber -/
noncomputable def code52 : Code := Tryd.f52.body.getD .skip
theorem inl52 {J : Jd} {args : List AV} {H : Heap} {n : Nat} {R : AV → Heap → Nat → Prop} (hargs : args.length ≤ 20) (h : T.prop P gl n (resQ R) (bodyT tau gl J code52 20 [.tmp 2, .tmp 3] args H n)) : CallA P gl 52 args H n R :=
  CallA.inlineE IsProg.eq tau_ok0 mix0 Tryd.func52 (by kernel_rfl) (by kernel_rfl) (by kernel_rfl) (by kernel_rfl) hargs h

/- analemma/analemmaref09.sign -/
noncomputable def code53 : Code := Tryd.f53.body.getD .skip
theorem inl53 {J : Jd} {args : List AV} {H : Heap} {n : Nat} {R : AV → Heap → Nat → Prop} (hargs : args.length ≤ 34) (h : T.prop P gl n (resQ R) (bodyT tau gl J code53 34 [.tmp 2, .tmp 3] args H n)) : CallA P gl 53 args H n R :=
  CallA.inlineE IsProg.eq tau_ok0 mix0 Tryd.func53 (by kernel_rfl) (by kernel_rfl) (by kernel_rfl) (by kernel_rfl) hargs h

/- analemma/analemmaref08.Week -/
noncomputable def code54 : Code := Tryd.f54.body.getD .skip
theorem inl54 {J : Jd} {args : List AV} {H : Heap} {n : Nat} {R : AV → Heap → Nat → Prop} (hargs : args.length ≤ 9) (h : T.prop P gl n (resQ R) (bodyT tau gl J code54 9 [.tmp 2, .tmp 3] args H n)) : CallA P gl 54 args H n R :=
  CallA.inlineE IsProg.eq tau_ok0 mix0 Tryd.func54 (by kernel_rfl) (by kernel_rfl) (by kernel_rfl) (by kernel_rfl) hargs h

/- analemma/analemmaref09.number -/
noncomputable def code55 : Code := Tryd.f55.body.getD .skip
theorem inl55 {J : Jd} {args : List AV} {H : Heap} {n : Nat} {R : AV → Heap → Nat → Prop} (hargs : args.length ≤ 46) (h : T.prop P gl n (resQ R) (bodyT tau gl J code55 46 [.tmp 2, .tmp 3] args H n)) : CallA P gl 55 args H n R :=
  CallA.inlineE IsProg.eq tau_ok0 mix0 Tryd.func55 (by kernel_rfl) (by kernel_rfl) (by kernel_rfl) (by kernel_rfl) hargs h

/- analemma/analemmaref09.last -/
noncomputable def code56 : Code := Tryd.f56.body.getD .skip
theorem inl56 {J : Jd} {args : List AV} {H : Heap} {n : Nat} {R : AV → Heap → Nat → Prop} (hargs : args.length ≤ 25) (h : T.prop P gl n (resQ R) (bodyT tau gl J code56 25 [.tmp 2] args H n)) : CallA P gl 56 args H n R :=
  CallA.inlineE IsProg.eq tau_ok0 mix0 Tryd.func56 (by kernel_rfl) (by kernel_rfl) (by kernel_rfl) (by kernel_rfl) hargs h

/- analemma/word.WeekText -/
noncomputable def code57 : Code := Tryd.f57.body.getD .skip
theorem inl57 {J : Jd} {args : List AV} {H : Heap} {n : Nat} {R : AV → Heap → Nat → Prop} (hargs : args.length ≤ 6) (h : T.prop P gl n (resQ R) (bodyT tau gl J code57 6 [.tmp 2] args H n)) : CallA P gl 57 args H n R :=
  CallA.inlineE IsProg.eq tau_ok0 mix0 Tryd.func57 (by kernel_rfl) (by kernel_rfl) (by kernel_rfl) (by kernel_rfl) hargs h

/- strconv.Itoa -/
noncomputable def code58 : Code := Tryd.f58.body.getD .skip
theorem inl58 {J : Jd} {args : List AV} {H : Heap} {n : Nat} {R : AV → Heap → Nat → Prop} (hargs : args.length ≤ 5) (h : T.prop P gl n (resQ R) (bodyT tau gl J code58 5 [.tmp 2] args H n)) : CallA P gl 58 args H n R :=
  CallA.inlineE IsProg.eq tau_ok0 mix0 Tryd.func58 (by kernel_rfl) (by kernel_rfl) (by kernel_rfl) (by kernel_rfl) hargs h

/- analemma/analemmaref02.Check -/
noncomputable def code59 : Code := Tryd.f59.body.getD .skip
theorem inl59 {J : Jd} {args : List AV} {H : Heap} {n : Nat} {R : AV → Heap → Nat → Prop} (hargs : args.length ≤ 51) (h : T.prop P gl n (resQ R) (bodyT tau gl J code59 51 [.tmp 2] args H n)) : CallA P gl 59 args H n R :=
  CallA.inlineE IsProg.eq tau_ok0 mix0 Tryd.func59 (by kernel_rfl) (by kernel_rfl) (by kernel_rfl) (by kernel_rfl) hargs h

/- analemma/analemmaref08.WeekText -/
noncomputable def code60 : Code := Tryd.f60.body.getD .skip
theorem inl60 {J : Jd} {args : List AV} {H : Heap} {n : Nat} {R : AV → Heap → Nat → Prop} (hargs : args.length ≤ 14) (h : T.prop P gl n (resQ R) (bodyT tau gl J code60 14 [.tmp 2] args H n)) : CallA P gl 60 args H n R :=
  CallA.inlineE IsProg.eq tau_ok0 mix0 Tryd.func60 (by kernel_rfl) (by kernel_rfl) (by kernel_rfl) (by kernel_rfl) hargs h

/- analemma/analemmaref09.digits -/
noncomputable def code61 : Code := Tryd.f61.body.getD .skip
theorem inl61 {J : Jd} {args : List AV} {H : Heap} {n : Nat} {R : AV → Heap → Nat → Prop} (hargs : args.length ≤ 19) (h : T.prop P gl n (resQ R) (bodyT tau gl J code61 19 [.tmp 2] args H n)) : CallA P gl 61 args H n R :=
  CallA.inlineE IsProg.eq tau_ok0 mix0 Tryd.func61 (by kernel_rfl) (by kernel_rfl) (by kernel_rfl) (by kernel_rfl) hargs h

/- analemma/dayform.find -/
noncomputable def code62 : Code := Tryd.f62.body.getD .skip
theorem inl62 {J : Jd} {args : List AV} {H : Heap} {n : Nat} {R : AV → Heap → Nat → Prop} (hargs : args.length ≤ 65) (h : T.prop P gl n (resQ R) (bodyT tau gl J code62 65 [.cell 2 89, .tmp 3] args H n)) : CallA P gl 62 args H n R :=
  CallA.inlineE IsProg.eq tau_ok0 mix0 Tryd.func62 (by kernel_rfl) (by kernel_rfl) (by kernel_rfl) (by kernel_rfl) hargs h

/- internal/stringslite.TrimPrefix -/
noncomputable def code63 : Code := Tryd.f63.body.getD .skip
theorem inl63 {J : Jd} {args : List AV} {H : Heap} {n : Nat} {R : AV → Heap → Nat → Prop} (hargs : args.length ≤ 13) (h : T.prop P gl n (resQ R) (bodyT tau gl J code63 13 [.tmp 4] args H n)) : CallA P gl 63 args H n R :=
  CallA.inlineE IsProg.eq tau_ok0 mix0 Tryd.func63 (by kernel_rfl) (by kernel_rfl) (by kernel_rfl) (by kernel_rfl) hargs h

/- (*strings.Builder).Grow -/
noncomputable def code64 : Code := Tryd.f64.body.getD .skip
theorem inl64 {J : Jd} {args : List AV} {H : Heap} {n : Nat} {R : AV → Heap → Nat → Prop} (hargs : args.length ≤ 25) (h : T.prop P gl n (resQ R) (bodyT tau gl J code64 25 [] args H n)) : CallA P gl 64 args H n R :=
  CallA.inlineE IsProg.eq tau_ok0 mix0 Tryd.func64 (by kernel_rfl) (by kernel_rfl) (by kernel_rfl) (by kernel_rfl) hargs h

/- (*strings.Builder).WriteString -/
noncomputable def code65 : Code := Tryd.f65.body.getD .skip
theorem inl65 {J : Jd} {args : List AV} {H : Heap} {n : Nat} {R : AV → Heap → Nat → Prop} (hargs : args.length ≤ 19) (h : T.prop P gl n (resQ R) (bodyT tau gl J code65 19 [.tmp 4, .tmp 5] args H n)) : CallA P gl 65 args H n R :=
  CallA.inlineE IsProg.eq tau_ok0 mix0 Tryd.func65 (by kernel_rfl) (by kernel_rfl) (by kernel_rfl) (by kernel_rfl) hargs h

/- (*strings.Builder).WriteByte -/
noncomputable def code66 : Code := Tryd.f66.body.getD .skip
theorem inl66 {J : Jd} {args : List AV} {H : Heap} {n : Nat} {R : AV → Heap → Nat → Prop} (hargs : args.length ≤ 17) (h : T.prop P gl n (resQ R) (bodyT tau gl J code66 17 [.tmp 4] args H n)) : CallA P gl 66 args H n R :=
  CallA.inlineE IsProg.eq tau_ok0 mix0 Tryd.func66 (by kernel_rfl) (by kernel_rfl) (by kernel_rfl) (by kernel_rfl) hargs h

/- (*strings.Builder).String -/
noncomputable def code67 : Code := Tryd.f67.body.getD .skip
theorem inl67 {J : Jd} {args : List AV} {H : Heap} {n : Nat} {R : AV → Heap → Nat → Prop} (hargs : args.length ≤ 14) (h : T.prop P gl n (resQ R) (bodyT tau gl J code67 14 [.tmp 2] args H n)) : CallA P gl 67 args H n R :=
  CallA.inlineE IsProg.eq tau_ok0 mix0 Tryd.func67 (by kernel_rfl) (by kernel_rfl) (by kernel_rfl) (by kernel_rfl) hargs h

/- strings.Map -/
noncomputable def code68 : Code := Tryd.f68.body.getD .skip
theorem inl68 {J : Jd} {args : List AV} {H : Heap} {n : Nat} {R : AV → Heap → Nat → Prop} (hargs : args.length ≤ 85) (h : T.prop P gl n (resQ R) (bodyT tau gl J code68 85 [.tmp 4] args H n)) : CallA P gl 68 args H n R :=
  CallA.inlineE IsProg.eq tau_ok0 mix0 Tryd.func68 (by kernel_rfl) (by kernel_rfl) (by kernel_rfl) (by kernel_rfl) hargs h

/- unicode.ToUpper -/
noncomputable def code69 : Code := Tryd.f69.body.getD .skip
theorem inl69 {J : Jd} {args : List AV} {H : Heap} {n : Nat} {R : AV → Heap → Nat → Prop} (hargs : args.length ≤ 16) (h : T.prop P gl n (resQ R) (bodyT tau gl J code69 16 [.tmp 2] args H n)) : CallA P gl 69 args H n R :=
  CallA.inlineE IsProg.eq tau_ok0 mix0 Tryd.func69 (by kernel_rfl) (by kernel_rfl) (by kernel_rfl) (by kernel_rfl) hargs h

/- internal/stringslite.HasPrefix -/
noncomputable def code70 : Code := Tryd.f70.body.getD .skip
theorem inl70 {J : Jd} {args : List AV} {H : Heap} {n : Nat} {R : AV → Heap → Nat → Prop} (hargs : args.length ≤ 18) (h : T.prop P gl n (resQ R) (bodyT tau gl J code70 18 [.tmp 4] args H n)) : CallA P gl 70 args H n R :=
  CallA.inlineE IsProg.eq tau_ok0 mix0 Tryd.func70 (by kernel_rfl) (by kernel_rfl) (by kernel_rfl) (by kernel_rfl) hargs h

/- analemma/analemmalaw39.has -/
noncomputable def code71 : Code := Tryd.f71.body.getD .skip
theorem inl71 {J : Jd} {args : List AV} {H : Heap} {n : Nat} {R : AV → Heap → Nat → Prop} (hargs : args.length ≤ 29) (h : T.prop P gl n (resQ R) (bodyT tau gl J code71 29 [.tmp 6] args H n)) : CallA P gl 71 args H n R :=
  CallA.inlineE IsProg.eq tau_ok0 mix0 Tryd.func71 (by kernel_rfl) (by kernel_rfl) (by kernel_rfl) (by kernel_rfl) hargs h

/- analemma/pool.Abbrs$1 -/
noncomputable def code72 : Code := Tryd.f72.body.getD .skip
theorem inl72 {J : Jd} {args : List AV} {H : Heap} {n : Nat} {R : AV → Heap → Nat → Prop} (hargs : args.length ≤ 9) (h : T.prop P gl n (resQ R) (bodyT tau gl J code72 9 [.tmp 2] args H n)) : CallA P gl 72 args H n R :=
  CallA.inlineE IsProg.eq tau_ok0 mix0 Tryd.func72 (by kernel_rfl) (by kernel_rfl) (by kernel_rfl) (by kernel_rfl) hargs h

/- strings.Contains -/
noncomputable def code73 : Code := Tryd.f73.body.getD .skip
theorem inl73 {J : Jd} {args : List AV} {H : Heap} {n : Nat} {R : AV → Heap → Nat → Prop} (hargs : args.length ≤ 9) (h : T.prop P gl n (resQ R) (bodyT tau gl J code73 9 [.tmp 4] args H n)) : CallA P gl 73 args H n R :=
  CallA.inlineE IsProg.eq tau_ok0 mix0 Tryd.func73 (by kernel_rfl) (by kernel_rfl) (by kernel_rfl) (by kernel_rfl) hargs h

/- analemma/pool.Abbrs$2 -/
noncomputable def code74 : Code := Tryd.f74.body.getD .skip
theorem inl74 {J : Jd} {args : List AV} {H : Heap} {n : Nat} {R : AV → Heap → Nat → Prop} (hargs : args.length ≤ 28) (h : T.prop P gl n (resQ R) (bodyT tau gl J code74 28 [] args H n)) : CallA P gl 74 args H n R :=
  CallA.inlineE IsProg.eq tau_ok0 mix0 Tryd.func74 (by kernel_rfl) (by kernel_rfl) (by kernel_rfl) (by kernel_rfl) hargs h

/- slices.SortStableFunc[[]string,string] -/
noncomputable def code75 : Code := Tryd.f75.body.getD .skip
theorem inl75 {J : Jd} {args : List AV} {H : Heap} {n : Nat} {R : AV → Heap → Nat → Prop} (hargs : args.length ≤ 9) (h : T.prop P gl n (resQ R) (bodyT tau gl J code75 9 [] args H n)) : CallA P gl 75 args H n R :=
  CallA.inlineE IsProg.eq tau_ok0 mix0 Tryd.func75 (by kernel_rfl) (by kernel_rfl) (by kernel_rfl) (by kernel_rfl) hargs h

/- analemma/pool.Abbrs$3 -/
noncomputable def code76 : Code := Tryd.f76.body.getD .skip
theorem inl76 {J : Jd} {args : List AV} {H : Heap} {n : Nat} {R : AV → Heap → Nat → Prop} (hargs : args.length ≤ 10) (h : T.prop P gl n (resQ R) (bodyT tau gl J code76 10 [.tmp 4] args H n)) : CallA P gl 76 args H n R :=
  CallA.inlineE IsProg.eq tau_ok0 mix0 Tryd.func76 (by kernel_rfl) (by kernel_rfl) (by kernel_rfl) (by kernel_rfl) hargs h

/- cmp.Compare[int] -/
noncomputable def code77 : Code := Tryd.f77.body.getD .skip
theorem inl77 {J : Jd} {args : List AV} {H : Heap} {n : Nat} {R : AV → Heap → Nat → Prop} (hargs : args.length ≤ 20) (h : T.prop P gl n (resQ R) (bodyT tau gl J code77 20 [.tmp 4] args H n)) : CallA P gl 77 args H n R :=
  CallA.inlineE IsProg.eq tau_ok0 mix0 Tryd.func77 (by kernel_rfl) (by kernel_rfl) (by kernel_rfl) (by kernel_rfl) hargs h

/- analemma/analemmaref39.stands -/
noncomputable def code78 : Code := Tryd.f78.body.getD .skip
theorem inl78 {J : Jd} {args : List AV} {H : Heap} {n : Nat} {R : AV → Heap → Nat → Prop} (hargs : args.length ≤ 16) (h : T.prop P gl n (resQ R) (bodyT tau gl J code78 16 [.tmp 2] args H n)) : CallA P gl 78 args H n R :=
  CallA.inlineE IsProg.eq tau_ok0 mix0 Tryd.func78 (by kernel_rfl) (by kernel_rfl) (by kernel_rfl) (by kernel_rfl) hargs h

/- analemma/analemmaref39.place -/
noncomputable def code79 : Code := Tryd.f79.body.getD .skip
theorem inl79 {J : Jd} {args : List AV} {H : Heap} {n : Nat} {R : AV → Heap → Nat → Prop} (hargs : args.length ≤ 28) (h : T.prop P gl n (resQ R) (bodyT tau gl J code79 28 [.tmp 4] args H n)) : CallA P gl 79 args H n R :=
  CallA.inlineE IsProg.eq tau_ok0 mix0 Tryd.func79 (by kernel_rfl) (by kernel_rfl) (by kernel_rfl) (by kernel_rfl) hargs h

/- analemma/analemmalaw07.Letters -/
noncomputable def code80 : Code := Tryd.f80.body.getD .skip
theorem inl80 {J : Jd} {args : List AV} {H : Heap} {n : Nat} {R : AV → Heap → Nat → Prop} (hargs : args.length ≤ 46) (h : T.prop P gl n (resQ R) (bodyT tau gl J code80 46 [.tmp 6] args H n)) : CallA P gl 80 args H n R :=
  CallA.inlineE IsProg.eq tau_ok0 mix0 Tryd.func80 (by kernel_rfl) (by kernel_rfl) (by kernel_rfl) (by kernel_rfl) hargs h

/- internal/stringslite.HasSuffix -/
noncomputable def code81 : Code := Tryd.f81.body.getD .skip
theorem inl81 {J : Jd} {args : List AV} {H : Heap} {n : Nat} {R : AV → Heap → Nat → Prop} (hargs : args.length ≤ 21) (h : T.prop P gl n (resQ R) (bodyT tau gl J code81 21 [.tmp 4] args H n)) : CallA P gl 81 args H n R :=
  CallA.inlineE IsProg.eq tau_ok0 mix0 Tryd.func81 (by kernel_rfl) (by kernel_rfl) (by kernel_rfl) (by kernel_rfl) hargs h

/- slices.IndexFunc[[]string,string] -/
noncomputable def code82 : Code := Tryd.f82.body.getD .skip
theorem inl82 {J : Jd} {args : List AV} {H : Heap} {n : Nat} {R : AV → Heap → Nat → Prop} (hargs : args.length ≤ 19) (h : T.prop P gl n (resQ R) (bodyT tau gl J code82 19 [.tmp 4] args H n)) : CallA P gl 82 args H n R :=
  CallA.inlineE IsProg.eq tau_ok0 mix0 Tryd.func82 (by kernel_rfl) (by kernel_rfl) (by kernel_rfl) (by kernel_rfl) hargs h

/- internal/stringslite.IndexByte -/
noncomputable def code83 : Code := Tryd.f83.body.getD .skip
theorem inl83 {J : Jd} {args : List AV} {H : Heap} {n : Nat} {R : AV → Heap → Nat → Prop} (hargs : args.length ≤ 8) (h : T.prop P gl n (resQ R) (bodyT tau gl J code83 8 [.tmp 4] args H n)) : CallA P gl 83 args H n R :=
  CallA.inlineE IsProg.eq tau_ok0 mix0 Tryd.func83 (by kernel_rfl) (by kernel_rfl) (by kernel_rfl) (by kernel_rfl) hargs h

/- internal/stringslite.Index -/
noncomputable def code84 : Code := Tryd.f84.body.getD .skip
theorem inl84 {J : Jd} {args : List AV} {H : Heap} {n : Nat} {R : AV → Heap → Nat → Prop} (hargs : args.length ≤ 143) (h : T.prop P gl n (resQ R) (bodyT tau gl J code84 143 [.tmp 4] args H n)) : CallA P gl 84 args H n R :=
  CallA.inlineE IsProg.eq tau_ok0 mix0 Tryd.func84 (by kernel_rfl) (by kernel_rfl) (by kernel_rfl) (by kernel_rfl) hargs h

/- strings.genSplit -/
noncomputable def code85 : Code := Tryd.f85.body.getD .skip
theorem inl85 {J : Jd} {args : List AV} {H : Heap} {n : Nat} {R : AV → Heap → Nat → Prop} (hargs : args.length ≤ 66) (h : T.prop P gl n (resQ R) (bodyT tau gl J code85 66 [.tmp 8] args H n)) : CallA P gl 85 args H n R :=
  CallA.inlineE IsProg.eq tau_ok0 mix0 Tryd.func85 (by kernel_rfl) (by kernel_rfl) (by kernel_rfl) (by kernel_rfl) hargs h

/- internal/stringslite.TrimSuffix -/
noncomputable def code86 : Code := Tryd.f86.body.getD .skip
theorem inl86 {J : Jd} {args : List AV} {H : Heap} {n : Nat} {R : AV → Heap → Nat → Prop} (hargs : args.length ≤ 16) (h : T.prop P gl n (resQ R) (bodyT tau gl J code86 16 [.tmp 4] args H n)) : CallA P gl 86 args H n R :=
  CallA.inlineE IsProg.eq tau_ok0 mix0 Tryd.func86 (by kernel_rfl) (by kernel_rfl) (by kernel_rfl) (by kernel_rfl) hargs h

/- slices.rotateRight[string] -/
noncomputable def code88 : Code := Tryd.f88.body.getD .skip
theorem inl88 {J : Jd} {args : List AV} {H : Heap} {n : Nat} {R : AV → Heap → Nat → Prop} (hargs : args.length ≤ 10) (h : T.prop P gl n (resQ R) (bodyT tau gl J code88 10 [] args H n)) : CallA P gl 88 args H n R :=
  CallA.inlineE IsProg.eq tau_ok0 mix0 Tryd.func88 (by kernel_rfl) (by kernel_rfl) (by kernel_rfl) (by kernel_rfl) hargs h

/- math/bits.Mul -/
noncomputable def code89 : Code := Tryd.f89.body.getD .skip
theorem inl89 {J : Jd} {args : List AV} {H : Heap} {n : Nat} {R : AV → Heap → Nat → Prop} (hargs : args.length ≤ 30) (h : T.prop P gl n (resQ R) (bodyT tau gl J code89 30 [.tmp 4, .tmp 5] args H n)) : CallA P gl 89 args H n R :=
  CallA.inlineE IsProg.eq tau_ok0 mix0 Tryd.func89 (by kernel_rfl) (by kernel_rfl) (by kernel_rfl) (by kernel_rfl) hargs h

/- (*strings.Builder).Len -/
noncomputable def code90 : Code := Tryd.f90.body.getD .skip
theorem inl90 {J : Jd} {args : List AV} {H : Heap} {n : Nat} {R : AV → Heap → Nat → Prop} (hargs : args.length ≤ 8) (h : T.prop P gl n (resQ R) (bodyT tau gl J code90 8 [.tmp 2] args H n)) : CallA P gl 90 args H n R :=
  CallA.inlineE IsProg.eq tau_ok0 mix0 Tryd.func90 (by kernel_rfl) (by kernel_rfl) (by kernel_rfl) (by kernel_rfl) hargs h

/- strings.IndexRune -/
noncomputable def code91 : Code := Tryd.f91.body.getD .skip
theorem inl91 {J : Jd} {args : List AV} {H : Heap} {n : Nat} {R : AV → Heap → Nat → Prop} (hargs : args.length ≤ 187) (h : T.prop P gl n (resQ R) (bodyT tau gl J code91 187 [.tmp 4] args H n)) : CallA P gl 91 args H n R :=
  CallA.inlineE IsProg.eq tau_ok0 mix0 Tryd.func91 (by kernel_rfl) (by kernel_rfl) (by kernel_rfl) (by kernel_rfl) hargs h

/- strings.shouldUseASCIISet -/
noncomputable def code92 : Code := Tryd.f92.body.getD .skip
theorem inl92 {J : Jd} {args : List AV} {H : Heap} {n : Nat} {R : AV → Heap → Nat → Prop} (hargs : args.length ≤ 5) (h : T.prop P gl n (resQ R) (bodyT tau gl J code92 5 [.tmp 2] args H n)) : CallA P gl 92 args H n R :=
  CallA.inlineE IsProg.eq tau_ok0 mix0 Tryd.func92 (by kernel_rfl) (by kernel_rfl) (by kernel_rfl) (by kernel_rfl) hargs h

/- strings.makeASCIISet -/
noncomputable def code93 : Code := Tryd.f93.body.getD .skip
theorem inl93 {J : Jd} {args : List AV} {H : Heap} {n : Nat} {R : AV → Heap → Nat → Prop} (hargs : args.length ≤ 21) (h : T.prop P gl n (resQ R) (bodyT tau gl J code93 21 [.cell 2 120, .tmp 3] args H n)) : CallA P gl 93 args H n R :=
  CallA.inlineE IsProg.eq tau_ok0 mix0 Tryd.func93 (by kernel_rfl) (by kernel_rfl) (by kernel_rfl) (by kernel_rfl) hargs h

/- (*strings.asciiSet).contains -/
noncomputable def code94 : Code := Tryd.f94.body.getD .skip
theorem inl94 {J : Jd} {args : List AV} {H : Heap} {n : Nat} {R : AV → Heap → Nat → Prop} (hargs : args.length ≤ 10) (h : T.prop P gl n (resQ R) (bodyT tau gl J code94 10 [.tmp 4] args H n)) : CallA P gl 94 args H n R :=
  CallA.inlineE IsProg.eq tau_ok0 mix0 Tryd.func94 (by kernel_rfl) (by kernel_rfl) (by kernel_rfl) (by kernel_rfl) hargs h

/- unicode/utf8.DecodeRuneInString -/
noncomputable def code95 : Code := Tryd.f95.body.getD .skip
theorem inl95 {J : Jd} {args : List AV} {H : Heap} {n : Nat} {R : AV → Heap → Nat → Prop} (hargs : args.length ≤ 19) (h : T.prop P gl n (resQ R) (bodyT tau gl J code95 19 [.tmp 2, .tmp 3] args H n)) : CallA P gl 95 args H n R :=
  CallA.inlineE IsProg.eq tau_ok0 mix0 Tryd.func95 (by kernel_rfl) (by kernel_rfl) (by kernel_rfl) (by kernel_rfl) hargs h

/- unicode.SimpleFold -/
noncomputable def code96 : Code := Tryd.f96.body.getD .skip
theorem inl96 {J : Jd} {args : List AV} {H : Heap} {n : Nat} {R : AV → Heap → Nat → Prop} (hargs : args.length ≤ 80) (h : T.prop P gl n (resQ R) (bodyT tau gl J code96 80 [.tmp 2] args H n)) : CallA P gl 96 args H n R :=
  CallA.inlineE IsProg.eq tau_ok0 mix0 Tryd.func96 (by kernel_rfl) (by kernel_rfl) (by kernel_rfl) (by kernel_rfl) hargs h

/- analemma/word.find -/
noncomputable def code97 : Code := Tryd.f97.body.getD .skip
theorem inl97 {J : Jd} {args : List AV} {H : Heap} {n : Nat} {R : AV → Heap → Nat → Prop} (hargs : args.length ≤ 37) (h : T.prop P gl n (resQ R) (bodyT tau gl J code97 37 [.cell 6 3, .cell 7 25] args H n)) : CallA P gl 97 args H n R :=
  CallA.inlineE IsProg.eq tau_ok0 mix0 Tryd.func97 (by kernel_rfl) (by kernel_rfl) (by kernel_rfl) (by kernel_rfl) hargs h

/- analemma/number.Parse -/
noncomputable def code98 : Code := Tryd.f98.body.getD .skip
theorem inl98 {J : Jd} {args : List AV} {H : Heap} {n : Nat} {R : AV → Heap → Nat → Prop} (hargs : args.length ≤ 51) (h : T.prop P gl n (resQ R) (bodyT tau gl J code98 51 [.tmp 4, .tmp 5] args H n)) : CallA P gl 98 args H n R :=
  CallA.inlineE IsProg.eq tau_ok0 mix0 Tryd.func98 (by kernel_rfl) (by kernel_rfl) (by kernel_rfl) (by kernel_rfl) hargs h

/- analemma/analemmaref08.find -/
noncomputable def code99 : Code := Tryd.f99.body.getD .skip
theorem inl99 {J : Jd} {args : List AV} {H : Heap} {n : Nat} {R : AV → Heap → Nat → Prop} (hargs : args.length ≤ 53) (h : T.prop P gl n (resQ R) (bodyT tau gl J code99 53 [.tmp 4, .tmp 5] args H n)) : CallA P gl 99 args H n R :=
  CallA.inlineE IsProg.eq tau_ok0 mix0 Tryd.func99 (by kernel_rfl) (by kernel_rfl) (by kernel_rfl) (by kernel_rfl) hargs h

/- analemma/analemmaref08.weeks -/
noncomputable def code100 : Code := Tryd.f100.body.getD .skip
theorem inl100 {J : Jd} {args : List AV} {H : Heap} {n : Nat} {R : AV → Heap → Nat → Prop} (hargs : args.length ≤ 2) (h : T.prop P gl n (resQ R) (bodyT tau gl J code100 2 [.tmp 0] args H n)) : CallA P gl 100 args H n R :=
  CallA.inlineE IsProg.eq tau_ok0 mix0 Tryd.func100 (by kernel_rfl) (by kernel_rfl) (by kernel_rfl) (by kernel_rfl) hargs h

/- analemma/word.short -/
noncomputable def code101 : Code := Tryd.f101.body.getD .skip
theorem inl101 {J : Jd} {args : List AV} {H : Heap} {n : Nat} {R : AV → Heap → Nat → Prop} (hargs : args.length ≤ 29) (h : T.prop P gl n (resQ R) (bodyT tau gl J code101 29 [.tmp 4] args H n)) : CallA P gl 101 args H n R :=
  CallA.inlineE IsProg.eq tau_ok0 mix0 Tryd.func101 (by kernel_rfl) (by kernel_rfl) (by kernel_rfl) (by kernel_rfl) hargs h

/- internal/strconv.Itoa -/
noncomputable def code102 : Code := Tryd.f102.body.getD .skip
theorem inl102 {J : Jd} {args : List AV} {H : Heap} {n : Nat} {R : AV → Heap → Nat → Prop} (hargs : args.length ≤ 5) (h : T.prop P gl n (resQ R) (bodyT tau gl J code102 5 [.tmp 2] args H n)) : CallA P gl 102 args H n R :=
  CallA.inlineE IsProg.eq tau_ok0 mix0 Tryd.func102 (by kernel_rfl) (by kernel_rfl) (by kernel_rfl) (by kernel_rfl) hargs h

/- analemma/analemmaref02.in -/
noncomputable def code103 : Code := Tryd.f103.body.getD .skip
theorem inl103 {J : Jd} {args : List AV} {H : Heap} {n : Nat} {R : AV → Heap → Nat → Prop} (hargs : args.length ≤ 15) (h : T.prop P gl n (resQ R) (bodyT tau gl J code103 15 [.tmp 6] args H n)) : CallA P gl 103 args H n R :=
  CallA.inlineE IsProg.eq tau_ok0 mix0 Tryd.func103 (by kernel_rfl) (by kernel_rfl) (by kernel_rfl) (by kernel_rfl) hargs h

/- analemma/analemmaref08.short -/
noncomputable def code104 : Code := Tryd.f104.body.getD .skip
theorem inl104 {J : Jd} {args : List AV} {H : Heap} {n : Nat} {R : AV → Heap → Nat → Prop} (hargs : args.length ≤ 12) (h : T.prop P gl n (resQ R) (bodyT tau gl J code104 12 [.tmp 2] args H n)) : CallA P gl 104 args H n R :=
  CallA.inlineE IsProg.eq tau_ok0 mix0 Tryd.func104 (by kernel_rfl) (by kernel_rfl) (by kernel_rfl) (by kernel_rfl) hargs h

/- analemma/dayform.kinds -/
noncomputable def code105 : Code := Tryd.f105.body.getD .skip
theorem inl105 {J : Jd} {args : List AV} {H : Heap} {n : Nat} {R : AV → Heap → Nat → Prop} (hargs : args.length ≤ 6) (h : T.prop P gl n (resQ R) (bodyT tau gl J code105 6 [.cell 0 134] args H n)) : CallA P gl 105 args H n R :=
  CallA.inlineE IsProg.eq tau_ok0 mix0 Tryd.func105 (by kernel_rfl) (by kernel_rfl) (by kernel_rfl) (by kernel_rfl) hargs h

/- (*strings.Builder).copyCheck -/
noncomputable def code106 : Code := Tryd.f106.body.getD .skip
theorem inl106 {J : Jd} {args : List AV} {H : Heap} {n : Nat} {R : AV → Heap → Nat → Prop} (hargs : args.length ≤ 20) (h : T.prop P gl n (resQ R) (bodyT tau gl J code106 20 [] args H n)) : CallA P gl 106 args H n R :=
  CallA.inlineE IsProg.eq tau_ok0 mix0 Tryd.func106 (by kernel_rfl) (by kernel_rfl) (by kernel_rfl) (by kernel_rfl) hargs h

/- (*strings.Builder).grow -/
noncomputable def code107 : Code := Tryd.f107.body.getD .skip
theorem inl107 {J : Jd} {args : List AV} {H : Heap} {n : Nat} {R : AV → Heap → Nat → Prop} (hargs : args.length ≤ 30) (h : T.prop P gl n (resQ R) (bodyT tau gl J code107 30 [] args H n)) : CallA P gl 107 args H n R :=
  CallA.inlineE IsProg.eq tau_ok0 mix0 Tryd.func107 (by kernel_rfl) (by kernel_rfl) (by kernel_rfl) (by kernel_rfl) hargs h

/- unicode/utf8.RuneLen -/
noncomputable def code108 : Code := Tryd.f108.body.getD .skip
theorem inl108 {J : Jd} {args : List AV} {H : Heap} {n : Nat} {R : AV → Heap → Nat → Prop} (hargs : args.length ≤ 25) (h : T.prop P gl n (resQ R) (bodyT tau gl J code108 25 [.tmp 2] args H n)) : CallA P gl 108 args H n R :=
  CallA.inlineE IsProg.eq tau_ok0 mix0 Tryd.func108 (by kernel_rfl) (by kernel_rfl) (by kernel_rfl) (by kernel_rfl) hargs h

/- (*strings.Builder).WriteRune -/
noncomputable def code109 : Code := Tryd.f109.body.getD .skip
theorem inl109 {J : Jd} {args : List AV} {H : Heap} {n : Nat} {R : AV → Heap → Nat → Prop} (hargs : args.length ≤ 30) (h : T.prop P gl n (resQ R) (bodyT tau gl J code109 30 [.tmp 4, .tmp 5] args H n)) : CallA P gl 109 args H n R :=
  CallA.inlineE IsProg.eq tau_ok0 mix0 Tryd.func109 (by kernel_rfl) (by kernel_rfl) (by kernel_rfl) (by kernel_rfl) hargs h

/- (*strings.Builder).Cap -/
noncomputable def code110 : Code := Tryd.f110.body.getD .skip
theorem inl110 {J : Jd} {args : List AV} {H : Heap} {n : Nat} {R : AV → Heap → Nat → Prop} (hargs : args.length ≤ 8) (h : T.prop P gl n (resQ R) (bodyT tau gl J code110 8 [.tmp 2] args H n)) : CallA P gl 110 args H n R :=
  CallA.inlineE IsProg.eq tau_ok0 mix0 Tryd.func110 (by kernel_rfl) (by kernel_rfl) (by kernel_rfl) (by kernel_rfl) hargs h

/- unicode.To -/
noncomputable def code111 : Code := Tryd.f111.body.getD .skip
theorem inl111 {J : Jd} {args : List AV} {H : Heap} {n : Nat} {R : AV → Heap → Nat → Prop} (hargs : args.length ≤ 13) (h : T.prop P gl n (resQ R) (bodyT tau gl J code111 13 [.tmp 4] args H n)) : CallA P gl 111 args H n R :=
  CallA.inlineE IsProg.eq tau_ok0 mix0 Tryd.func111 (by kernel_rfl) (by kernel_rfl) (by kernel_rfl) (by kernel_rfl) hargs h

/- strings.ReplaceAll -/
noncomputable def code112 : Code := Tryd.f112.body.getD .skip
theorem inl112 {J : Jd} {args : List AV} {H : Heap} {n : Nat} {R : AV → Heap → Nat → Prop} (hargs : args.length ≤ 11) (h : T.prop P gl n (resQ R) (bodyT tau gl J code112 11 [.tmp 6] args H n)) : CallA P gl 112 args H n R :=
  CallA.inlineE IsProg.eq tau_ok0 mix0 Tryd.func112 (by kernel_rfl) (by kernel_rfl) (by kernel_rfl) (by kernel_rfl) hargs h

/- slices.stableCmpFunc[string] -/
noncomputable def code113 : Code := Tryd.f113.body.getD .skip
theorem inl113 {J : Jd} {args : List AV} {H : Heap} {n : Nat} {R : AV → Heap → Nat → Prop} (hargs : args.length ≤ 63) (h : T.prop P gl n (resQ R) (bodyT tau gl J code113 63 [] args H n)) : CallA P gl 113 args H n R :=
  CallA.inlineE IsProg.eq tau_ok0 mix0 Tryd.func113 (by kernel_rfl) (by kernel_rfl) (by kernel_rfl) (by kernel_rfl) hargs h

/- cmp.isNaN[int] -/
noncomputable def code114 : Code := Tryd.f114.body.getD .skip
theorem inl114 {J : Jd} {args : List AV} {H : Heap} {n : Nat} {R : AV → Heap → Nat → Prop} (hargs : args.length ≤ 6) (h : T.prop P gl n (resQ R) (bodyT tau gl J code114 6 [.tmp 2] args H n)) : CallA P gl 114 args H n R :=
  CallA.inlineE IsProg.eq tau_ok0 mix0 Tryd.func114 (by kernel_rfl) (by kernel_rfl) (by kernel_rfl) (by kernel_rfl) hargs h

/- internal/bytealg.Cutover -/
noncomputable def code117 : Code := Tryd.f117.body.getD .skip
theorem inl117 {J : Jd} {args : List AV} {H : Heap} {n : Nat} {R : AV → Heap → Nat → Prop} (hargs : args.length ≤ 6) (h : T.prop P gl n (resQ R) (bodyT tau gl J code117 6 [.tmp 2] args H n)) : CallA P gl 117 args H n R :=
  CallA.inlineE IsProg.eq tau_ok0 mix0 Tryd.func117 (by kernel_rfl) (by kernel_rfl) (by kernel_rfl) (by kernel_rfl) hargs h

/- internal/bytealg.IndexRabinKarp[string] -/
noncomputable def code118 : Code := Tryd.f118.body.getD .skip
theorem inl118 {J : Jd} {args : List AV} {H : Heap} {n : Nat} {R : AV → Heap → Nat → Prop} (hargs : args.length ≤ 81) (h : T.prop P gl n (resQ R) (bodyT tau gl J code118 81 [.tmp 4] args H n)) : CallA P gl 118 args H n R :=
  CallA.inlineE IsProg.eq tau_ok0 mix0 Tryd.func118 (by kernel_rfl) (by kernel_rfl) (by kernel_rfl) (by kernel_rfl) hargs h

/- strings.explode -/
noncomputable def code119 : Code := Tryd.f119.body.getD .skip
theorem inl119 {J : Jd} {args : List AV} {H : Heap} {n : Nat} {R : AV → Heap → Nat → Prop} (hargs : args.length ≤ 50) (h : T.prop P gl n (resQ R) (bodyT tau gl J code119 50 [.tmp 4] args H n)) : CallA P gl 119 args H n R :=
  CallA.inlineE IsProg.eq tau_ok0 mix0 Tryd.func119 (by kernel_rfl) (by kernel_rfl) (by kernel_rfl) (by kernel_rfl) hargs h

/- strings.Count -/
noncomputable def code120 : Code := Tryd.f120.body.getD .skip
theorem inl120 {J : Jd} {args : List AV} {H : Heap} {n : Nat} {R : AV → Heap → Nat → Prop} (hargs : args.length ≤ 34) (h : T.prop P gl n (resQ R) (bodyT tau gl J code120 34 [.tmp 4] args H n)) : CallA P gl 120 args H n R :=
  CallA.inlineE IsProg.eq tau_ok0 mix0 Tryd.func120 (by kernel_rfl) (by kernel_rfl) (by kernel_rfl) (by kernel_rfl) hargs h

/- slices.rotateLeft[string] -/
noncomputable def code121 : Code := Tryd.f121.body.getD .skip
theorem inl121 {J : Jd} {args : List AV} {H : Heap} {n : Nat} {R : AV → Heap → Nat → Prop} (hargs : args.length ≤ 14) (h : T.prop P gl n (resQ R) (bodyT tau gl J code121 14 [] args H n)) : CallA P gl 121 args H n R :=
  CallA.inlineE IsProg.eq tau_ok0 mix0 Tryd.func121 (by kernel_rfl) (by kernel_rfl) (by kernel_rfl) (by kernel_rfl) hargs h

/- math/bits.Mul32 -/
noncomputable def code122 : Code := Tryd.f122.body.getD .skip
theorem inl122 {J : Jd} {args : List AV} {H : Heap} {n : Nat} {R : AV → Heap → Nat → Prop} (hargs : args.length ≤ 17) (h : T.prop P gl n (resQ R) (bodyT tau gl J code122 17 [.tmp 4, .tmp 5] args H n)) : CallA P gl 122 args H n R :=
  CallA.inlineE IsProg.eq tau_ok0 mix0 Tryd.func122 (by kernel_rfl) (by kernel_rfl) (by kernel_rfl) (by kernel_rfl) hargs h

/- math/bits.Mul64 -/
noncomputable def code123 : Code := Tryd.f123.body.getD .skip
theorem inl123 {J : Jd} {args : List AV} {H : Heap} {n : Nat} {R : AV → Heap → Nat → Prop} (hargs : args.length ≤ 51) (h : T.prop P gl n (resQ R) (bodyT tau gl J code123 51 [.tmp 4, .tmp 5] args H n)) : CallA P gl 123 args H n R :=
  CallA.inlineE IsProg.eq tau_ok0 mix0 Tryd.func123 (by kernel_rfl) (by kernel_rfl) (by kernel_rfl) (by kernel_rfl) hargs h

/- unicode/utf8.ValidRune -/
noncomputable def code124 : Code := Tryd.f124.body.getD .skip
theorem inl124 {J : Jd} {args : List AV} {H : Heap} {n : Nat} {R : AV → Heap → Nat → Prop} (hargs : args.length ≤ 17) (h : T.prop P gl n (resQ R) (bodyT tau gl J code124 17 [.tmp 2] args H n)) : CallA P gl 124 args H n R :=
  CallA.inlineE IsProg.eq tau_ok0 mix0 Tryd.func124 (by kernel_rfl) (by kernel_rfl) (by kernel_rfl) (by kernel_rfl) hargs h

/- unicode/utf8.decodeRuneInStringSlow -/
noncomputable def code125 : Code := Tryd.f125.body.getD .skip
theorem inl125 {J : Jd} {args : List AV} {H : Heap} {n : Nat} {R : AV → Heap → Nat → Prop} (hargs : args.length ≤ 117) (h : T.prop P gl n (resQ R) (bodyT tau gl J code125 117 [.tmp 2, .tmp 3] args H n)) : CallA P gl 125 args H n R :=
  CallA.inlineE IsProg.eq tau_ok0 mix0 Tryd.func125 (by kernel_rfl) (by kernel_rfl) (by kernel_rfl) (by kernel_rfl) hargs h

/- unicode.lookupCaseRange -/
noncomputable def code126 : Code := Tryd.f126.body.getD .skip
theorem inl126 {J : Jd} {args : List AV} {H : Heap} {n : Nat} {R : AV → Heap → Nat → Prop} (hargs : args.length ≤ 50) (h : T.prop P gl n (resQ R) (bodyT tau gl J code126 50 [.tmp 4] args H n)) : CallA P gl 126 args H n R :=
  CallA.inlineE IsProg.eq tau_ok0 mix0 Tryd.func126 (by kernel_rfl) (by kernel_rfl) (by kernel_rfl) (by kernel_rfl) hargs h

/- unicode.convertCase -/
noncomputable def code127 : Code := Tryd.f127.body.getD .skip
theorem inl127 {J : Jd} {args : List AV} {H : Heap} {n : Nat} {R : AV → Heap → Nat → Prop} (hargs : args.length ≤ 37) (h : T.prop P gl n (resQ R) (bodyT tau gl J code127 37 [.tmp 6] args H n)) : CallA P gl 127 args H n R :=
  CallA.inlineE IsProg.eq tau_ok0 mix0 Tryd.func127 (by kernel_rfl) (by kernel_rfl) (by kernel_rfl) (by kernel_rfl) hargs h

/- analemma/word.small -/
noncomputable def code128 : Code := Tryd.f128.body.getD .skip
theorem inl128 {J : Jd} {args : List AV} {H : Heap} {n : Nat} {R : AV → Heap → Nat → Prop} (hargs : args.length ≤ 33) (h : T.prop P gl n (resQ R) (bodyT tau gl J code128 33 [.tmp 2] args H n)) : CallA P gl 128 args H n R :=
  CallA.inlineE IsProg.eq tau_ok0 mix0 Tryd.func128 (by kernel_rfl) (by kernel_rfl) (by kernel_rfl) (by kernel_rfl) hargs h

/- analemma/word.beginning -/
noncomputable def code129 : Code := Tryd.f129.body.getD .skip
theorem inl129 {J : Jd} {args : List AV} {H : Heap} {n : Nat} {R : AV → Heap → Nat → Prop} (hargs : args.length ≤ 6) (h : T.prop P gl n (resQ R) (bodyT tau gl J code129 6 [.tmp 4] args H n)) : CallA P gl 129 args H n R :=
  CallA.inlineE IsProg.eq tau_ok0 mix0 Tryd.func129 (by kernel_rfl) (by kernel_rfl) (by kernel_rfl) (by kernel_rfl) hargs h

/- analemma/analemmaref08.small -/
noncomputable def code130 : Code := Tryd.f130.body.getD .skip
theorem inl130 {J : Jd} {args : List AV} {H : Heap} {n : Nat} {R : AV → Heap → Nat → Prop} (hargs : args.length ≤ 30) (h : T.prop P gl n (resQ R) (bodyT tau gl J code130 30 [.tmp 2] args H n)) : CallA P gl 130 args H n R :=
  CallA.inlineE IsProg.eq tau_ok0 mix0 Tryd.func130 (by kernel_rfl) (by kernel_rfl) (by kernel_rfl) (by kernel_rfl) hargs h

/- internal/strconv.FormatInt -/
noncomputable def code131 : Code := Tryd.f131.body.getD .skip
theorem inl131 {J : Jd} {args : List AV} {H : Heap} {n : Nat} {R : AV → Heap → Nat → Prop} (hargs : args.length ≤ 54) (h : T.prop P gl n (resQ R) (bodyT tau gl J code131 54 [.tmp 4] args H n)) : CallA P gl 131 args H n R :=
  CallA.inlineE IsProg.eq tau_ok0 mix0 Tryd.func131 (by kernel_rfl) (by kernel_rfl) (by kernel_rfl) (by kernel_rfl) hargs h

/- analemma/dayform.kinds$1 -/
noncomputable def code132 : Code := Tryd.f132.body.getD .skip
theorem inl132 {J : Jd} {args : List AV} {H : Heap} {n : Nat} {R : AV → Heap → Nat → Prop} (hargs : args.length ≤ 10) (h : T.prop P gl n (resQ R) (bodyT tau gl J code132 10 [.tmp 6] args H n)) : CallA P gl 132 args H n R :=
  CallA.inlineE IsProg.eq tau_ok0 mix0 Tryd.func132 (by kernel_rfl) (by kernel_rfl) (by kernel_rfl) (by kernel_rfl) hargs h

/- analemma/dayform.dayOf -/
noncomputable def code133 : Code := Tryd.f133.body.getD .skip
theorem inl133 {J : Jd} {args : List AV} {H : Heap} {n : Nat} {R : AV → Heap → Nat → Prop} (hargs : args.length ≤ 10) (h : T.prop P gl n (resQ R) (bodyT tau gl J code133 10 [.tmp 4] args H n)) : CallA P gl 133 args H n R :=
  CallA.inlineE IsProg.eq tau_ok0 mix0 Tryd.func133 (by kernel_rfl) (by kernel_rfl) (by kernel_rfl) (by kernel_rfl) hargs h

/- analemma/dayform.kinds$2 -/
noncomputable def code134 : Code := Tryd.f134.body.getD .skip
theorem inl134 {J : Jd} {args : List AV} {H : Heap} {n : Nat} {R : AV → Heap → Nat → Prop} (hargs : args.length ≤ 13) (h : T.prop P gl n (resQ R) (bodyT tau gl J code134 13 [.tmp 6] args H n)) : CallA P gl 134 args H n R :=
  CallA.inlineE IsProg.eq tau_ok0 mix0 Tryd.func134 (by kernel_rfl) (by kernel_rfl) (by kernel_rfl) (by kernel_rfl) hargs h

/- analemma/dayform.back -/
noncomputable def code135 : Code := Tryd.f135.body.getD .skip
theorem inl135 {J : Jd} {args : List AV} {H : Heap} {n : Nat} {R : AV → Heap → Nat → Prop} (hargs : args.length ≤ 11) (h : T.prop P gl n (resQ R) (bodyT tau gl J code135 11 [.tmp 4] args H n)) : CallA P gl 135 args H n R :=
  CallA.inlineE IsProg.eq tau_ok0 mix0 Tryd.func135 (by kernel_rfl) (by kernel_rfl) (by kernel_rfl) (by kernel_rfl) hargs h

/- analemma/dayform.kinds$3 -/
noncomputable def code136 : Code := Tryd.f136.body.getD .skip
theorem inl136 {J : Jd} {args : List AV} {H : Heap} {n : Nat} {R : AV → Heap → Nat → Prop} (hargs : args.length ≤ 18) (h : T.prop P gl n (resQ R) (bodyT tau gl J code136 18 [.tmp 6] args H n)) : CallA P gl 136 args H n R :=
  CallA.inlineE IsProg.eq tau_ok0 mix0 Tryd.func136 (by kernel_rfl) (by kernel_rfl) (by kernel_rfl) (by kernel_rfl) hargs h

/- analemma/dayform.kinds$4 -/
noncomputable def code137 : Code := Tryd.f137.body.getD .skip
theorem inl137 {J : Jd} {args : List AV} {H : Heap} {n : Nat} {R : AV → Heap → Nat → Prop} (hargs : args.length ≤ 17) (h : T.prop P gl n (resQ R) (bodyT tau gl J code137 17 [.tmp 6] args H n)) : CallA P gl 137 args H n R :=
  CallA.inlineE IsProg.eq tau_ok0 mix0 Tryd.func137 (by kernel_rfl) (by kernel_rfl) (by kernel_rfl) (by kernel_rfl) hargs h

/- unicode/utf8.AppendRune -/
noncomputable def code140 : Code := Tryd.f140.body.getD .skip
theorem inl140 {J : Jd} {args : List AV} {H : Heap} {n : Nat} {R : AV → Heap → Nat → Prop} (hargs : args.length ≤ 16) (h : T.prop P gl n (resQ R) (bodyT tau gl J code140 16 [.tmp 4] args H n)) : CallA P gl 140 args H n R :=
  CallA.inlineE IsProg.eq tau_ok0 mix0 Tryd.func140 (by kernel_rfl) (by kernel_rfl) (by kernel_rfl) (by kernel_rfl) hargs h

/- unicode.to -/
noncomputable def code141 : Code := Tryd.f141.body.getD .skip
theorem inl141 {J : Jd} {args : List AV} {H : Heap} {n : Nat} {R : AV → Heap → Nat → Prop} (hargs : args.length ≤ 25) (h : T.prop P gl n (resQ R) (bodyT tau gl J code141 25 [.tmp 6, .tmp 7] args H n)) : CallA P gl 141 args H n R :=
  CallA.inlineE IsProg.eq tau_ok0 mix0 Tryd.func141 (by kernel_rfl) (by kernel_rfl) (by kernel_rfl) (by kernel_rfl) hargs h

/- strings.Replace -/
noncomputable def code142 : Code := Tryd.f142.body.getD .skip
theorem inl142 {J : Jd} {args : List AV} {H : Heap} {n : Nat} {R : AV → Heap → Nat → Prop} (hargs : args.length ≤ 104) (h : T.prop P gl n (resQ R) (bodyT tau gl J code142 104 [.tmp 8] args H n)) : CallA P gl 142 args H n R :=
  CallA.inlineE IsProg.eq tau_ok0 mix0 Tryd.func142 (by kernel_rfl) (by kernel_rfl) (by kernel_rfl) (by kernel_rfl) hargs h

/- slices.insertionSortCmpFunc[string] -/
noncomputable def code143 : Code := Tryd.f143.body.getD .skip
theorem inl143 {J : Jd} {args : List AV} {H : Heap} {n : Nat} {R : AV → Heap → Nat → Prop} (hargs : args.length ≤ 53) (h : T.prop P gl n (resQ R) (bodyT tau gl J code143 53 [] args H n)) : CallA P gl 143 args H n R :=
  CallA.inlineE IsProg.eq tau_ok0 mix0 Tryd.func143 (by kernel_rfl) (by kernel_rfl) (by kernel_rfl) (by kernel_rfl) hargs h

/- slices.symMergeCmpFunc[string] -/
noncomputable def code144 : Code := Tryd.f144.body.getD .skip
theorem inl144 {J : Jd} {args : List AV} {H : Heap} {n : Nat} {R : AV → Heap → Nat → Prop} (hargs : args.length ≤ 220) (h : T.prop P gl n (resQ R) (bodyT tau gl J code144 220 [] args H n)) : CallA P gl 144 args H n R :=
  CallA.inlineE IsProg.eq tau_ok0 mix0 Tryd.func144 (by kernel_rfl) (by kernel_rfl) (by kernel_rfl) (by kernel_rfl) hargs h

/- internal/bytealg.hashStr[string] -/
noncomputable def code145 : Code := Tryd.f145.body.getD .skip
theorem inl145 {J : Jd} {args : List AV} {H : Heap} {n : Nat} {R : AV → Heap → Nat → Prop} (hargs : args.length ≤ 39) (h : T.prop P gl n (resQ R) (bodyT tau gl J code145 39 [.tmp 2, .tmp 3] args H n)) : CallA P gl 145 args H n R :=
  CallA.inlineE IsProg.eq tau_ok0 mix0 Tryd.func145 (by kernel_rfl) (by kernel_rfl) (by kernel_rfl) (by kernel_rfl) hargs h

/- unicode/utf8.RuneCountInString -/
noncomputable def code146 : Code := Tryd.f146.body.getD .skip
theorem inl146 {J : Jd} {args : List AV} {H : Heap} {n : Nat} {R : AV → Heap → Nat → Prop} (hargs : args.length ≤ 10) (h : T.prop P gl n (resQ R) (bodyT tau gl J code146 10 [.tmp 2] args H n)) : CallA P gl 146 args H n R :=
  CallA.inlineE IsProg.eq tau_ok0 mix0 Tryd.func146 (by kernel_rfl) (by kernel_rfl) (by kernel_rfl) (by kernel_rfl) hargs h

/- analemma/word.beginning$1 -/
noncomputable def code148 : Code := Tryd.f148.body.getD .skip
theorem inl148 {J : Jd} {args : List AV} {H : Heap} {n : Nat} {R : AV → Heap → Nat → Prop} (hargs : args.length ≤ 26) (h : T.prop P gl n (resQ R) (bodyT tau gl J code148 26 [] args H n)) : CallA P gl 148 args H n R :=
  CallA.inlineE IsProg.eq tau_ok0 mix0 Tryd.func148 (by kernel_rfl) (by kernel_rfl) (by kernel_rfl) (by kernel_rfl) hargs h

/- internal/strconv.small -/
noncomputable def code149 : Code := Tryd.f149.body.getD .skip
theorem inl149 {J : Jd} {args : List AV} {H : Heap} {n : Nat} {R : AV → Heap → Nat → Prop} (hargs : args.length ≤ 15) (h : T.prop P gl n (resQ R) (bodyT tau gl J code149 15 [.tmp 2] args H n)) : CallA P gl 149 args H n R :=
  CallA.inlineE IsProg.eq tau_ok0 mix0 Tryd.func149 (by kernel_rfl) (by kernel_rfl) (by kernel_rfl) (by kernel_rfl) hargs h

/- internal/strconv.numDigits -/
noncomputable def code150 : Code := Tryd.f150.body.getD .skip
theorem inl150 {J : Jd} {args : List AV} {H : Heap} {n : Nat} {R : AV → Heap → Nat → Prop} (hargs : args.length ≤ 15) (h : T.prop P gl n (resQ R) (bodyT tau gl J code150 15 [.tmp 2] args H n)) : CallA P gl 150 args H n R :=
  CallA.inlineE IsProg.eq tau_ok0 mix0 Tryd.func150 (by kernel_rfl) (by kernel_rfl) (by kernel_rfl) (by kernel_rfl) hargs h

/- internal/strconv.formatBase10 -/
noncomputable def code151 : Code := Tryd.f151.body.getD .skip
theorem inl151 {J : Jd} {args : List AV} {H : Heap} {n : Nat} {R : AV → Heap → Nat → Prop} (hargs : args.length ≤ 167) (h : T.prop P gl n (resQ R) (bodyT tau gl J code151 167 [] args H n)) : CallA P gl 151 args H n R :=
  CallA.inlineE IsProg.eq tau_ok0 mix0 Tryd.func151 (by kernel_rfl) (by kernel_rfl) (by kernel_rfl) (by kernel_rfl) hargs h

/- internal/strconv.formatBits -/
noncomputable def code152 : Code := Tryd.f152.body.getD .skip
theorem inl152 {J : Jd} {args : List AV} {H : Heap} {n : Nat} {R : AV → Heap → Nat → Prop} (hargs : args.length ≤ 102) (h : T.prop P gl n (resQ R) (bodyT tau gl J code152 102 [.tmp 10, .tmp 11] args H n)) : CallA P gl 152 args H n R :=
  CallA.inlineE IsProg.eq tau_ok0 mix0 Tryd.func152 (by kernel_rfl) (by kernel_rfl) (by kernel_rfl) (by kernel_rfl) hargs h

/- analemma/civil.Weekday -/
noncomputable def code153 : Code := Tryd.f153.body.getD .skip
theorem inl153 {J : Jd} {args : List AV} {H : Heap} {n : Nat} {R : AV → Heap → Nat → Prop} (hargs : args.length ≤ 8) (h : T.prop P gl n (resQ R) (bodyT tau gl J code153 8 [.tmp 2] args H n)) : CallA P gl 153 args H n R :=
  CallA.inlineE IsProg.eq tau_ok0 mix0 Tryd.func153 (by kernel_rfl) (by kernel_rfl) (by kernel_rfl) (by kernel_rfl) hargs h

/- unicode/utf8.appendRuneNonASCII -/
noncomputable def code154 : Code := Tryd.f154.body.getD .skip
theorem inl154 {J : Jd} {args : List AV} {H : Heap} {n : Nat} {R : AV → Heap → Nat → Prop} (hargs : args.length ≤ 78) (h : T.prop P gl n (resQ R) (bodyT tau gl J code154 78 [.tmp 4] args H n)) : CallA P gl 154 args H n R :=
  CallA.inlineE IsProg.eq tau_ok0 mix0 Tryd.func154 (by kernel_rfl) (by kernel_rfl) (by kernel_rfl) (by kernel_rfl) hargs h

/- slices.rotateCmpFunc[string] -/
noncomputable def code155 : Code := Tryd.f155.body.getD .skip
theorem inl155 {J : Jd} {args : List AV} {H : Heap} {n : Nat} {R : AV → Heap → Nat → Prop} (hargs : args.length ≤ 58) (h : T.prop P gl n (resQ R) (bodyT tau gl J code155 58 [] args H n)) : CallA P gl 155 args H n R :=
  CallA.inlineE IsProg.eq tau_ok0 mix0 Tryd.func155 (by kernel_rfl) (by kernel_rfl) (by kernel_rfl) (by kernel_rfl) hargs h

/- internal/strconv.log10Pow2 -/
noncomputable def code156 : Code := Tryd.f156.body.getD .skip
theorem inl156 {J : Jd} {args : List AV} {H : Heap} {n : Nat} {R : AV → Heap → Nat → Prop} (hargs : args.length ≤ 6) (h : T.prop P gl n (resQ R) (bodyT tau gl J code156 6 [.tmp 2] args H n)) : CallA P gl 156 args H n R :=
  CallA.inlineE IsProg.eq tau_ok0 mix0 Tryd.func156 (by kernel_rfl) (by kernel_rfl) (by kernel_rfl) (by kernel_rfl) hargs h

/- math/bits.Len64 -/
noncomputable def code157 : Code := Tryd.f157.body.getD .skip
theorem inl157 {J : Jd} {args : List AV} {H : Heap} {n : Nat} {R : AV → Heap → Nat → Prop} (hargs : args.length ≤ 25) (h : T.prop P gl n (resQ R) (bodyT tau gl J code157 25 [.tmp 2] args H n)) : CallA P gl 157 args H n R :=
  CallA.inlineE IsProg.eq tau_ok0 mix0 Tryd.func157 (by kernel_rfl) (by kernel_rfl) (by kernel_rfl) (by kernel_rfl) hargs h

/- internal/strconv.bool2[int] -/
noncomputable def code158 : Code := Tryd.f158.body.getD .skip
theorem inl158 {J : Jd} {args : List AV} {H : Heap} {n : Nat} {R : AV → Heap → Nat → Prop} (hargs : args.length ≤ 4) (h : T.prop P gl n (resQ R) (bodyT tau gl J code158 4 [.tmp 2] args H n)) : CallA P gl 158 args H n R :=
  CallA.inlineE IsProg.eq tau_ok0 mix0 Tryd.func158 (by kernel_rfl) (by kernel_rfl) (by kernel_rfl) (by kernel_rfl) hargs h

/- internal/strconv.isPowerOfTwo -/
noncomputable def code159 : Code := Tryd.f159.body.getD .skip
theorem inl159 {J : Jd} {args : List AV} {H : Heap} {n : Nat} {R : AV → Heap → Nat → Prop} (hargs : args.length ≤ 8) (h : T.prop P gl n (resQ R) (bodyT tau gl J code159 8 [.tmp 2] args H n)) : CallA P gl 159 args H n R :=
  CallA.inlineE IsProg.eq tau_ok0 mix0 Tryd.func159 (by kernel_rfl) (by kernel_rfl) (by kernel_rfl) (by kernel_rfl) hargs h

/- math/bits.TrailingZeros -/
noncomputable def code160 : Code := Tryd.f160.body.getD .skip
theorem inl160 {J : Jd} {args : List AV} {H : Heap} {n : Nat} {R : AV → Heap → Nat → Prop} (hargs : args.length ≤ 8) (h : T.prop P gl n (resQ R) (bodyT tau gl J code160 8 [.tmp 2] args H n)) : CallA P gl 160 args H n R :=
  CallA.inlineE IsProg.eq tau_ok0 mix0 Tryd.func160 (by kernel_rfl) (by kernel_rfl) (by kernel_rfl) (by kernel_rfl) hargs h

/- slices.swapRangeCmpFunc[string] -/
noncomputable def code161 : Code := Tryd.f161.body.getD .skip
theorem inl161 {J : Jd} {args : List AV} {H : Heap} {n : Nat} {R : AV → Heap → Nat → Prop} (hargs : args.length ≤ 38) (h : T.prop P gl n (resQ R) (bodyT tau gl J code161 38 [] args H n)) : CallA P gl 161 args H n R :=
  CallA.inlineE IsProg.eq tau_ok0 mix0 Tryd.func161 (by kernel_rfl) (by kernel_rfl) (by kernel_rfl) (by kernel_rfl) hargs h

/- math/bits.TrailingZeros32 -/
noncomputable def code162 : Code := Tryd.f162.body.getD .skip
theorem inl162 {J : Jd} {args : List AV} {H : Heap} {n : Nat} {R : AV → Heap → Nat → Prop} (hargs : args.length ≤ 14) (h : T.prop P gl n (resQ R) (bodyT tau gl J code162 14 [.tmp 2] args H n)) : CallA P gl 162 args H n R :=
  CallA.inlineE IsProg.eq tau_ok0 mix0 Tryd.func162 (by kernel_rfl) (by kernel_rfl) (by kernel_rfl) (by kernel_rfl) hargs h

/- math/bits.TrailingZeros64 -/
noncomputable def code163 : Code := Tryd.f163.body.getD .skip
theorem inl163 {J : Jd} {args : List AV} {H : Heap} {n : Nat} {R : AV → Heap → Nat → Prop} (hargs : args.length ≤ 14) (h : T.prop P gl n (resQ R) (bodyT tau gl J code163 14 [.tmp 2] args H n)) : CallA P gl 163 args H n R :=
  CallA.inlineE IsProg.eq tau_ok0 mix0 Tryd.func163 (by kernel_rfl) (by kernel_rfl) (by kernel_rfl) (by kernel_rfl) hargs h

noncomputable def fnList : List (Nat × FDesc) := [(3, code3, 58, [.tmp 4]),
  (4, code4, 72, [.tmp 4]),
  (5, code5, 140, [.tmp 10]),
  (6, code6, 157, [.tmp 6]),
  (7, code7, 62, [.tmp 2]),
  (8, code8, 40, [.tmp 2]),
  (9, code9, 160, [.tmp 4]),
  (10, code10, 118, [.tmp 4]),
  (11, code11, 137, [.tmp 6]),
  (12, code12, 81, [.tmp 2]),
  (13, code13, 86, [.tmp 0]),
  (14, code14, 74, [.cell 2 23, .tmp 3]),
  (15, code15, 75, [.cell 2 23, .tmp 3]),
  (16, code16, 34, [.tmp 2, .tmp 3]),
  (17, code17, 36, [.tmp 2, .tmp 3]),
  (18, code18, 29, [.cell 6 23]),
  (19, code19, 12, [.tmp 2]),
  (20, code20, 8, [.tmp 4]),
  (21, code21, 78, [.tmp 2]),
  (22, code22, 8, [.tmp 4]),
  (23, code23, 61, [.tmp 0]),
  (24, code24, 8, [.tmp 2]),
  (25, code25, 52, [.tmp 2, .tmp 3, .tmp 4]),
  (26, code26, 85, [.tmp 2, .tmp 3, .tmp 4]),
  (27, code27, 26, [.tmp 4]),
  (28, code28, 26, [.tmp 4]),
  (29, code29, 8, [.tmp 2]),
  (30, code30, 42, [.tmp 2, .tmp 3]),
  (31, code31, 49, [.tmp 2, .tmp 3]),
  (32, code32, 26, [.tmp 4]),
  (33, code33, 23, [.tmp 2]),
  (34, code34, 12, [.tmp 3]),
  (35, code35, 8, [.tmp 4]),
  (36, code36, 19, [.tmp 4]),
  (37, code37, 9, [.tmp 4]),
  (38, code38, 8, [.tmp 4]),
  (39, code39, 8, [.tmp 4]),
  (40, code40, 28, []),
  (41, code41, 8, [.tmp 4]),
  (42, code42, 8, [.tmp 4]),
  (43, code43, 95, [.tmp 6]),
  (44, code44, 18, [.tmp 2]),
  (45, code45, 125, [.tmp 4]),
  (46, code46, 19, [.tmp 4]),
  (47, code47, 55, [.tmp 4]),
  (48, code48, 11, [.tmp 2]),
  (49, code49, 33, [.cell 6 23, .tmp 7]),
  (50, code50, 123, [.tmp 4]),
  (51, code51, 9, [.tmp 2, .tmp 3]),
  (52, code52, 20, [.tmp 2, .tmp 3]),
  (53, code53, 34, [.tmp 2, .tmp 3]),
  (54, code54, 9, [.tmp 2, .tmp 3]),
  (55, code55, 46, [.tmp 2, .tmp 3]),
  (56, code56, 25, [.tmp 2]),
  (57, code57, 6, [.tmp 2]),
  (58, code58, 5, [.tmp 2]),
  (59, code59, 51, [.tmp 2]),
  (60, code60, 14, [.tmp 2]),
  (61, code61, 19, [.tmp 2]),
  (62, code62, 65, [.cell 2 89, .tmp 3]),
  (63, code63, 13, [.tmp 4]),
  (64, code64, 25, []),
  (65, code65, 19, [.tmp 4, .tmp 5]),
  (66, code66, 17, [.tmp 4]),
  (67, code67, 14, [.tmp 2]),
  (68, code68, 85, [.tmp 4]),
  (69, code69, 16, [.tmp 2]),
  (70, code70, 18, [.tmp 4]),
  (71, code71, 29, [.tmp 6]),
  (72, code72, 9, [.tmp 2]),
  (73, code73, 9, [.tmp 4]),
  (74, code74, 28, []),
  (75, code75, 9, []),
  (76, code76, 10, [.tmp 4]),
  (77, code77, 20, [.tmp 4]),
  (78, code78, 16, [.tmp 2]),
  (79, code79, 28, [.tmp 4]),
  (80, code80, 46, [.tmp 6]),
  (81, code81, 21, [.tmp 4]),
  (82, code82, 19, [.tmp 4]),
  (83, code83, 8, [.tmp 4]),
  (84, code84, 143, [.tmp 4]),
  (85, code85, 66, [.tmp 8]),
  (86, code86, 16, [.tmp 4]),
  (88, code88, 10, []),
  (89, code89, 30, [.tmp 4, .tmp 5]),
  (90, code90, 8, [.tmp 2]),
  (91, code91, 187, [.tmp 4]),
  (92, code92, 5, [.tmp 2]),
  (93, code93, 21, [.cell 2 120, .tmp 3]),
  (94, code94, 10, [.tmp 4]),
  (95, code95, 19, [.tmp 2, .tmp 3]),
  (96, code96, 80, [.tmp 2]),
  (97, code97, 37, [.cell 6 3, .cell 7 25]),
  (98, code98, 51, [.tmp 4, .tmp 5]),
  (99, code99, 53, [.tmp 4, .tmp 5]),
  (100, code100, 2, [.tmp 0]),
  (101, code101, 29, [.tmp 4]),
  (102, code102, 5, [.tmp 2]),
  (103, code103, 15, [.tmp 6]),
  (104, code104, 12, [.tmp 2]),
  (105, code105, 6, [.cell 0 134]),
  (106, code106, 20, []),
  (107, code107, 30, []),
  (108, code108, 25, [.tmp 2]),
  (109, code109, 30, [.tmp 4, .tmp 5]),
  (110, code110, 8, [.tmp 2]),
  (111, code111, 13, [.tmp 4]),
  (112, code112, 11, [.tmp 6]),
  (113, code113, 63, []),
  (114, code114, 6, [.tmp 2]),
  (117, code117, 6, [.tmp 2]),
  (118, code118, 81, [.tmp 4]),
  (119, code119, 50, [.tmp 4]),
  (120, code120, 34, [.tmp 4]),
  (121, code121, 14, []),
  (122, code122, 17, [.tmp 4, .tmp 5]),
  (123, code123, 51, [.tmp 4, .tmp 5]),
  (124, code124, 17, [.tmp 2]),
  (125, code125, 117, [.tmp 2, .tmp 3]),
  (126, code126, 50, [.tmp 4]),
  (127, code127, 37, [.tmp 6]),
  (128, code128, 33, [.tmp 2]),
  (129, code129, 6, [.tmp 4]),
  (130, code130, 30, [.tmp 2]),
  (131, code131, 54, [.tmp 4]),
  (132, code132, 10, [.tmp 6]),
  (133, code133, 10, [.tmp 4]),
  (134, code134, 13, [.tmp 6]),
  (135, code135, 11, [.tmp 4]),
  (136, code136, 18, [.tmp 6]),
  (137, code137, 17, [.tmp 6]),
  (140, code140, 16, [.tmp 4]),
  (141, code141, 25, [.tmp 6, .tmp 7]),
  (142, code142, 104, [.tmp 8]),
  (143, code143, 53, []),
  (144, code144, 220, []),
  (145, code145, 39, [.tmp 2, .tmp 3]),
  (146, code146, 10, [.tmp 2]),
  (148, code148, 26, []),
  (149, code149, 15, [.tmp 2]),
  (150, code150, 15, [.tmp 2]),
  (151, code151, 167, []),
  (152, code152, 102, [.tmp 10, .tmp 11]),
  (153, code153, 8, [.tmp 2]),
  (154, code154, 78, [.tmp 4]),
  (155, code155, 58, []),
  (156, code156, 6, [.tmp 2]),
  (157, code157, 25, [.tmp 2]),
  (158, code158, 4, [.tmp 2]),
  (159, code159, 8, [.tmp 2]),
  (160, code160, 8, [.tmp 2]),
  (161, code161, 38, []),
  (162, code162, 14, [.tmp 2]),
  (163, code163, 14, [.tmp 2])]
theorem fnD_ok : DOk P gl tau (Ax.look fnList) := dok
  (dok_cons (fun _ _ _ _ _ => inl3) 
  (dok_cons (fun _ _ _ _ _ => inl4) 
  (dok_cons (fun _ _ _ _ _ => inl5) 
  (dok_cons (fun _ _ _ _ _ => inl6) 
  (dok_cons (fun _ _ _ _ _ => inl7) 
  (dok_cons (fun _ _ _ _ _ => inl8) 
  (dok_cons (fun _ _ _ _ _ => inl9) 
  (dok_cons (fun _ _ _ _ _ => inl10) 
  (dok_cons (fun _ _ _ _ _ => inl11) 
  (dok_cons (fun _ _ _ _ _ => inl12) 
  (dok_cons (fun _ _ _ _ _ => inl13) 
  (dok_cons (fun _ _ _ _ _ => inl14) 
  (dok_cons (fun _ _ _ _ _ => inl15) 
  (dok_cons (fun _ _ _ _ _ => inl16) 
  (dok_cons (fun _ _ _ _ _ => inl17) 
  (dok_cons (fun _ _ _ _ _ => inl18) 
  (dok_cons (fun _ _ _ _ _ => inl19) 
  (dok_cons (fun _ _ _ _ _ => inl20) 
  (dok_cons (fun _ _ _ _ _ => inl21) 
  (dok_cons (fun _ _ _ _ _ => inl22) 
  (dok_cons (fun _ _ _ _ _ => inl23) 
  (dok_cons (fun _ _ _ _ _ => inl24) 
  (dok_cons (fun _ _ _ _ _ => inl25) 
  (dok_cons (fun _ _ _ _ _ => inl26) 
  (dok_cons (fun _ _ _ _ _ => inl27) 
  (dok_cons (fun _ _ _ _ _ => inl28) 
  (dok_cons (fun _ _ _ _ _ => inl29) 
  (dok_cons (fun _ _ _ _ _ => inl30) 
  (dok_cons (fun _ _ _ _ _ => inl31) 
  (dok_cons (fun _ _ _ _ _ => inl32) 
  (dok_cons (fun _ _ _ _ _ => inl33) 
  (dok_cons (fun _ _ _ _ _ => inl34) 
  (dok_cons (fun _ _ _ _ _ => inl35) 
  (dok_cons (fun _ _ _ _ _ => inl36) 
  (dok_cons (fun _ _ _ _ _ => inl37) 
  (dok_cons (fun _ _ _ _ _ => inl38) 
  (dok_cons (fun _ _ _ _ _ => inl39) 
  (dok_cons (fun _ _ _ _ _ => inl40) 
  (dok_cons (fun _ _ _ _ _ => inl41) 
  (dok_cons (fun _ _ _ _ _ => inl42) 
  (dok_cons (fun _ _ _ _ _ => inl43) 
  (dok_cons (fun _ _ _ _ _ => inl44) 
  (dok_cons (fun _ _ _ _ _ => inl45) 
  (dok_cons (fun _ _ _ _ _ => inl46) 
  (dok_cons (fun _ _ _ _ _ => inl47) 
  (dok_cons (fun _ _ _ _ _ => inl48) 
  (dok_cons (fun _ _ _ _ _ => inl49) 
  (dok_cons (fun _ _ _ _ _ => inl50) 
  (dok_cons (fun _ _ _ _ _ => inl51) 
  (dok_cons (fun _ _ _ _ _ => inl52) 
  (dok_cons (fun _ _ _ _ _ => inl53) 
  (dok_cons (fun _ _ _ _ _ => inl54) 
  (dok_cons (fun _ _ _ _ _ => inl55) 
  (dok_cons (fun _ _ _ _ _ => inl56) 
  (dok_cons (fun _ _ _ _ _ => inl57) 
  (dok_cons (fun _ _ _ _ _ => inl58) 
  (dok_cons (fun _ _ _ _ _ => inl59) 
  (dok_cons (fun _ _ _ _ _ => inl60) 
  (dok_cons (fun _ _ _ _ _ => inl61) 
  (dok_cons (fun _ _ _ _ _ => inl62) 
  (dok_cons (fun _ _ _ _ _ => inl63) 
  (dok_cons (fun _ _ _ _ _ => inl64) 
  (dok_cons (fun _ _ _ _ _ => inl65) 
  (dok_cons (fun _ _ _ _ _ => inl66) 
  (dok_cons (fun _ _ _ _ _ => inl67) 
  (dok_cons (fun _ _ _ _ _ => inl68) 
  (dok_cons (fun _ _ _ _ _ => inl69) 
  (dok_cons (fun _ _ _ _ _ => inl70) 
  (dok_cons (fun _ _ _ _ _ => inl71) 
  (dok_cons (fun _ _ _ _ _ => inl72) 
  (dok_cons (fun _ _ _ _ _ => inl73) 
  (dok_cons (fun _ _ _ _ _ => inl74) 
  (dok_cons (fun _ _ _ _ _ => inl75) 
  (dok_cons (fun _ _ _ _ _ => inl76) 
  (dok_cons (fun _ _ _ _ _ => inl77) 
  (dok_cons (fun _ _ _ _ _ => inl78) 
  (dok_cons (fun _ _ _ _ _ => inl79) 
  (dok_cons (fun _ _ _ _ _ => inl80) 
  (dok_cons (fun _ _ _ _ _ => inl81) 
  (dok_cons (fun _ _ _ _ _ => inl82) 
  (dok_cons (fun _ _ _ _ _ => inl83) 
  (dok_cons (fun _ _ _ _ _ => inl84) 
  (dok_cons (fun _ _ _ _ _ => inl85) 
  (dok_cons (fun _ _ _ _ _ => inl86) 
  (dok_cons (fun _ _ _ _ _ => inl88) 
  (dok_cons (fun _ _ _ _ _ => inl89) 
  (dok_cons (fun _ _ _ _ _ => inl90) 
  (dok_cons (fun _ _ _ _ _ => inl91) 
  (dok_cons (fun _ _ _ _ _ => inl92) 
  (dok_cons (fun _ _ _ _ _ => inl93) 
  (dok_cons (fun _ _ _ _ _ => inl94) 
  (dok_cons (fun _ _ _ _ _ => inl95) 
  (dok_cons (fun _ _ _ _ _ => inl96) 
  (dok_cons (fun _ _ _ _ _ => inl97) 
  (dok_cons (fun _ _ _ _ _ => inl98) 
  (dok_cons (fun _ _ _ _ _ => inl99) 
  (dok_cons (fun _ _ _ _ _ => inl100) 
  (dok_cons (fun _ _ _ _ _ => inl101) 
  (dok_cons (fun _ _ _ _ _ => inl102) 
  (dok_cons (fun _ _ _ _ _ => inl103) 
  (dok_cons (fun _ _ _ _ _ => inl104) 
  (dok_cons (fun _ _ _ _ _ => inl105) 
  (dok_cons (fun _ _ _ _ _ => inl106) 
  (dok_cons (fun _ _ _ _ _ => inl107) 
  (dok_cons (fun _ _ _ _ _ => inl108) 
  (dok_cons (fun _ _ _ _ _ => inl109) 
  (dok_cons (fun _ _ _ _ _ => inl110) 
  (dok_cons (fun _ _ _ _ _ => inl111) 
  (dok_cons (fun _ _ _ _ _ => inl112) 
  (dok_cons (fun _ _ _ _ _ => inl113) 
  (dok_cons (fun _ _ _ _ _ => inl114) 
  (dok_cons (fun _ _ _ _ _ => inl117) 
  (dok_cons (fun _ _ _ _ _ => inl118) 
  (dok_cons (fun _ _ _ _ _ => inl119) 
  (dok_cons (fun _ _ _ _ _ => inl120) 
  (dok_cons (fun _ _ _ _ _ => inl121) 
  (dok_cons (fun _ _ _ _ _ => inl122) 
  (dok_cons (fun _ _ _ _ _ => inl123) 
  (dok_cons (fun _ _ _ _ _ => inl124) 
  (dok_cons (fun _ _ _ _ _ => inl125) 
  (dok_cons (fun _ _ _ _ _ => inl126) 
  (dok_cons (fun _ _ _ _ _ => inl127) 
  (dok_cons (fun _ _ _ _ _ => inl128) 
  (dok_cons (fun _ _ _ _ _ => inl129) 
  (dok_cons (fun _ _ _ _ _ => inl130) 
  (dok_cons (fun _ _ _ _ _ => inl131) 
  (dok_cons (fun _ _ _ _ _ => inl132) 
  (dok_cons (fun _ _ _ _ _ => inl133) 
  (dok_cons (fun _ _ _ _ _ => inl134) 
  (dok_cons (fun _ _ _ _ _ => inl135) 
  (dok_cons (fun _ _ _ _ _ => inl136) 
  (dok_cons (fun _ _ _ _ _ => inl137) 
  (dok_cons (fun _ _ _ _ _ => inl140) 
  (dok_cons (fun _ _ _ _ _ => inl141) 
  (dok_cons (fun _ _ _ _ _ => inl142) 
  (dok_cons (fun _ _ _ _ _ => inl143) 
  (dok_cons (fun _ _ _ _ _ => inl144) 
  (dok_cons (fun _ _ _ _ _ => inl145) 
  (dok_cons (fun _ _ _ _ _ => inl146) 
  (dok_cons (fun _ _ _ _ _ => inl148) 
  (dok_cons (fun _ _ _ _ _ => inl149) 
  (dok_cons (fun _ _ _ _ _ => inl150) 
  (dok_cons (fun _ _ _ _ _ => inl151) 
  (dok_cons (fun _ _ _ _ _ => inl152) 
  (dok_cons (fun _ _ _ _ _ => inl153) 
  (dok_cons (fun _ _ _ _ _ => inl154) 
  (dok_cons (fun _ _ _ _ _ => inl155) 
  (dok_cons (fun _ _ _ _ _ => inl156) 
  (dok_cons (fun _ _ _ _ _ => inl157) 
  (dok_cons (fun _ _ _ _ _ => inl158) 
  (dok_cons (fun _ _ _ _ _ => inl159) 
  (dok_cons (fun _ _ _ _ _ => inl160) 
  (dok_cons (fun _ _ _ _ _ => inl161) 
  (dok_cons (fun _ _ _ _ _ => inl162) 
  (dok_cons (fun _ _ _ _ _ => inl163) dok_nil)))))))))))))))))))))))))))))))))))))))))))))))))))))))))))))))))))))))))))))))))))))))))))))))))))))))))))))))))))))))))))))))))))))))))))))))))))))))))))
def jList : List (Nat × Jd) := [(3, ⟨[], [], [(7, [4]), (6, [5, 6, 7, 8, 9, 10, 11, 12]), (5, [3, 5, 6, 7, 8, 9, 10]), (4, [3, 5, 6, 7, 8]), (3, [0, 3, 5, 6]), (2, [4]), (1, [0, 3, 15]), (0, [0, 3])]⟩), (4, ⟨[(4, 51)], [], [(7, [4]), (6, [5, 11, 12]), (5, [4]), (4, [5, 7, 51]), (3, [5, 6, 7, 8, 9, 10]), (2, [5, 6, 7, 8]), (1, [5, 6]), (0, [2, 3])]⟩), (5, ⟨[(22, 122), (26, 138)], [], [(28, [10]), (27, [10]), (26, [138]), (25, [21, 22]), (24, [12, 124]), (23, [10]), (22, [12, 13, 122]), (21, [12, 13, 14, 19, 20]), (20, [2, 12, 13, 14, 17, 88, 89]), (19, [2, 12, 13, 14, 17, 88, 89]), (18, [2, 12, 13, 14, 17, 18, 88, 89, 97]), (17, [2, 12, 13, 14, 17, 18, 88, 89]), (16, [2, 12, 13, 14, 17, 88, 89, 90]), (15, [2, 12, 13, 14, 17, 88, 89]), (14, [2, 12, 13, 14, 17]), (11, [2, 12, 13, 14, 16]), (13, [2, 12, 13, 14, 16]), (12, [2, 12, 13, 14, 15, 16, 79]), (10, [2, 12, 13, 14, 15, 16, 74, 75]), (9, [2, 12, 13, 14, 15, 16, 74]), (8, [2, 12, 13, 14, 15, 16]), (7, [2, 12, 13, 14, 15]), (6, [2, 12, 13, 14, 15]), (5, [2, 12, 13, 14]), (4, [2, 3, 4, 11, 12, 13]), (3, [1, 2, 3, 4, 11, 12, 13]), (2, [1, 2, 3, 4, 11, 12]), (1, [1, 2, 3, 4, 11]), (0, [0, 1, 2, 3, 4])]⟩), (6, ⟨[(9, 70), (19, 154)], [], [(22, [6]), (21, [138, 139, 140]), (20, [6]), (19, [138, 139, 140, 154]), (18, [19, 20, 138, 139, 140]), (17, [18, 138, 139, 140]), (16, [138, 139, 140, 141]), (15, [138, 139, 140]), (14, [6]), (13, [8, 104]), (12, [1, 8, 9, 15, 16]), (11, [1, 8, 9, 49, 50, 51]), (10, [6]), (9, [1, 8, 9, 49, 50, 51, 70]), (8, [1, 8, 9, 13, 14, 49, 50, 51]), (7, [1, 8, 9, 12, 49, 50, 51]), (6, [1, 8, 9, 49, 50, 51, 52]), (5, [1, 8, 9, 49, 50, 51]), (4, [6]), (3, [1, 8, 9, 36]), (2, [1, 8, 9, 10]), (1, [1, 7, 8]), (0, [1, 2, 3])]⟩), (7, ⟨[], [], [(12, [2]), (11, [0, 5, 6, 7, 8, 9, 10, 11]), (10, [0, 5, 6, 7, 8]), (9, [0, 5]), (8, [0, 16, 17, 18]), (7, [2]), (6, [0, 16, 17, 18, 24]), (5, [0, 4, 16, 17, 18]), (4, [0, 16, 17, 18, 19]), (3, [0, 16, 17, 18]), (2, [2]), (1, [0, 14]), (0, [0])]⟩), (8, ⟨[], [], [(6, [2]), (5, [0, 3, 4, 5, 6, 7]), (4, [0, 3, 4, 5]), (3, [0, 3]), (2, [2]), (1, [0, 10]), (0, [0])]⟩), (9, ⟨[(19, 114), (25, 133)], [], [(31, [4]), (30, [8, 9, 115, 116, 117]), (29, [4]), (28, [8, 9, 115, 116, 117, 157]), (27, [8, 9, 16, 17, 18, 115, 116, 117]), (26, [4]), (25, [8, 9, 16, 17, 115, 116, 117, 133]), (24, [8, 9, 16, 17, 115, 116, 117]), (23, [8, 9, 15, 16, 115, 116, 117]), (22, [8, 9, 115, 116, 117, 118]), (21, [8, 9, 115, 116, 117]), (20, [4]), (19, [5, 8, 9, 114]), (18, [4]), (17, [5, 8, 9, 10, 11, 85]), (16, [5, 8, 9, 10, 11, 59, 60, 61]), (15, [5, 8, 9, 10, 11, 59, 60, 61]), (14, [5, 8, 9, 10, 11, 13, 59, 60, 61, 77]), (13, [5, 8, 9, 10, 11, 12, 13, 14, 59, 60, 61]), (12, [5, 8, 9, 10, 11, 12, 13, 59, 60, 61]), (11, [5, 8, 9, 10, 11, 59, 60, 61, 62]), (10, [5, 8, 9, 10, 11, 59, 60, 61]), (9, [5, 8, 9, 10, 11]), (8, [5, 8, 9, 10]), (7, [5, 25, 26, 27]), (6, [5, 25, 26, 27]), (5, [5, 6, 7, 25, 26, 27, 35]), (4, [5, 6, 7, 25, 26, 27]), (3, [5, 25, 26, 27, 28]), (2, [5, 25, 26, 27]), (1, [1, 5]), (0, [0, 1])]⟩), (10, ⟨[(13, 94)], [], [(22, [4]), (19, [17, 18]), (21, [4]), (20, [17, 18, 116]), (18, [17, 18, 102]), (17, [17, 18]), (16, [17]), (15, [6, 8, 62, 63, 64]), (14, [4]), (13, [6, 8, 62, 63, 64, 94]), (12, [6, 8, 13, 14, 15, 16, 62, 63, 64]), (11, [6, 8, 13, 62, 63, 64]), (10, [6, 8, 62, 63, 64, 65]), (9, [6, 8, 62, 63, 64]), (8, [5, 6, 8, 10, 11]), (7, [5, 6, 8, 10, 11]), (6, [5, 6, 8, 10]), (5, [5, 6, 8, 9]), (4, [4]), (3, [1, 5, 6, 8, 29]), (2, [1, 5, 6, 8]), (1, [1, 5]), (0, [0, 1])]⟩), (11, ⟨[(7, 59)], [], [(16, [6]), (15, [14, 15, 16, 17, 18, 19, 20, 23]), (14, [14, 15, 16, 17, 18, 19, 20]), (13, [6]), (12, [14, 15, 16, 17, 72]), (11, [14, 15, 16, 17]), (10, [14]), (9, [2, 7, 8, 32, 33, 34]), (8, [6]), (7, [2, 7, 8, 32, 33, 34, 59]), (6, [2, 7, 8, 11, 12, 13, 32, 33, 34]), (5, [2, 7, 8, 10, 32, 33, 34]), (4, [2, 7, 8, 32, 33, 34, 35]), (3, [2, 7, 8, 32, 33, 34]), (2, [2, 7, 8]), (1, [1, 2, 7]), (0, [0, 1, 2])]⟩), (12, ⟨[], [], [(21, [2]), (20, [3, 5, 61, 62, 63]), (19, [2]), (18, [3, 5, 61, 62, 63, 72]), (17, [3, 5, 8, 9, 61, 62, 63]), (16, [3, 5, 61, 62, 63, 64]), (15, [3, 5, 61, 62, 63]), (14, [0, 3, 5, 24, 25, 26]), (13, [0, 3, 5, 24, 25, 26]), (12, [0, 3, 5, 24, 25, 26, 57]), (11, [2]), (10, [0, 3, 5, 7, 24, 25, 26, 54]), (9, [0, 3, 5, 6, 7, 24, 25, 26]), (8, [0, 3, 5, 24, 25, 26, 27]), (7, [0, 3, 5, 24, 25, 26]), (6, [0, 3, 4, 5]), (5, [2]), (4, [0, 3, 4, 23]), (3, [0, 3, 4]), (2, [2]), (1, [0, 12]), (0, [0])]⟩), (13, ⟨[(5, 64), (10, 0)], [], [(10, [0]), (9, [5, 6, 8]), (8, [5, 6]), (7, [43, 44, 45]), (6, [0]), (5, [43, 44, 45, 64]), (4, [2, 3, 4, 43, 44, 45]), (3, [2, 43, 44, 45]), (2, [43, 44, 45, 46]), (1, [43, 44, 45]), (0, [])]⟩), (14, ⟨[(2, 20)], [3], [(14, [2, 3]), (13, [2, 3]), (12, [2, 8, 9, 69]), (11, [2, 8, 9]), (10, [2, 3]), (9, [2, 3]), (8, [2, 6, 7, 58]), (7, [2, 6, 7]), (6, [0, 2, 50]), (5, [2, 3]), (4, [0, 2, 4, 5, 31]), (3, [0, 2, 4, 5]), (2, [0, 2, 4, 20]), (1, [0, 2, 4]), (0, [0, 2])]⟩), (15, ⟨[], [], [(20, [2, 3]), (19, [2, 3]), (18, [2, 11, 12, 70]), (17, [2, 11, 12]), (16, [2, 3]), (15, [2, 3]), (14, [2, 9, 60]), (13, [2, 9, 10]), (12, [0, 2, 52]), (11, [2, 3]), (10, [2, 3]), (9, [2, 6, 8, 44]), (8, [2, 3]), (7, [0, 2, 4, 6, 7, 8, 38]), (6, [0, 2, 4, 6, 7, 8]), (5, [2, 3]), (4, [0, 2, 4, 6, 27]), (3, [0, 2, 4, 6, 7]), (2, [0, 2, 4, 18]), (1, [0, 2, 4, 5]), (0, [0, 2])]⟩), (16, ⟨[], [], [(11, [2, 3]), (6, [2, 3]), (8, [2, 3]), (10, [2, 3]), (9, [4, 5, 27]), (7, [4, 5, 16, 21]), (5, [4, 5, 16, 17]), (4, [4, 5, 16]), (3, [1, 4, 5]), (2, [2, 3]), (1, [1, 8]), (0, [1])]⟩), (17, ⟨[], [], [(11, [2, 3]), (6, [2, 3]), (8, [2, 3]), (10, [2, 3]), (9, [1, 4, 22]), (7, [1, 4, 12, 18]), (5, [1, 4, 12, 13]), (4, [1, 4, 12]), (3, [1, 4]), (2, [2, 3]), (1, [1, 7]), (0, [1])]⟩), (18, ⟨[], [], [(7, [6]), (4, [6, 7]), (6, [6, 7]), (5, [6, 7, 25]), (3, [6, 7, 21, 22]), (2, [6, 7, 21]), (1, [6, 7]), (0, [0, 1, 2, 6])]⟩), (19, ⟨[], [], [(4, [2]), (3, [2]), (2, [11]), (1, [4]), (0, [1])]⟩), (20, ⟨[], [], [(1, [4]), (0, [0, 1])]⟩), (21, ⟨[(8, 4), (19, 52)], [22], [(28, [2]), (27, [2]), (26, [7]), (25, [0, 7, 8, 70]), (17, [0, 7, 8, 9]), (24, [0, 7, 8, 9]), (23, [0, 7, 9]), (22, [0, 7, 9, 10]), (21, [0, 7, 8, 9, 10, 57]), (20, [0, 7, 8, 9, 10]), (19, [0, 7, 8, 9, 10, 52]), (18, [0, 7, 8, 9, 10]), (16, [0, 7, 8, 9, 41]), (15, [0, 7, 8, 9]), (14, [0, 7, 8]), (13, [0, 7, 8]), (12, [0, 7]), (11, [2]), (10, [0, 33]), (9, [0, 4, 31]), (4, [0, 3, 4, 5]), (8, [0, 3, 4, 5]), (7, [0, 3, 4]), (6, [0, 3, 4, 5, 6, 21]), (5, [0, 3, 4, 5, 6]), (3, [0, 3, 4, 5, 14]), (2, [0, 3, 4, 5]), (1, [0, 3, 4]), (0, [0])]⟩), (22, ⟨[], [], [(1, [4]), (0, [0, 1])]⟩), (23, ⟨[], [], [(4, [0]), (3, [3, 6, 8, 9]), (2, [3, 6]), (1, [3]), (0, [])]⟩), (24, ⟨[], [], [(3, [2]), (2, [2]), (1, [0, 4]), (0, [0])]⟩), (25, ⟨[], [], [(22, [2, 3, 4]), (21, [6, 7, 12, 37, 38, 39]), (20, [6, 7, 12, 37, 38, 39]), (19, [6, 7, 12, 14, 37, 38, 39]), (18, [6, 7, 12, 37, 38, 39, 40]), (17, [6, 7, 12, 37, 38, 39]), (16, [0, 6, 7, 12]), (15, [0, 6, 7, 8, 24, 25, 26]), (14, [2, 3, 4]), (13, [0, 6, 7, 8, 24, 25, 26, 35]), (12, [0, 6, 7, 8, 24, 25, 26]), (11, [0, 6, 7, 8, 11, 24, 25, 26]), (10, [0, 6, 7, 8, 24, 25, 26, 27]), (9, [0, 6, 7, 8, 24, 25, 26]), (8, [0, 6, 7, 8, 9]), (7, [0, 6, 7, 8, 9]), (6, [0, 6, 7, 8]), (5, [0, 6, 7]), (4, [0, 6]), (3, [2, 3, 4]), (2, [0, 17]), (1, [0, 5]), (0, [0])]⟩), (26, ⟨[], [], [(24, [2, 3, 4]), (22, [0, 7, 10, 11]), (23, [0, 7, 10, 11]), (21, [0, 7, 10, 11, 71]), (20, [0, 7, 10, 11]), (19, [0, 7, 10]), (11, [0, 7, 8]), (14, [0, 7, 8, 9]), (18, [2, 3, 4]), (17, [0, 7, 8, 9, 67]), (16, [0, 7, 8, 9]), (15, [0, 7, 8, 9, 57]), (13, [0, 7, 8, 9, 39]), (12, [0, 7, 8, 9]), (10, [0, 7, 8, 33]), (9, [0, 7, 8]), (8, [0, 5, 7]), (4, [0, 5, 6]), (7, [0, 5, 6]), (6, [2, 3, 4]), (5, [0, 5, 6, 23]), (3, [0, 5, 6, 15]), (2, [0, 5, 6]), (1, [0, 5]), (0, [0])]⟩), (27, ⟨[], [], [(9, [4]), (8, [0, 1, 12, 13]), (7, [4]), (6, [0, 1, 12, 13, 24]), (5, [0, 1, 5, 12, 13]), (4, [0, 1, 12, 13, 14]), (3, [0, 1, 12, 13]), (2, [4]), (1, [0, 1, 10]), (0, [0, 1])]⟩), (28, ⟨[], [], [(9, [4]), (8, [0, 1, 12, 13]), (7, [4]), (6, [0, 1, 12, 13, 24]), (5, [0, 1, 5, 12, 13]), (4, [0, 1, 12, 13, 14]), (3, [0, 1, 12, 13]), (2, [4]), (1, [0, 1, 10]), (0, [0, 1])]⟩), (29, ⟨[], [], [(3, [2]), (2, [2]), (1, [0, 4]), (0, [0])]⟩), (30, ⟨[], [], [(14, [2, 3]), (13, [4, 5, 6, 12, 13, 14]), (12, [4, 5, 6, 12, 13, 14]), (11, [4, 5, 6, 9, 12, 13, 14]), (10, [4, 5, 6, 8, 9, 12, 13, 14]), (9, [4, 5, 6, 8, 9, 12, 13, 14]), (8, [4, 5, 6, 8, 9, 12, 13, 14, 25]), (7, [4, 5, 6, 8, 9, 10, 12, 13, 14]), (6, [4, 5, 6, 8, 12, 13, 14]), (5, [4, 5, 6, 12, 13, 14, 15]), (4, [4, 5, 6, 12, 13, 14]), (3, [0, 4, 5, 6]), (2, [0, 4, 5]), (1, [0, 4]), (0, [0])]⟩), (31, ⟨[], [], [(16, [2, 3]), (5, [0, 4, 5, 6]), (15, [0, 4, 5, 6]), (14, [0, 4, 5, 6, 7]), (13, [0, 4, 5, 6]), (12, [0, 4, 5, 6, 7, 32]), (9, [0, 4, 5, 6, 7, 8]), (11, [0, 4, 5, 6, 7, 8]), (10, [0, 4, 5, 6, 7, 8, 29]), (8, [0, 4, 5, 6, 7, 8, 18]), (7, [0, 4, 5, 6, 7, 8]), (6, [0, 4, 5, 6, 7]), (4, [0, 4, 5, 6, 12]), (3, [0, 4, 5, 6]), (2, [0, 4, 5]), (1, [0, 4]), (0, [0])]⟩), (32, ⟨[], [], [(9, [4]), (8, [0, 1, 12, 13]), (7, [4]), (6, [0, 1, 12, 13, 24]), (5, [0, 1, 5, 12, 13]), (4, [0, 1, 12, 13, 14]), (3, [0, 1, 12, 13]), (2, [4]), (1, [0, 1, 10]), (0, [0, 1])]⟩), (33, ⟨[], [], [(7, [2]), (6, [3, 10, 11, 12]), (5, [3, 10, 11, 12]), (4, [3, 5, 10, 11, 12]), (3, [3, 10, 11, 12, 13]), (2, [3, 10, 11, 12]), (1, [0, 3]), (0, [0])]⟩), (34, ⟨[], [], [(1, [3]), (0, [0, 1])]⟩), (35, ⟨[], [], [(1, [4]), (0, [0, 1])]⟩), (36, ⟨[], [], [(7, [4]), (6, [0, 1, 7, 8]), (5, [4]), (4, [0, 1, 5, 7, 8, 16]), (3, [0, 1, 5, 7, 8]), (2, [0, 1, 7, 8, 9]), (1, [0, 1, 7, 8]), (0, [0, 1])]⟩), (37, ⟨[], [], [(1, [4]), (0, [0, 1])]⟩), (38, ⟨[], [], [(1, [4]), (0, [0, 1])]⟩), (39, ⟨[], [], [(1, [4]), (0, [0, 1])]⟩), (40, ⟨[], [], [(2, [0, 2, 3]), (3, [0, 2, 3]), (1, [0, 2, 3, 9]), (0, [0, 2, 3])]⟩), (41, ⟨[], [], [(1, [4]), (0, [0, 1])]⟩), (42, ⟨[], [], [(1, [4]), (0, [0, 1])]⟩), (43, ⟨[], [], [(20, [6]), (19, [0]), (18, [0, 1, 7]), (17, [6]), (16, [0]), (15, [0, 1, 2]), (14, [0, 1, 2, 7, 8, 68]), (13, [0, 1, 2, 7, 8]), (12, [6]), (11, [9]), (10, [0, 1, 7, 9]), (9, [0, 1, 2, 7, 9]), (8, [0, 1, 2, 7, 8, 31]), (7, [6]), (6, [0, 1, 2, 7, 8, 22]), (5, [0, 1, 2, 7, 8]), (4, [6]), (3, [0, 1, 2, 7, 16]), (2, [0, 1, 2, 7]), (1, [0, 1, 2]), (0, [0, 1, 2])]⟩), (44, ⟨[], [], [(7, [2]), (6, [3, 5, 6]), (5, [3, 5, 6]), (4, [3, 4, 5, 6]), (3, [3, 5, 6, 7]), (2, [3, 5, 6]), (1, [0, 3]), (0, [0])]⟩), (45, ⟨[(9, 34), (19, 43)], [7, 10, 16, 32], [(41, [4]), (40, [7, 8, 9]), (39, [7, 8, 9, 10]), (38, [7, 8, 9, 113]), (37, [7, 8, 9]), (36, [0, 7, 8, 9]), (35, [0, 7, 8, 9]), (34, [0, 7, 8]), (33, [0, 7, 8, 104]), (32, [0, 7, 8]), (31, [0, 7, 8, 96]), (30, [0, 7, 8]), (21, [4]), (23, [4]), (25, [4]), (27, [4]), (29, [4]), (28, [0, 7, 85]), (26, [0, 7, 76]), (24, [0, 7, 67]), (22, [0, 7, 58]), (20, [0, 7, 49]), (19, [0, 7, 43]), (18, [0, 7, 42, 43]), (17, [0, 7, 42, 43]), (16, [0, 7, 42, 43]), (15, [0, 7, 42, 43]), (14, [0, 7, 42]), (13, [4]), (12, [0, 7, 40]), (11, [0, 7]), (10, [0, 6]), (9, [0, 6, 34]), (8, [0, 5, 6]), (7, [0, 1]), (6, [0, 1, 18]), (3, [4]), (5, [4]), (4, [0, 1, 14]), (2, [0, 1, 11, 12]), (1, [0, 1, 11]), (0, [0, 1])]⟩), (46, ⟨[], [], [(7, [4]), (6, [0, 3, 7, 8]), (5, [4]), (4, [0, 3, 5, 7, 8, 16]), (3, [0, 3, 5, 7, 8]), (2, [0, 3, 7, 8, 9]), (1, [0, 3, 7, 8]), (0, [0, 3])]⟩), (47, ⟨[], [9], [(22, [4]), (21, [4]), (20, [1, 9, 45, 53]), (19, [1, 9, 10, 45]), (18, [1, 45, 46, 47]), (17, [1, 45]), (16, [4]), (13, [0, 6, 8]), (15, [4]), (14, [0, 6, 8, 42]), (12, [0, 6, 8, 36]), (11, [0, 6, 8]), (10, [0, 1, 6, 32]), (9, [0, 1, 6, 7]), (8, [0, 1, 26]), (7, [4]), (6, [0, 5]), (5, [0, 5, 20]), (4, [0, 5]), (3, [0, 1, 15]), (2, [4]), (1, [0, 1, 12]), (0, [0, 1])]⟩), (48, ⟨[], [], [(5, [2]), (2, [2]), (4, [2]), (3, [7]), (1, [1, 3]), (0, [1])]⟩), (49, ⟨[], [], [(7, [6, 7]), (6, [6, 7]), (5, [0, 6, 8, 9, 10, 26]), (4, [0, 6, 8, 9, 10]), (3, [6, 7]), (2, [0, 2, 6, 8, 9, 17]), (1, [0, 2, 6, 8, 9]), (0, [0, 1, 2, 6])]⟩), (50, ⟨[(11, 54), (13, 4), (27, 104), (30, 114), (34, 4)], [25], [(34, [4]), (33, [4]), (32, [1, 67, 119]), (31, [1, 10, 11, 13, 67]), (30, [1, 10, 11, 13, 67, 114]), (29, [1, 10, 11, 13, 67]), (28, [4]), (27, [1, 67, 104]), (26, [1, 10, 11, 67, 91]), (25, [1, 10, 11, 67]), (24, [1, 10, 11, 67, 87]), (23, [1, 10, 11, 67, 84]), (22, [1, 10, 11, 67]), (21, [1, 10, 11, 12, 67]), (20, [4]), (19, [1, 10, 67, 73]), (18, [1, 10, 67]), (17, [1, 67, 68, 69]), (16, [1, 67]), (15, [0, 1]), (14, [0, 1, 5]), (13, [4]), (4, [0, 1, 5, 6]), (12, [4]), (11, [0, 1, 5, 6, 54]), (10, [0, 1, 5, 6, 7, 8]), (9, [0, 1, 5, 6, 7, 8, 39]), (8, [0, 1, 5, 6, 7, 8, 36]), (7, [0, 1, 5, 6, 7, 8, 33]), (6, [0, 1, 5, 6, 7, 8]), (5, [0, 1, 5, 6, 7]), (3, [0, 1, 5, 6, 21]), (2, [0, 1, 5, 6]), (1, [0, 1, 5]), (0, [0, 1])]⟩), (51, ⟨[], [], [(1, [2, 3]), (0, [0])]⟩), (52, ⟨[(2, 16)], [], [(6, [2, 3]), (5, [2, 3]), (4, [4, 18]), (3, [2, 3]), (2, [4, 16]), (1, [4, 5]), (0, [0])]⟩), (53, ⟨[(4, 20)], [], [(6, [2, 3]), (3, [0, 4]), (5, [2, 3]), (4, [0, 4, 20]), (2, [0, 4, 8]), (1, [0, 4]), (0, [0])]⟩), (54, ⟨[], [], [(1, [2, 3]), (0, [0])]⟩), (55, ⟨[(1, 18), (7, 34)], [], [(12, [2, 3]), (11, [2, 3]), (10, [4, 44]), (6, [0, 4, 5]), (9, [0, 4, 5]), (8, [2, 3]), (7, [0, 4, 5, 34]), (5, [0, 4, 5, 22]), (4, [0, 4, 5]), (3, [0, 4]), (2, [2, 3]), (1, [0, 18]), (0, [0])]⟩), (56, ⟨[], [], [(8, [2]), (5, [0, 3]), (7, [2]), (6, [0, 3, 24]), (4, [0, 3, 8]), (3, [0, 3]), (2, [2]), (1, [0, 6]), (0, [0])]⟩), (57, ⟨[], [], [(1, [2]), (0, [0])]⟩), (58, ⟨[], [], [(1, [2]), (0, [0])]⟩), (59, ⟨[(2, 50)], [], [(4, [2]), (3, [2]), (2, [50]), (1, [1, 3, 4]), (0, [1])]⟩), (60, ⟨[(1, 8)], [], [(3, [2]), (2, [2]), (1, [0, 8]), (0, [0])]⟩), (61, ⟨[], [], [(3, [2]), (2, [2]), (1, [0, 4]), (0, [0])]⟩), (62, ⟨[(1, 12), (4, 39), (6, 62)], [], [(8, [2, 3]), (7, [2, 3]), (6, [2, 4, 62]), (5, [2, 3]), (4, [1, 2, 4, 39]), (3, [1, 2, 4]), (2, [2, 3]), (1, [1, 2, 12]), (0, [1, 2])]⟩), (63, ⟨[], [], [(3, [4]), (2, [4]), (1, [0, 1, 7]), (0, [0, 1])]⟩), (64, ⟨[], [2], [(4, []), (3, [0, 1, 21]), (2, [0, 1]), (1, [0, 1, 7]), (0, [0, 1])]⟩), (65, ⟨[], [], [(3, [4, 5]), (2, [1]), (1, [0, 1]), (0, [0, 1])]⟩), (66, ⟨[], [], [(3, [4]), (2, []), (1, [0, 1]), (0, [0, 1])]⟩), (67, ⟨[], [], [(1, [2]), (0, [0])]⟩), (68, ⟨[(6, 28), (10, 44)], [9], [(27, [4]), (25, [0, 5, 68]), (26, [0, 5, 68]), (24, [0, 5, 12, 68, 78]), (23, [0, 5, 12, 68, 76]), (22, [0, 5, 12, 68]), (21, [0, 5, 11, 68]), (20, [0, 5, 68, 69, 70]), (19, [0, 5, 68]), (18, [4]), (17, [0, 1, 5, 65]), (16, [0, 1, 5]), (15, [0, 1, 5, 6, 9]), (14, [0, 1, 5, 6, 8, 9, 56]), (13, [0, 1, 5, 6, 8, 9]), (12, [0, 1, 5, 6, 8, 9]), (10, [0, 1, 5, 6, 8, 9, 14, 44]), (9, [0, 1, 5, 6, 7, 8, 9, 14]), (11, [0, 1, 5, 6, 8, 9]), (8, [0, 1, 5, 6, 7, 8, 14, 30]), (7, [0, 1, 5, 6, 7, 8, 14]), (6, [0, 1, 5, 6, 7, 8, 14, 28]), (5, [0, 1, 5, 6, 7, 8, 14]), (4, [0, 1, 5, 6, 7, 14]), (3, [0, 1, 5, 14, 15, 16]), (2, [0, 1, 5, 14]), (1, [0, 1, 5]), (0, [0, 1])]⟩), (69, ⟨[(2, 10)], [], [(5, [2]), (4, [2]), (3, [0]), (2, [0, 10]), (1, [0, 4]), (0, [0])]⟩), (70, ⟨[(1, 4)], [], [(1, [4]), (0, [0, 1])]⟩), (71, ⟨[], [], [(2, [6]), (1, [0, 1, 7, 8, 9]), (0, [0, 1, 2])]⟩), (72, ⟨[], [], [(1, [2]), (0, [0])]⟩), (73, ⟨[], [], [(1, [4]), (0, [0, 1])]⟩), (74, ⟨[], [], [(4, []), (3, [0, 1, 2]), (2, [0, 1, 2, 17]), (1, [0, 1, 2, 12]), (0, [0, 1, 2, 5])]⟩), (75, ⟨[], [], [(0, [])]⟩), (76, ⟨[], [], [(1, [4]), (0, [0, 1])]⟩), (77, ⟨[], [], [(13, [4]), (12, [4]), (11, [19]), (10, [4]), (9, [0, 1, 16]), (8, [4]), (7, [0, 1, 13]), (6, [4]), (5, [4]), (4, [12]), (3, [0, 1, 6, 11]), (2, [0, 1, 5, 6]), (1, [0, 1, 5]), (0, [0, 1])]⟩), (78, ⟨[(6, 2)], [], [(6, [2]), (3, [0, 3]), (5, [2]), (4, [0, 3, 13]), (2, [0, 3, 7]), (1, [0, 3]), (0, [0])]⟩), (79, ⟨[], [], [(7, [4]), (4, [0, 5, 6]), (6, [4]), (5, [0, 5, 6, 26]), (3, [0, 5, 6, 15]), (2, [0, 5, 6]), (1, [0, 5]), (0, [0, 1])]⟩), (80, ⟨[(3, 23)], [], [(9, [6]), (4, [0, 1, 2, 7, 8]), (8, [0, 1, 2, 7, 8]), (7, [0, 1, 2, 7, 8, 9]), (6, [0, 1, 2, 7, 8, 9, 32]), (5, [0, 1, 2, 7, 8, 9]), (3, [0, 1, 2, 7, 8, 23]), (2, [0, 1, 2, 7, 8]), (1, [0, 1, 2, 7]), (0, [0, 1, 2])]⟩), (81, ⟨[(1, 4)], [], [(1, [4]), (0, [0, 1])]⟩), (82, ⟨[], [], [(7, [4]), (6, [0, 1, 7, 8]), (5, [4]), (4, [0, 1, 5, 7, 8, 16]), (3, [0, 1, 5, 7, 8]), (2, [0, 1, 7, 8, 9]), (1, [0, 1, 7, 8]), (0, [0, 1])]⟩), (83, ⟨[], [], [(1, [4]), (0, [0, 1])]⟩), (84, ⟨[(2, 16), (8, 36), (21, 93), (30, 132)], [17], [(35, [4]), (29, [4]), (28, [4]), (27, [8, 12, 114]), (26, [8, 12]), (34, [4]), (33, [4]), (32, [8, 13, 139]), (31, [8, 13]), (30, [0, 1, 5, 6, 7, 8, 9, 10, 132]), (25, [0, 1, 5, 6, 7, 8, 9, 10, 107]), (24, [0, 1, 5, 6, 7, 8, 9, 10]), (23, [0, 1, 5, 6, 7, 8, 9, 10]), (22, [4]), (21, [0, 1, 5, 6, 7, 8, 9, 10, 93]), (20, [0, 1, 5, 6, 7, 8, 9, 10]), (19, [4]), (18, [0, 1, 5, 6, 7, 8, 9, 10, 11, 73]), (17, [0, 1, 5, 6, 7, 8, 9, 10, 11]), (16, [0, 1, 5, 6, 7, 8, 9, 10, 64]), (15, [0, 1, 5, 6, 7, 8, 9, 10, 59]), (14, [0, 1, 5, 6, 7, 8, 9, 10]), (13, [0, 1, 5, 6, 7, 8, 9]), (12, [0, 1, 5, 6, 7, 8]), (11, [0, 1, 5, 6, 7]), (10, [0, 1, 5, 6]), (3, [4]), (5, [4]), (7, [4]), (9, [4]), (8, [0, 1, 5, 36]), (6, [0, 1, 5, 31]), (4, [0, 1, 5, 24]), (2, [0, 1, 5, 16]), (1, [0, 1, 5]), (0, [0, 1])]⟩), (85, ⟨[], [6], [(18, [8]), (17, [9, 10]), (16, [0, 1, 2, 3, 9, 10]), (15, [0, 1, 2, 3, 9, 10]), (14, [0, 1, 2, 3, 9, 10, 11]), (13, [0, 1, 2, 3, 9, 10, 11, 41]), (12, [0, 1, 2, 3, 9, 10, 11]), (11, [0, 1, 2, 3, 9, 10, 36]), (10, [0, 1, 2, 3, 9, 10]), (9, [0, 1, 2, 3, 9]), (8, [0, 1, 2, 3, 9]), (7, [0, 1, 2, 3]), (6, [0, 1, 2, 3]), (5, [0, 1, 2, 3, 20]), (4, [8]), (3, [0, 1, 2, 3, 15]), (2, [8]), (1, [0, 1, 2, 3, 13]), (0, [0, 1, 2, 3])]⟩), (86, ⟨[], [], [(3, [4]), (2, [4]), (1, [0, 1, 7]), (0, [0, 1])]⟩), (88, ⟨[], [], [(0, [])]⟩), (89, ⟨[], [], [(4, [4, 5]), (3, [8, 9]), (2, [4, 5]), (1, [6, 7]), (0, [0, 1])]⟩), (90, ⟨[], [], [(1, [2]), (0, [0])]⟩), (91, ⟨[(34, 160), (27, 139)], [7], [(35, [4]), (42, [4]), (41, [4]), (40, [5, 175, 181]), (39, [5, 6, 175]), (38, [175, 176, 177]), (37, [175]), (44, [4]), (33, [4]), (22, [4]), (21, [8, 9, 13, 108]), (20, [8, 9, 13]), (26, [0, 7, 8, 9, 14, 15]), (32, [4]), (30, [0, 7, 8, 9, 14, 15, 16]), (31, [0, 7, 8, 9, 14, 15, 16, 156]), (29, [0, 7, 8, 9, 14, 15, 16, 143]), (28, [0, 7, 8, 9, 14, 15, 16]), (27, [0, 7, 8, 9, 14, 15, 139]), (25, [0, 7, 8, 9, 14, 15, 124]), (24, [0, 7, 8, 9, 14, 15]), (23, [0, 7, 8, 9, 14]), (19, [4]), (18, [0, 7, 8, 9, 98]), (17, [0, 7, 8, 9, 10]), (16, [0, 7, 8, 9, 10]), (15, [4]), (13, [0, 7, 8, 9, 12]), (14, [0, 7, 8, 9, 12, 64]), (12, [0, 7, 8, 9, 12, 51]), (11, [0, 7, 8, 9, 12]), (10, [0, 7, 8, 9]), (9, [4]), (8, [0, 7, 8, 9, 11, 43]), (7, [0, 7, 8, 9, 11]), (6, [0, 7, 8, 9, 33]), (5, [0, 7, 8, 9, 26]), (4, [0, 7, 8, 9]), (3, [0, 7, 8, 9]), (2, [0, 7, 8]), (1, [0, 7]), (43, [0, 1, 183]), (36, [0, 1, 171]), (34, [0, 1, 160]), (0, [0, 1])]⟩), (92, ⟨[(1, 2)], [], [(1, [2]), (0, [0])]⟩), (93, ⟨[], [], [(8, [2, 3]), (3, [0, 2, 4]), (7, [0, 2, 4]), (6, [2, 3]), (5, [0, 2, 4, 5, 16]), (4, [0, 2, 4, 5]), (2, [0, 2, 4, 9]), (1, [0, 2, 4]), (0, [0, 2])]⟩), (94, ⟨[], [], [(1, [4]), (0, [0, 1])]⟩), (95, ⟨[(1, 10)], [], [(2, [2, 3]), (3, [2, 3]), (1, [0, 10]), (0, [0])]⟩), (96, ⟨[(1, 13), (12, 57)], [], [(20, [2]), (19, [2]), (18, [2]), (17, [0, 6, 7, 74]), (16, [0, 6, 7]), (15, [0, 6, 68]), (14, [0, 6]), (13, [2]), (12, [0, 3, 57]), (10, [0, 3, 4]), (11, [0, 3, 4]), (9, [0, 3, 4, 5, 40]), (8, [0, 3, 4, 5]), (7, [0, 3, 4, 26]), (6, [0, 3, 4]), (5, [0, 3]), (4, [2]), (3, [0, 17]), (2, [2]), (1, [0, 13]), (0, [0])]⟩), (97, ⟨[(10, 35)], [], [(12, [6, 7]), (11, [6, 7]), (10, [6, 7, 8, 35]), (3, [4, 5, 6, 7, 8, 9, 10, 11, 16, 17, 18, 19, 20, 21, 22, 23, 24, 25, 26, 27, 28, 29]), (2, [3, 4, 5, 6, 7, 8, 9, 10, 11, 17, 18, 19, 20, 21, 22, 23, 24, 25, 26, 27, 28, 29]), (1, [3, 4, 5, 6, 7, 10, 11, 17, 18, 19, 20, 21, 22, 23, 24, 25, 26, 27, 28, 29]), (0, [3, 4, 5, 6, 7, 10, 11, 17, 18, 19, 20, 21, 22, 23, 24, 25, 26, 27, 28, 29])]⟩), (98, ⟨[(1, 25), (7, 40)], [], [(11, [4, 5]), (10, [0, 6, 27, 28]), (9, [0, 6, 27, 28]), (8, [4, 5]), (7, [0, 6, 7, 27, 28, 40]), (6, [0, 6, 7, 27, 28]), (5, [0, 6, 27, 28, 29]), (4, [0, 6, 27, 28]), (3, [0, 6]), (2, [4, 5]), (1, [0, 25]), (0, [0, 1])]⟩), (99, ⟨[(9, 46)], [], [(14, [4, 5]), (13, [4, 5]), (12, [6, 51]), (6, [0, 1, 6, 7, 8]), (11, [0, 1, 6, 7, 8]), (10, [0, 1, 6, 7, 8]), (9, [0, 1, 6, 7, 8, 46]), (8, [4, 5]), (7, [0, 1, 6, 7, 8, 22]), (5, [0, 1, 6, 7, 8, 14]), (4, [0, 1, 6, 7, 8]), (3, [0, 1, 6, 7]), (2, [0, 1, 6]), (1, [0, 1]), (0, [0, 1])]⟩), (100, ⟨[], [], [(1, [0]), (0, [])]⟩), (101, ⟨[(1, 16)], [], [(3, [4]), (2, [4]), (1, [1, 2, 16]), (0, [1, 2])]⟩), (102, ⟨[], [], [(1, [2]), (0, [0])]⟩), (103, ⟨[(1, 6)], [], [(1, [6]), (0, [0, 1, 2])]⟩), (104, ⟨[], [], [(1, [2]), (0, [0])]⟩), (105, ⟨[], [], [(1, [0]), (0, [0])]⟩), (106, ⟨[], [], [(1, []), (2, [19]), (0, [0, 6])]⟩), (107, ⟨[], [], [(2, []), (1, [0, 4]), (0, [0, 4])]⟩), (108, ⟨[(7, 12)], [], [(13, [2]), (2, [2]), (4, [2]), (6, [2]), (8, [2]), (10, [2]), (12, [2]), (11, [22]), (9, [0, 19]), (7, [0, 12]), (5, [0, 9]), (3, [0, 6]), (1, [0, 3]), (0, [0])]⟩), (109, ⟨[], [], [(4, [4, 5]), (3, [0, 6]), (2, [0, 1, 6]), (1, [0, 1]), (0, [0, 1])]⟩), (110, ⟨[], [], [(1, [2]), (0, [0])]⟩), (111, ⟨[], [], [(2, [4]), (1, [1]), (0, [0, 1])]⟩), (112, ⟨[], [], [(1, [6]), (0, [0, 1, 2])]⟩), (113, ⟨[], [], [(16, [0, 1, 2, 6]), (15, [0, 1, 2, 6]), (14, [0, 1, 2, 6, 7, 9, 54]), (13, [0, 1, 2, 6, 7, 9]), (12, [0, 1, 2, 6, 7, 8]), (11, [0, 1, 2, 6, 7, 8]), (10, [0, 1, 2, 6, 8]), (9, [0, 1, 2, 6, 7, 8, 35]), (8, [0, 1, 2, 6, 7, 8]), (7, [0, 1, 2, 6, 30]), (6, [0, 1, 2, 6]), (5, [0, 1, 2, 6, 7, 8]), (4, [0, 1, 2, 6, 7, 8]), (3, [0, 1, 2, 6, 8]), (2, [0, 1, 2, 6, 7, 8, 13]), (1, [0, 1, 2, 6, 7, 8]), (0, [0, 1, 2, 6])]⟩), (114, ⟨[(1, 2)], [], [(1, [2]), (0, [0])]⟩), (117, ⟨[], [], [(1, [2]), (0, [0])]⟩), (118, ⟨[(8, 39), (16, 77)], [], [(18, [4]), (17, [4]), (16, [0, 1, 5, 6, 7, 8, 10, 77]), (15, [0, 1, 5, 6, 7, 8, 10]), (14, [0, 1, 5, 6, 7, 8, 10]), (13, [0, 1, 5, 6, 7, 8, 10]), (12, [0, 1, 5, 6, 7, 8, 10]), (11, [0, 1, 5, 6, 7, 8, 10, 44]), (10, [0, 1, 5, 6, 7, 8, 10]), (9, [4]), (8, [0, 1, 5, 6, 7, 8, 39]), (6, [0, 1, 5, 6, 7, 8, 9]), (7, [0, 1, 5, 6, 7, 8, 9]), (5, [0, 1, 5, 6, 7, 8, 9, 20]), (4, [0, 1, 5, 6, 7, 8, 9]), (3, [0, 1, 5, 6, 7, 8]), (2, [0, 1, 5, 6, 7]), (1, [0, 1, 5, 6]), (0, [0, 1])]⟩), (119, ⟨[(2, 18)], [3], [(13, [4]), (12, [6]), (11, [0, 1, 6, 43]), (7, [0, 1, 6, 7]), (10, [0, 1, 6, 7]), (9, [0, 1, 6, 7, 9]), (8, [0, 1, 6, 7, 9]), (6, [0, 1, 6, 7, 25]), (5, [0, 1, 6, 7]), (4, [0, 1, 6]), (3, [0, 1]), (2, [0, 1, 5, 18]), (1, [0, 1, 5]), (0, [0, 1])]⟩), (120, ⟨[], [], [(10, [0, 1, 5]), (9, [0, 1, 5, 6]), (8, [4]), (7, [0, 1, 5, 6, 24]), (6, [0, 1, 5, 6]), (5, [0, 1, 5]), (4, [4]), (3, [0, 1, 15]), (2, [4]), (1, [0, 1, 9]), (0, [0, 1])]⟩), (121, ⟨[], [], [(2, []), (1, [0]), (0, [0, 1])]⟩), (122, ⟨[], [], [(2, [4, 5]), (1, [6]), (0, [0, 1])]⟩), (123, ⟨[], [], [(11, [4, 5]), (10, [0, 1, 4]), (9, [0, 1, 7, 9, 12, 13]), (8, [0, 1, 6, 7, 9, 12, 13]), (7, [0, 1, 6, 7, 9, 11, 12]), (6, [0, 1, 6, 7, 9, 11]), (5, [0, 1, 6, 7, 8, 9, 10]), (4, [0, 1, 6, 7, 8, 9]), (3, [0, 1, 6, 7, 8]), (2, [0, 1, 6, 7]), (1, [0, 1, 6]), (0, [0, 1])]⟩), (124, ⟨[(1, 3), (3, 10)], [], [(5, [2]), (2, [2]), (4, [2]), (3, [10]), (1, [0, 3]), (0, [0])]⟩), (125, ⟨[(14, 57), (19, 75), (24, 98)], [], [(26, [2, 3]), (25, [2, 3]), (24, [5, 10, 11, 12, 98]), (23, [5, 10, 11, 12]), (22, [2, 3]), (21, [0, 5, 10, 11, 77]), (20, [2, 3]), (19, [0, 5, 8, 10, 11, 75]), (18, [0, 5, 8, 10, 11]), (17, [2, 3]), (16, [0, 5, 8, 10, 59]), (15, [2, 3]), (14, [0, 5, 8, 10, 57]), (13, [0, 5, 8, 9, 10]), (12, [2, 3]), (11, [0, 5, 8, 9, 45]), (10, [0, 4, 5, 8, 9]), (9, [0, 4, 5, 6, 8]), (8, [2, 3]), (7, [0, 7]), (6, [0, 4, 5, 6, 23]), (5, [0, 4, 5, 6]), (4, [0, 4, 5]), (3, [2, 3]), (2, [0, 4, 16]), (1, [0, 4]), (0, [0])]⟩), (126, ⟨[(6, 38)], [], [(11, [4]), (9, [0, 1, 5, 6]), (10, [0, 1, 5, 6]), (8, [0, 1, 5, 6, 7, 46]), (7, [4]), (6, [0, 1, 5, 6, 7, 8, 38]), (5, [0, 1, 5, 6, 7, 8]), (4, [0, 1, 5, 6, 7]), (3, [0, 1, 5, 6, 13]), (2, [0, 1, 5, 6]), (1, [0, 1, 5]), (0, [0, 1])]⟩), (127, ⟨[], [], [(4, [6]), (3, [6]), (2, [0, 1, 2, 7, 15]), (1, [0, 1, 2, 7]), (0, [0, 1, 2])]⟩), (128, ⟨[(5, 23)], [], [(8, [2]), (7, [3, 8, 9]), (6, [3, 8, 9]), (5, [3, 4, 8, 9, 23]), (4, [3, 4, 8, 9]), (3, [3, 8, 9, 10]), (2, [3, 8, 9]), (1, [3]), (0, [0])]⟩), (129, ⟨[], [], [(1, [4]), (0, [2, 3])]⟩), (130, ⟨[(6, 20)], [], [(9, [2]), (4, [0, 3, 4]), (8, [0, 3, 4]), (7, [0, 3, 4, 5]), (6, [0, 3, 4, 5, 20]), (5, [0, 3, 4, 5]), (3, [0, 3, 4, 9]), (2, [0, 3, 4]), (1, [0, 3]), (0, [0])]⟩), (131, ⟨[(2, 17)], [7], [(15, [4]), (14, [9]), (13, [4]), (12, [4]), (11, [5, 7]), (10, [5, 7, 34]), (9, [0, 5, 7]), (8, [0, 5, 6, 7]), (7, [0, 5, 6]), (6, [0, 5, 6, 23]), (5, [0, 5, 6]), (4, [0, 5]), (3, [4]), (2, [0, 17]), (1, [0, 1, 11]), (0, [0, 1])]⟩), (132, ⟨[], [], [(1, [6]), (0, [1, 3])]⟩), (133, ⟨[], [], [(1, [4]), (0, [1, 2])]⟩), (134, ⟨[], [], [(1, [6]), (0, [2, 3])]⟩), (135, ⟨[], [], [(1, [4]), (0, [0, 1])]⟩), (136, ⟨[], [], [(2, [6]), (1, [3, 7]), (0, [1, 3])]⟩), (137, ⟨[], [], [(2, [6]), (1, [3, 7]), (0, [1, 3])]⟩), (140, ⟨[], [], [(3, [4]), (2, [4]), (1, [0, 1, 7]), (0, [0, 1])]⟩), (141, ⟨[(1, 14)], [], [(6, [6, 7]), (5, [6, 7]), (4, [0, 1, 8, 19]), (3, [0, 1, 8]), (2, [6, 7]), (1, [0, 1, 2, 14]), (0, [0, 1, 2])]⟩), (142, ⟨[(1, 22), (6, 36)], [12], [(29, [8]), (28, [10]), (18, [0, 1, 2, 10, 11, 52, 53]), (17, [0, 1, 2, 10, 11, 52, 53]), (16, [0, 1, 2, 10, 12, 52, 53]), (15, [0, 1, 2, 10, 12, 52, 53]), (14, [0, 1, 2, 10, 11, 12, 52, 53]), (13, [0, 1, 2, 10, 11, 52, 53, 54]), (12, [0, 1, 2, 10, 11, 52, 53]), (27, [0, 2, 10, 11, 77, 78]), (26, [0, 2, 10, 11, 77, 78]), (25, [0, 2, 10, 15, 77, 78]), (24, [0, 2, 10, 15, 77, 78]), (23, [0, 2, 10, 11, 15, 77, 78]), (22, [0, 2, 10, 11, 14, 77, 78]), (21, [0, 2, 10, 11, 77, 78, 79]), (20, [0, 2, 10, 11, 77, 78]), (19, [0, 2, 3, 10, 11]), (11, [0, 1, 2, 3, 10, 11, 51]), (10, [0, 1, 2, 3, 10, 11]), (9, [0, 1, 2, 3, 10]), (8, [0, 1, 2, 3, 10]), (5, [8]), (7, [0, 1, 2, 3]), (6, [0, 1, 2, 3, 9, 36]), (4, [0, 1, 2, 3, 9, 28]), (3, [0, 1, 2, 3, 9]), (2, [8]), (1, [0, 1, 2, 3, 22]), (0, [0, 1, 2, 3])]⟩), (143, ⟨[], [], [(2, [0, 1, 2, 3, 8]), (5, [0, 1, 2, 3, 8, 9]), (6, [0, 1, 2, 3, 8, 9]), (4, [0, 1, 2, 3, 8, 9, 34]), (3, [0, 1, 2, 3, 8, 9]), (1, [0, 1, 2, 3, 8, 14]), (0, [0, 1, 2, 3, 8])]⟩), (144, ⟨[(39, 185), (41, 199), (43, 213)], [28, 40, 42], [(44, []), (43, [0, 3, 4, 18, 24, 213]), (42, [0, 3, 4, 18, 24]), (41, [0, 1, 3, 4, 18, 20, 24, 199]), (40, [0, 1, 3, 4, 18, 20, 24]), (39, [0, 1, 2, 3, 4, 18, 20, 24, 185]), (38, [0, 1, 2, 3, 4, 18, 20, 24]), (36, [0, 1, 2, 3, 4, 18, 19, 20, 21, 22]), (37, [0, 1, 2, 3, 4, 18, 19, 20, 21, 22]), (35, [0, 1, 2, 3, 4, 18, 19, 20, 21, 22, 23, 171]), (34, [0, 1, 2, 3, 4, 18, 19, 20, 21, 22, 23]), (33, [0, 1, 2, 3, 4, 18, 19, 20, 21, 22, 151]), (32, [0, 1, 2, 3, 4, 18, 19, 20, 21, 22]), (29, [0, 1, 2, 3, 4, 18, 19, 20, 21]), (28, [0, 1, 2, 3, 4, 18, 19, 20]), (31, [0, 1, 2, 3, 4, 18, 19, 20, 21]), (30, [0, 1, 2, 3, 4, 18, 19, 20]), (27, [0, 1, 2, 3, 4, 18, 19, 140]), (26, [0, 1, 2, 3, 4, 18, 19]), (25, [0, 1, 2, 3, 4, 18, 19]), (24, [0, 1, 2, 3, 4, 18]), (22, [0, 14, 17]), (23, [0, 14, 17]), (21, [0, 14, 17, 110]), (20, [0, 14, 17]), (18, [0, 2, 4, 14, 15]), (19, [0, 2, 4, 14, 15]), (17, [0, 2, 4, 14, 15, 16, 103]), (16, [0, 2, 4, 14, 15, 16]), (15, [0, 2, 4, 14, 15, 85]), (14, [0, 2, 4, 14, 15]), (13, [0, 2, 4, 14]), (12, [0, 1, 2, 3, 4, 80]), (10, [0, 10, 13]), (11, [0, 10, 13]), (9, [0, 10, 13, 58]), (8, [0, 10, 13]), (6, [0, 1, 4, 10, 11]), (7, [0, 1, 4, 10, 11]), (5, [0, 1, 4, 10, 11, 12, 50]), (4, [0, 1, 4, 10, 11, 12]), (3, [0, 1, 4, 10, 11, 33]), (2, [0, 1, 4, 10, 11]), (1, [0, 1, 3, 4, 10]), (0, [0, 1, 2, 3, 4, 28])]⟩), (145, ⟨[], [], [(13, [2, 3]), (9, [4, 6, 7, 8]), (12, [4, 6, 7, 8]), (11, [4, 6, 7, 8]), (10, [4, 6, 7, 8, 30]), (8, [4, 6, 7, 8, 25]), (7, [4, 6, 7, 8]), (6, [0, 4, 6, 7]), (4, [0, 4, 5]), (5, [0, 4, 5]), (3, [0, 4, 5, 12]), (2, [0, 4, 5]), (1, [0, 4]), (0, [0])]⟩), (146, ⟨[], [], [(4, [2]), (3, [2, 4]), (2, [2, 4, 6]), (1, [2, 4]), (0, [0, 2])]⟩), (148, ⟨[], [], [(4, [0, 2, 6, 7]), (3, [0, 2, 6, 7, 24]), (2, [0, 2, 4, 5, 6, 7]), (1, [0, 2, 6, 7, 8]), (0, [0, 2, 6, 7])]⟩), (149, ⟨[], [], [(3, [2]), (2, [2]), (1, [0, 4]), (0, [0])]⟩), (150, ⟨[], [], [(2, [2]), (1, [0, 3]), (0, [0])]⟩), (151, ⟨[], [14], [(26, []), (25, [0, 12, 161]), (24, [0, 4, 12]), (23, [0, 4, 12]), (22, [0, 4, 12, 16]), (21, [0, 4, 12, 16]), (20, [0, 4, 12, 139]), (19, [0, 4, 12]), (18, [0, 4, 12]), (17, [0, 4, 12, 14]), (16, [0, 4, 12, 14, 15]), (15, [0, 4, 12, 13]), (14, [0, 4, 12, 13]), (13, [0, 4, 12, 99]), (12, [0, 4, 12]), (11, [0, 1, 4]), (10, [0, 1, 4]), (9, [0, 1, 4, 10]), (8, [0, 1, 4, 10, 11]), (7, [0, 1, 4, 8, 10, 11]), (6, [0, 1, 4, 8, 9, 10, 11]), (5, [0, 1, 4, 6, 8, 9]), (4, [0, 1, 4, 6, 7]), (3, [0, 1, 4, 5]), (2, [0, 1, 4, 5]), (1, [0, 1, 4, 20]), (0, [0, 1, 4])]⟩), (152, ⟨[(1, 28)], [2, 6, 8], [(30, [10, 11]), (29, [10, 11]), (28, [0, 10, 11, 12, 13, 94]), (27, [0, 4, 10, 11, 12, 13]), (26, [0, 4, 10, 11, 12, 13]), (25, [0, 4, 10, 11, 12, 13, 89]), (16, [0, 3, 4, 10, 11, 12, 13]), (15, [0, 1, 3, 4, 10, 11, 12, 13]), (14, [0, 1, 3, 4, 10, 11, 12, 13, 14, 15, 16]), (13, [0, 1, 3, 4, 10, 11, 12, 13, 14, 15, 16]), (12, [0, 1, 3, 4, 10, 11, 12, 13, 14, 15, 16]), (11, [0, 1, 3, 4, 10, 11, 12, 13, 14, 15, 16, 46]), (10, [0, 1, 3, 4, 10, 11, 12, 13, 14, 15, 16]), (9, [0, 1, 2, 3, 4, 10, 11, 12, 13, 14, 15]), (8, [0, 1, 2, 3, 4, 10, 11, 12, 13, 14]), (24, [0, 3, 4, 10, 11, 12, 13]), (23, [0, 1, 3, 4, 10, 11, 12, 13]), (22, [0, 1, 3, 4, 10, 11, 12, 13, 17]), (21, [0, 3, 4, 10, 11, 12, 13, 17, 18]), (20, [0, 1, 3, 4, 10, 11, 12, 13, 17, 18]), (19, [0, 1, 3, 4, 10, 11, 12, 13, 17]), (18, [0, 1, 3, 4, 10, 11, 12, 13, 17, 68]), (17, [0, 1, 3, 4, 10, 11, 12, 13, 17]), (7, [0, 1, 2, 3, 4, 10, 11, 12, 13, 34]), (6, [0, 1, 2, 3, 4, 10, 11, 12, 13]), (5, [0, 1, 2, 3, 4, 10, 11, 12, 13, 30]), (4, [0, 1, 2, 3, 4, 10, 11, 12, 13]), (3, [0, 1, 2, 3, 4, 10, 11, 12]), (2, [0, 1, 2, 3, 4, 10, 11]), (1, [0, 1, 2, 3, 4, 10, 11, 28]), (0, [0, 1, 2, 3, 4, 10, 11])]⟩), (153, ⟨[], [], [(1, [2]), (0, [0])]⟩), (154, ⟨[(6, 25), (8, 50)], [6], [(4, [4]), (7, [4]), (9, [4]), (2, [4]), (8, [0, 1, 50]), (6, [0, 1, 5, 25]), (5, [0, 1, 5, 25]), (3, [0, 1, 5, 11]), (1, [0, 1, 5]), (0, [0, 1])]⟩), (155, ⟨[], [], [(8, []), (5, [0, 2, 4, 10, 11]), (4, [0, 2, 4, 10, 11]), (7, [0, 2, 4, 10, 11]), (6, [0, 2, 4, 10, 11]), (3, [0, 2, 4, 10, 11, 23]), (2, [0, 2, 4, 10, 11, 20]), (1, [0, 2, 4, 10, 11]), (0, [0, 2, 3, 4, 10])]⟩), (156, ⟨[], [], [(1, [2]), (0, [0])]⟩), (157, ⟨[], [2, 5], [(10, [2]), (9, [0, 2]), (8, [0, 2]), (7, [0, 2, 14]), (6, [0, 2]), (5, [0, 2]), (4, [0, 2, 8]), (3, [0, 2]), (2, [0]), (1, [0, 2, 4]), (0, [0, 2])]⟩), (158, ⟨[], [], [(3, [2]), (2, [2]), (1, [3]), (0, [0])]⟩), (159, ⟨[(1, 2)], [], [(1, [2]), (0, [0])]⟩), (160, ⟨[], [], [(2, [2]), (1, [2]), (0, [0])]⟩), (161, ⟨[], [], [(2, [0, 1, 2, 3, 10]), (3, [0, 1, 2, 3, 10]), (1, [0, 1, 2, 3, 10, 13]), (0, [0, 1, 2, 3, 10])]⟩), (162, ⟨[], [], [(3, [2]), (2, [2]), (1, [0, 4]), (0, [0])]⟩), (163, ⟨[], [], [(3, [2]), (2, [2]), (1, [0, 4]), (0, [0])]⟩)]
/-- The functions, each with the tests of its regions and the shapes of its loops. -/
noncomputable def xd (tms : List (Nat × List (Nat × Nat × Tm))) (f : Nat) : Option XDesc :=
  match Ax.look fnList f with
  | some (c, nt, rs) => some (c, nt, rs, ⟨(Ax.look jList f).getD noJ, (Ax.look tms f).getD []⟩)
  | none => none

theorem xd_ok (tms : List (Nat × List (Nat × Nat × Tm))) : DXOk P gl tau (xd tms) := by
  intro f c nt res cx h J args H n R ha hp
  unfold xd at h
  split at h
  · rename_i c' nt' rs' hf
    cases h
    exact fnD_ok f c nt res hf J args H n R ha hp
  · cases h
end Go.Proofs.YtdpednaafficmaaDoor
