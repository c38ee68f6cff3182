/-
  The types and the functions of this seat, for the small abstract machine.
-/
import Derived.Test.YtcohbcdhcmajiaaDoorAx27
import Derived.Test.YtcohbcdhcmajiaaDoorProg
import Derived.KernelRfl
namespace Go.Proofs.YtcohbcdhcmajiaaDoor
open Go.Ax
set_option linter.unusedVariables false
set_option maxRecDepth 100000

def tyList : List (Nat × TI) := [(1, ⟨.func, 1, 8, [.nilFunc], []⟩),
  (2, ⟨.int .i64, 1, 8, [.int .i64 (.lit 0)], []⟩),
  (3, ⟨.int .i64, 1, 8, [.int .i64 (.lit 0)], []⟩),
  (4, ⟨.bool, 1, 1, [.bool false], []⟩),
  (5, ⟨.int .u8, 1, 1, [.int .u8 (.lit 0)], []⟩),
  (6, ⟨.int .u8, 1, 1, [.int .u8 (.lit 0)], []⟩),
  (7, ⟨.struct [(0, 2), (1, 3), (2, 4), (3, 6)], 4, 24, [.int .i64 (.lit 0), .int .i64 (.lit 0), .bool false, .int .u8 (.lit 0)], []⟩),
  (8, ⟨.struct [(0, 2), (1, 3), (2, 4), (3, 6)], 4, 24, [.int .i64 (.lit 0), .int .i64 (.lit 0), .bool false, .int .u8 (.lit 0)], []⟩),
  (9, ⟨.string, 1, 16, [.str (.lit [])], []⟩),
  (10, ⟨.string, 1, 16, [.str (.lit [])], []⟩),
  (11, ⟨.string, 1, 16, [.str (.lit [])], []⟩),
  (12, ⟨.int .u64, 1, 8, [.int .u64 (.lit 0)], []⟩),
  (13, ⟨.struct [(0, 9), (1, 12)], 2, 24, [.str (.lit []), .int .u64 (.lit 0)], []⟩),
  (14, ⟨.struct [(0, 9), (1, 12)], 2, 24, [.str (.lit []), .int .u64 (.lit 0)], []⟩),
  (15, ⟨.ptr 201, 1, 8, [.nilptr], []⟩),
  (16, ⟨.ptr 204, 1, 8, [.nilptr], []⟩),
  (17, ⟨.ptr 212, 1, 8, [.nilptr], []⟩),
  (18, ⟨.struct [(0, 17)], 1, 8, [.nilptr], []⟩),
  (19, ⟨.struct [(0, 17)], 1, 8, [.nilptr], []⟩),
  (20, ⟨.iface, 1, 16, [.nilIface], []⟩),
  (21, ⟨.int .i32, 1, 4, [.int .i32 (.lit 0)], []⟩),
  (22, ⟨.struct [(0, 2), (1, 9)], 2, 24, [.int .i64 (.lit 0), .str (.lit [])], []⟩),
  (23, ⟨.struct [(0, 2), (1, 9)], 2, 24, [.int .i64 (.lit 0), .str (.lit [])], [.int .i64, .string]⟩),
  (24, ⟨.func, 1, 8, [.nilFunc], []⟩),
  (26, ⟨.func, 1, 8, [.nilFunc], []⟩),
  (27, ⟨.int .i64, 1, 8, [.int .i64 (.lit 0)], []⟩),
  (29, ⟨.func, 1, 8, [.nilFunc], []⟩),
  (30, ⟨.func, 1, 8, [.nilFunc], []⟩),
  (31, ⟨.func, 1, 8, [.nilFunc], []⟩),
  (32, ⟨.struct [(0, 3), (1, 3), (2, 3)], 3, 24, [.int .i64 (.lit 0), .int .i64 (.lit 0), .int .i64 (.lit 0)], []⟩),
  (33, ⟨.struct [(0, 3), (1, 3), (2, 3)], 3, 24, [.int .i64 (.lit 0), .int .i64 (.lit 0), .int .i64 (.lit 0)], [.int .i64, .int .i64, .int .i64]⟩),
  (34, ⟨.struct [(0, 2), (1, 3)], 2, 16, [.int .i64 (.lit 0), .int .i64 (.lit 0)], []⟩),
  (35, ⟨.struct [(0, 2), (1, 3)], 2, 16, [.int .i64 (.lit 0), .int .i64 (.lit 0)], [.int .i64, .int .i64]⟩),
  (36, ⟨.struct [(0, 4), (1, 3), (2, 3), (3, 33), (6, 35)], 8, 64, [.bool false, .int .i64 (.lit 0), .int .i64 (.lit 0), .int .i64 (.lit 0), .int .i64 (.lit 0), .int .i64 (.lit 0), .int .i64 (.lit 0), .int .i64 (.lit 0)], []⟩),
  (37, ⟨.struct [(0, 4), (1, 3), (2, 3), (3, 33), (6, 35)], 8, 64, [.bool false, .int .i64 (.lit 0), .int .i64 (.lit 0), .int .i64 (.lit 0), .int .i64 (.lit 0), .int .i64 (.lit 0), .int .i64 (.lit 0), .int .i64 (.lit 0)], [.bool, .int .i64, .int .i64, .int .i64, .int .i64, .int .i64, .int .i64, .int .i64]⟩),
  (38, ⟨.struct [(0, 2), (1, 3), (2, 2), (3, 9), (4, 9), (5, 37)], 13, 120, [.int .i64 (.lit 0), .int .i64 (.lit 0), .int .i64 (.lit 0), .str (.lit []), .str (.lit []), .bool false, .int .i64 (.lit 0), .int .i64 (.lit 0), .int .i64 (.lit 0), .int .i64 (.lit 0), .int .i64 (.lit 0), .int .i64 (.lit 0), .int .i64 (.lit 0)], []⟩),
  (39, ⟨.struct [(0, 2), (1, 3), (2, 2), (3, 9), (4, 9), (5, 37)], 13, 120, [.int .i64 (.lit 0), .int .i64 (.lit 0), .int .i64 (.lit 0), .str (.lit []), .str (.lit []), .bool false, .int .i64 (.lit 0), .int .i64 (.lit 0), .int .i64 (.lit 0), .int .i64 (.lit 0), .int .i64 (.lit 0), .int .i64 (.lit 0), .int .i64 (.lit 0)], [.int .i64, .int .i64, .int .i64, .string, .string, .bool, .int .i64, .int .i64, .int .i64, .int .i64, .int .i64, .int .i64, .int .i64]⟩),
  (40, ⟨.slice 43, 1, 24, [.nil], []⟩),
  (41, ⟨.func, 1, 8, [.nilFunc], []⟩),
  (42, ⟨.struct [(0, 9), (1, 3), (2, 3), (3, 3), (4, 33), (7, 35), (9, 2), (10, 9)], 11, 104, [.str (.lit []), .int .i64 (.lit 0), .int .i64 (.lit 0), .int .i64 (.lit 0), .int .i64 (.lit 0), .int .i64 (.lit 0), .int .i64 (.lit 0), .int .i64 (.lit 0), .int .i64 (.lit 0), .int .i64 (.lit 0), .str (.lit [])], []⟩),
  (43, ⟨.struct [(0, 9), (1, 3), (2, 3), (3, 3), (4, 33), (7, 35), (9, 2), (10, 9)], 11, 104, [.str (.lit []), .int .i64 (.lit 0), .int .i64 (.lit 0), .int .i64 (.lit 0), .int .i64 (.lit 0), .int .i64 (.lit 0), .int .i64 (.lit 0), .int .i64 (.lit 0), .int .i64 (.lit 0), .int .i64 (.lit 0), .str (.lit [])], [.string, .int .i64, .int .i64, .int .i64, .int .i64, .int .i64, .int .i64, .int .i64, .int .i64, .int .i64, .string]⟩),
  (44, ⟨.func, 1, 8, [.nilFunc], []⟩),
  (45, ⟨.func, 1, 8, [.nilFunc], []⟩),
  (46, ⟨.func, 1, 8, [.nilFunc], []⟩),
  (47, ⟨.func, 1, 8, [.nilFunc], []⟩),
  (48, ⟨.func, 1, 8, [.nilFunc], []⟩),
  (49, ⟨.slice 5, 1, 24, [.nil], []⟩),
  (50, ⟨.slice 5, 1, 24, [.nil], []⟩),
  (51, ⟨.func, 1, 8, [.nilFunc], []⟩),
  (52, ⟨.func, 1, 8, [.nilFunc], []⟩),
  (54, ⟨.func, 1, 8, [.nilFunc], []⟩),
  (55, ⟨.func, 1, 8, [.nilFunc], []⟩),
  (56, ⟨.func, 1, 8, [.nilFunc], []⟩),
  (57, ⟨.func, 1, 8, [.nilFunc], []⟩),
  (58, ⟨.func, 1, 8, [.nilFunc], []⟩),
  (59, ⟨.func, 1, 8, [.nilFunc], []⟩),
  (60, ⟨.slice 9, 1, 24, [.nil], []⟩),
  (61, ⟨.func, 1, 8, [.nilFunc], []⟩),
  (62, ⟨.slice 2, 1, 24, [.nil], []⟩),
  (63, ⟨.func, 1, 8, [.nilFunc], []⟩),
  (64, ⟨.func, 1, 8, [.nilFunc], []⟩),
  (65, ⟨.func, 1, 8, [.nilFunc], []⟩),
  (66, ⟨.func, 1, 8, [.nilFunc], []⟩),
  (67, ⟨.int .u16, 1, 2, [.int .u16 (.lit 0)], []⟩),
  (68, ⟨.struct [(0, 5), (1, 5), (2, 5)], 3, 3, [.int .u8 (.lit 0), .int .u8 (.lit 0), .int .u8 (.lit 0)], []⟩),
  (69, ⟨.struct [(0, 5), (1, 5), (2, 5)], 3, 3, [.int .u8 (.lit 0), .int .u8 (.lit 0), .int .u8 (.lit 0)], [.int .u8, .int .u8, .int .u8]⟩),
  (70, ⟨.struct [(0, 67), (1, 5), (2, 5), (3, 69), (6, 21)], 7, 12, [.int .u16 (.lit 0), .int .u8 (.lit 0), .int .u8 (.lit 0), .int .u8 (.lit 0), .int .u8 (.lit 0), .int .u8 (.lit 0), .int .i32 (.lit 0)], []⟩),
  (71, ⟨.struct [(0, 67), (1, 5), (2, 5), (3, 69), (6, 21)], 7, 12, [.int .u16 (.lit 0), .int .u8 (.lit 0), .int .u8 (.lit 0), .int .u8 (.lit 0), .int .u8 (.lit 0), .int .u8 (.lit 0), .int .i32 (.lit 0)], [.int .u16, .int .u8, .int .u8, .int .u8, .int .u8, .int .u8, .int .i32]⟩),
  (72, ⟨.func, 1, 8, [.nilFunc], []⟩),
  (73, ⟨.func, 1, 8, [.nilFunc], []⟩),
  (74, ⟨.func, 1, 8, [.nilFunc], []⟩),
  (75, ⟨.func, 1, 8, [.nilFunc], []⟩),
  (76, ⟨.func, 1, 8, [.nilFunc], []⟩),
  (77, ⟨.func, 1, 8, [.nilFunc], []⟩),
  (78, ⟨.int .u32, 1, 4, [.int .u32 (.lit 0)], []⟩),
  (79, ⟨.func, 1, 8, [.nilFunc], []⟩),
  (80, ⟨.slice 3, 1, 24, [.nil], []⟩),
  (81, ⟨.slice 39, 1, 24, [.nil], []⟩),
  (82, ⟨.func, 1, 8, [.nilFunc], []⟩),
  (83, ⟨.struct [(0, 9), (1, 3)], 2, 24, [.str (.lit []), .int .i64 (.lit 0)], []⟩),
  (84, ⟨.slice 83, 1, 24, [.nil], []⟩),
  (85, ⟨.struct [(0, 9), (1, 2), (2, 23), (4, 9), (5, 27)], 6, 72, [.str (.lit []), .int .i64 (.lit 0), .int .i64 (.lit 0), .str (.lit []), .str (.lit []), .int .i64 (.lit 0)], []⟩),
  (86, ⟨.slice 85, 1, 24, [.nil], []⟩),
  (87, ⟨.func, 1, 8, [.nilFunc], []⟩),
  (89, ⟨.func, 1, 8, [.nilFunc], []⟩),
  (90, ⟨.func, 1, 8, [.nilFunc], []⟩),
  (91, ⟨.func, 1, 8, [.nilFunc], []⟩),
  (92, ⟨.func, 1, 8, [.nilFunc], []⟩),
  (93, ⟨.func, 1, 8, [.nilFunc], []⟩),
  (94, ⟨.func, 1, 8, [.nilFunc], []⟩),
  (95, ⟨.func, 1, 8, [.nilFunc], []⟩),
  (96, ⟨.func, 1, 8, [.nilFunc], []⟩),
  (97, ⟨.ptr 99, 1, 8, [.nilptr], []⟩),
  (98, ⟨.struct [(0, 97), (1, 49)], 2, 32, [.nilptr, .nil], []⟩),
  (99, ⟨.struct [(0, 97), (1, 49)], 2, 32, [.nilptr, .nil], []⟩),
  (100, ⟨.func, 1, 8, [.nilFunc], []⟩),
  (101, ⟨.iface, 1, 16, [.nilIface], []⟩),
  (102, ⟨.iface, 1, 16, [.nilIface], []⟩),
  (104, ⟨.func, 1, 8, [.nilFunc], []⟩),
  (106, ⟨.func, 1, 8, [.nilFunc], []⟩),
  (107, ⟨.func, 1, 8, [.nilFunc], []⟩),
  (108, ⟨.func, 1, 8, [.nilFunc], []⟩),
  (109, ⟨.func, 1, 8, [.nilFunc], []⟩),
  (110, ⟨.func, 1, 8, [.nilFunc], []⟩),
  (111, ⟨.func, 1, 8, [.nilFunc], []⟩),
  (112, ⟨.func, 1, 8, [.nilFunc], []⟩),
  (113, ⟨.func, 1, 8, [.nilFunc], []⟩),
  (114, ⟨.func, 1, 8, [.nilFunc], []⟩),
  (115, ⟨.func, 1, 8, [.nilFunc], []⟩),
  (116, ⟨.func, 1, 8, [.nilFunc], []⟩),
  (117, ⟨.func, 1, 8, [.nilFunc], []⟩),
  (118, ⟨.func, 1, 8, [.nilFunc], []⟩),
  (119, ⟨.func, 1, 8, [.nilFunc], []⟩),
  (120, ⟨.struct [(0, 2), (1, 3), (2, 2)], 3, 24, [.int .i64 (.lit 0), .int .i64 (.lit 0), .int .i64 (.lit 0)], []⟩),
  (121, ⟨.struct [(0, 2), (1, 3), (2, 2)], 3, 24, [.int .i64 (.lit 0), .int .i64 (.lit 0), .int .i64 (.lit 0)], [.int .i64, .int .i64, .int .i64]⟩),
  (123, ⟨.func, 1, 8, [.nilFunc], []⟩),
  (124, ⟨.func, 1, 8, [.nilFunc], []⟩),
  (125, ⟨.func, 1, 8, [.nilFunc], []⟩),
  (126, ⟨.func, 1, 8, [.nilFunc], []⟩),
  (127, ⟨.array 3 2, 3, 24, [.int .i64 (.lit 0), .int .i64 (.lit 0), .int .i64 (.lit 0)], []⟩),
  (128, ⟨.func, 1, 8, [.nilFunc], []⟩),
  (129, ⟨.func, 1, 8, [.nilFunc], []⟩),
  (130, ⟨.slice 33, 1, 24, [.nil], []⟩),
  (131, ⟨.func, 1, 8, [.nilFunc], []⟩),
  (132, ⟨.func, 1, 8, [.nilFunc], []⟩),
  (133, ⟨.func, 1, 8, [.nilFunc], []⟩),
  (134, ⟨.func, 1, 8, [.nilFunc], []⟩),
  (135, ⟨.ptr 5, 1, 8, [.nilptr], []⟩),
  (136, ⟨.func, 1, 8, [.nilFunc], []⟩),
  (137, ⟨.func, 1, 8, [.nilFunc], []⟩),
  (138, ⟨.func, 1, 8, [.nilFunc], []⟩),
  (139, ⟨.func, 1, 8, [.nilFunc], []⟩),
  (140, ⟨.func, 1, 8, [.nilFunc], []⟩),
  (141, ⟨.func, 1, 8, [.nilFunc], []⟩),
  (142, ⟨.func, 1, 8, [.nilFunc], []⟩),
  (143, ⟨.func, 1, 8, [.nilFunc], []⟩),
  (144, ⟨.struct [], 0, 0, [], []⟩),
  (145, ⟨.struct [], 0, 0, [], []⟩),
  (146, ⟨.func, 1, 8, [.nilFunc], []⟩),
  (147, ⟨.func, 1, 8, [.nilFunc], []⟩),
  (148, ⟨.func, 1, 8, [.nilFunc], []⟩),
  (149, ⟨.func, 1, 8, [.nilFunc], []⟩),
  (150, ⟨.func, 1, 8, [.nilFunc], []⟩),
  (151, ⟨.array 128 5, 128, 128, [.int .u8 (.lit 0), .int .u8 (.lit 0), .int .u8 (.lit 0), .int .u8 (.lit 0), .int .u8 (.lit 0), .int .u8 (.lit 0), .int .u8 (.lit 0), .int .u8 (.lit 0), .int .u8 (.lit 0), .int .u8 (.lit 0), .int .u8 (.lit 0), .int .u8 (.lit 0), .int .u8 (.lit 0), .int .u8 (.lit 0), .int .u8 (.lit 0), .int .u8 (.lit 0), .int .u8 (.lit 0), .int .u8 (.lit 0), .int .u8 (.lit 0), .int .u8 (.lit 0), .int .u8 (.lit 0), .int .u8 (.lit 0), .int .u8 (.lit 0), .int .u8 (.lit 0), .int .u8 (.lit 0), .int .u8 (.lit 0), .int .u8 (.lit 0), .int .u8 (.lit 0), .int .u8 (.lit 0), .int .u8 (.lit 0), .int .u8 (.lit 0), .int .u8 (.lit 0), .int .u8 (.lit 0), .int .u8 (.lit 0), .int .u8 (.lit 0), .int .u8 (.lit 0), .int .u8 (.lit 0), .int .u8 (.lit 0), .int .u8 (.lit 0), .int .u8 (.lit 0), .int .u8 (.lit 0), .int .u8 (.lit 0), .int .u8 (.lit 0), .int .u8 (.lit 0), .int .u8 (.lit 0), .int .u8 (.lit 0), .int .u8 (.lit 0), .int .u8 (.lit 0), .int .u8 (.lit 0), .int .u8 (.lit 0), .int .u8 (.lit 0), .int .u8 (.lit 0), .int .u8 (.lit 0), .int .u8 (.lit 0), .int .u8 (.lit 0), .int .u8 (.lit 0), .int .u8 (.lit 0), .int .u8 (.lit 0), .int .u8 (.lit 0), .int .u8 (.lit 0), .int .u8 (.lit 0), .int .u8 (.lit 0), .int .u8 (.lit 0), .int .u8 (.lit 0), .int .u8 (.lit 0), .int .u8 (.lit 0), .int .u8 (.lit 0), .int .u8 (.lit 0), .int .u8 (.lit 0), .int .u8 (.lit 0), .int .u8 (.lit 0), .int .u8 (.lit 0), .int .u8 (.lit 0), .int .u8 (.lit 0), .int .u8 (.lit 0), .int .u8 (.lit 0), .int .u8 (.lit 0), .int .u8 (.lit 0), .int .u8 (.lit 0), .int .u8 (.lit 0), .int .u8 (.lit 0), .int .u8 (.lit 0), .int .u8 (.lit 0), .int .u8 (.lit 0), .int .u8 (.lit 0), .int .u8 (.lit 0), .int .u8 (.lit 0), .int .u8 (.lit 0), .int .u8 (.lit 0), .int .u8 (.lit 0), .int .u8 (.lit 0), .int .u8 (.lit 0), .int .u8 (.lit 0), .int .u8 (.lit 0), .int .u8 (.lit 0), .int .u8 (.lit 0), .int .u8 (.lit 0), .int .u8 (.lit 0), .int .u8 (.lit 0), .int .u8 (.lit 0), .int .u8 (.lit 0), .int .u8 (.lit 0), .int .u8 (.lit 0), .int .u8 (.lit 0), .int .u8 (.lit 0), .int .u8 (.lit 0), .int .u8 (.lit 0), .int .u8 (.lit 0), .int .u8 (.lit 0), .int .u8 (.lit 0), .int .u8 (.lit 0), .int .u8 (.lit 0), .int .u8 (.lit 0), .int .u8 (.lit 0), .int .u8 (.lit 0), .int .u8 (.lit 0), .int .u8 (.lit 0), .int .u8 (.lit 0), .int .u8 (.lit 0), .int .u8 (.lit 0), .int .u8 (.lit 0), .int .u8 (.lit 0), .int .u8 (.lit 0), .int .u8 (.lit 0), .int .u8 (.lit 0), .int .u8 (.lit 0), .int .u8 (.lit 0), .int .u8 (.lit 0)], []⟩),
  (153, ⟨.func, 1, 8, [.nilFunc], []⟩),
  (154, ⟨.func, 1, 8, [.nilFunc], []⟩),
  (155, ⟨.func, 1, 8, [.nilFunc], []⟩),
  (156, ⟨.int .u64, 1, 8, [.int .u64 (.lit 0)], []⟩),
  (157, ⟨.array 256 5, 256, 256, [.int .u8 (.lit 0), .int .u8 (.lit 0), .int .u8 (.lit 0), .int .u8 (.lit 0), .int .u8 (.lit 0), .int .u8 (.lit 0), .int .u8 (.lit 0), .int .u8 (.lit 0), .int .u8 (.lit 0), .int .u8 (.lit 0), .int .u8 (.lit 0), .int .u8 (.lit 0), .int .u8 (.lit 0), .int .u8 (.lit 0), .int .u8 (.lit 0), .int .u8 (.lit 0), .int .u8 (.lit 0), .int .u8 (.lit 0), .int .u8 (.lit 0), .int .u8 (.lit 0), .int .u8 (.lit 0), .int .u8 (.lit 0), .int .u8 (.lit 0), .int .u8 (.lit 0), .int .u8 (.lit 0), .int .u8 (.lit 0), .int .u8 (.lit 0), .int .u8 (.lit 0), .int .u8 (.lit 0), .int .u8 (.lit 0), .int .u8 (.lit 0), .int .u8 (.lit 0), .int .u8 (.lit 0), .int .u8 (.lit 0), .int .u8 (.lit 0), .int .u8 (.lit 0), .int .u8 (.lit 0), .int .u8 (.lit 0), .int .u8 (.lit 0), .int .u8 (.lit 0), .int .u8 (.lit 0), .int .u8 (.lit 0), .int .u8 (.lit 0), .int .u8 (.lit 0), .int .u8 (.lit 0), .int .u8 (.lit 0), .int .u8 (.lit 0), .int .u8 (.lit 0), .int .u8 (.lit 0), .int .u8 (.lit 0), .int .u8 (.lit 0), .int .u8 (.lit 0), .int .u8 (.lit 0), .int .u8 (.lit 0), .int .u8 (.lit 0), .int .u8 (.lit 0), .int .u8 (.lit 0), .int .u8 (.lit 0), .int .u8 (.lit 0), .int .u8 (.lit 0), .int .u8 (.lit 0), .int .u8 (.lit 0), .int .u8 (.lit 0), .int .u8 (.lit 0), .int .u8 (.lit 0), .int .u8 (.lit 0), .int .u8 (.lit 0), .int .u8 (.lit 0), .int .u8 (.lit 0), .int .u8 (.lit 0), .int .u8 (.lit 0), .int .u8 (.lit 0), .int .u8 (.lit 0), .int .u8 (.lit 0), .int .u8 (.lit 0), .int .u8 (.lit 0), .int .u8 (.lit 0), .int .u8 (.lit 0), .int .u8 (.lit 0), .int .u8 (.lit 0), .int .u8 (.lit 0), .int .u8 (.lit 0), .int .u8 (.lit 0), .int .u8 (.lit 0), .int .u8 (.lit 0), .int .u8 (.lit 0), .int .u8 (.lit 0), .int .u8 (.lit 0), .int .u8 (.lit 0), .int .u8 (.lit 0), .int .u8 (.lit 0), .int .u8 (.lit 0), .int .u8 (.lit 0), .int .u8 (.lit 0), .int .u8 (.lit 0), .int .u8 (.lit 0), .int .u8 (.lit 0), .int .u8 (.lit 0), .int .u8 (.lit 0), .int .u8 (.lit 0), .int .u8 (.lit 0), .int .u8 (.lit 0), .int .u8 (.lit 0), .int .u8 (.lit 0), .int .u8 (.lit 0), .int .u8 (.lit 0), .int .u8 (.lit 0), .int .u8 (.lit 0), .int .u8 (.lit 0), .int .u8 (.lit 0), .int .u8 (.lit 0), .int .u8 (.lit 0), .int .u8 (.lit 0), .int .u8 (.lit 0), .int .u8 (.lit 0), .int .u8 (.lit 0), .int .u8 (.lit 0), .int .u8 (.lit 0), .int .u8 (.lit 0), .int .u8 (.lit 0), .int .u8 (.lit 0), .int .u8 (.lit 0), .int .u8 (.lit 0), .int .u8 (.lit 0), .int .u8 (.lit 0), .int .u8 (.lit 0), .int .u8 (.lit 0), .int .u8 (.lit 0), .int .u8 (.lit 0), .int .u8 (.lit 0), .int .u8 (.lit 0), .int .u8 (.lit 0), .int .u8 (.lit 0), .int .u8 (.lit 0), .int .u8 (.lit 0), .int .u8 (.lit 0), .int .u8 (.lit 0), .int .u8 (.lit 0), .int .u8 (.lit 0), .int .u8 (.lit 0), .int .u8 (.lit 0), .int .u8 (.lit 0), .int .u8 (.lit 0), .int .u8 (.lit 0), .int .u8 (.lit 0), .int .u8 (.lit 0), .int .u8 (.lit 0), .int .u8 (.lit 0), .int .u8 (.lit 0), .int .u8 (.lit 0), .int .u8 (.lit 0), .int .u8 (.lit 0), .int .u8 (.lit 0), .int .u8 (.lit 0), .int .u8 (.lit 0), .int .u8 (.lit 0), .int .u8 (.lit 0), .int .u8 (.lit 0), .int .u8 (.lit 0), .int .u8 (.lit 0), .int .u8 (.lit 0), .int .u8 (.lit 0), .int .u8 (.lit 0), .int .u8 (.lit 0), .int .u8 (.lit 0), .int .u8 (.lit 0), .int .u8 (.lit 0), .int .u8 (.lit 0), .int .u8 (.lit 0), .int .u8 (.lit 0), .int .u8 (.lit 0), .int .u8 (.lit 0), .int .u8 (.lit 0), .int .u8 (.lit 0), .int .u8 (.lit 0), .int .u8 (.lit 0), .int .u8 (.lit 0), .int .u8 (.lit 0), .int .u8 (.lit 0), .int .u8 (.lit 0), .int .u8 (.lit 0), .int .u8 (.lit 0), .int .u8 (.lit 0), .int .u8 (.lit 0), .int .u8 (.lit 0), .int .u8 (.lit 0), .int .u8 (.lit 0), .int .u8 (.lit 0), .int .u8 (.lit 0), .int .u8 (.lit 0), .int .u8 (.lit 0), .int .u8 (.lit 0), .int .u8 (.lit 0), .int .u8 (.lit 0), .int .u8 (.lit 0), .int .u8 (.lit 0), .int .u8 (.lit 0), .int .u8 (.lit 0), .int .u8 (.lit 0), .int .u8 (.lit 0), .int .u8 (.lit 0), .int .u8 (.lit 0), .int .u8 (.lit 0), .int .u8 (.lit 0), .int .u8 (.lit 0), .int .u8 (.lit 0), .int .u8 (.lit 0), .int .u8 (.lit 0), .int .u8 (.lit 0), .int .u8 (.lit 0), .int .u8 (.lit 0), .int .u8 (.lit 0), .int .u8 (.lit 0), .int .u8 (.lit 0), .int .u8 (.lit 0), .int .u8 (.lit 0), .int .u8 (.lit 0), .int .u8 (.lit 0), .int .u8 (.lit 0), .int .u8 (.lit 0), .int .u8 (.lit 0), .int .u8 (.lit 0), .int .u8 (.lit 0), .int .u8 (.lit 0), .int .u8 (.lit 0), .int .u8 (.lit 0), .int .u8 (.lit 0), .int .u8 (.lit 0), .int .u8 (.lit 0), .int .u8 (.lit 0), .int .u8 (.lit 0), .int .u8 (.lit 0), .int .u8 (.lit 0), .int .u8 (.lit 0), .int .u8 (.lit 0), .int .u8 (.lit 0), .int .u8 (.lit 0), .int .u8 (.lit 0), .int .u8 (.lit 0), .int .u8 (.lit 0), .int .u8 (.lit 0), .int .u8 (.lit 0), .int .u8 (.lit 0), .int .u8 (.lit 0), .int .u8 (.lit 0), .int .u8 (.lit 0), .int .u8 (.lit 0), .int .u8 (.lit 0), .int .u8 (.lit 0), .int .u8 (.lit 0), .int .u8 (.lit 0), .int .u8 (.lit 0), .int .u8 (.lit 0), .int .u8 (.lit 0), .int .u8 (.lit 0), .int .u8 (.lit 0)], []⟩),
  (158, ⟨.struct [(0, 5), (1, 5)], 2, 2, [.int .u8 (.lit 0), .int .u8 (.lit 0)], []⟩),
  (159, ⟨.struct [(0, 5), (1, 5)], 2, 2, [.int .u8 (.lit 0), .int .u8 (.lit 0)], []⟩),
  (160, ⟨.array 16 159, 32, 32, [.int .u8 (.lit 0), .int .u8 (.lit 0), .int .u8 (.lit 0), .int .u8 (.lit 0), .int .u8 (.lit 0), .int .u8 (.lit 0), .int .u8 (.lit 0), .int .u8 (.lit 0), .int .u8 (.lit 0), .int .u8 (.lit 0), .int .u8 (.lit 0), .int .u8 (.lit 0), .int .u8 (.lit 0), .int .u8 (.lit 0), .int .u8 (.lit 0), .int .u8 (.lit 0), .int .u8 (.lit 0), .int .u8 (.lit 0), .int .u8 (.lit 0), .int .u8 (.lit 0), .int .u8 (.lit 0), .int .u8 (.lit 0), .int .u8 (.lit 0), .int .u8 (.lit 0), .int .u8 (.lit 0), .int .u8 (.lit 0), .int .u8 (.lit 0), .int .u8 (.lit 0), .int .u8 (.lit 0), .int .u8 (.lit 0), .int .u8 (.lit 0), .int .u8 (.lit 0)], []⟩),
  (161, ⟨.func, 1, 8, [.nilFunc], []⟩),
  (162, ⟨.struct [(0, 4), (1, 4), (2, 161)], 3, 16, [.bool false, .bool false, .nilFunc], []⟩),
  (163, ⟨.struct [(0, 4), (1, 4), (2, 161)], 3, 16, [.bool false, .bool false, .nilFunc], []⟩),
  (165, ⟨.func, 1, 8, [.nilFunc], []⟩),
  (166, ⟨.func, 1, 8, [.nilFunc], []⟩),
  (168, ⟨.func, 1, 8, [.nilFunc], []⟩),
  (169, ⟨.func, 1, 8, [.nilFunc], []⟩),
  (170, ⟨.func, 1, 8, [.nilFunc], []⟩),
  (171, ⟨.func, 1, 8, [.nilFunc], []⟩),
  (172, ⟨.func, 1, 8, [.nilFunc], []⟩),
  (173, ⟨.func, 1, 8, [.nilFunc], []⟩),
  (174, ⟨.ptr 43, 1, 8, [.nilptr], []⟩),
  (175, ⟨.func, 1, 8, [.nilFunc], []⟩),
  (176, ⟨.func, 1, 8, [.nilFunc], []⟩),
  (177, ⟨.func, 1, 8, [.nilFunc], []⟩),
  (178, ⟨.func, 1, 8, [.nilFunc], []⟩),
  (179, ⟨.func, 1, 8, [.nilFunc], []⟩),
  (180, ⟨.func, 1, 8, [.nilFunc], []⟩),
  (182, ⟨.func, 1, 8, [.nilFunc], []⟩),
  (183, ⟨.func, 1, 8, [.nilFunc], []⟩),
  (184, ⟨.array 13 3, 13, 104, [.int .i64 (.lit 0), .int .i64 (.lit 0), .int .i64 (.lit 0), .int .i64 (.lit 0), .int .i64 (.lit 0), .int .i64 (.lit 0), .int .i64 (.lit 0), .int .i64 (.lit 0), .int .i64 (.lit 0), .int .i64 (.lit 0), .int .i64 (.lit 0), .int .i64 (.lit 0), .int .i64 (.lit 0)], []⟩),
  (185, ⟨.array 5 163, 15, 80, [.bool false, .bool false, .nilFunc, .bool false, .bool false, .nilFunc, .bool false, .bool false, .nilFunc, .bool false, .bool false, .nilFunc, .bool false, .bool false, .nilFunc], []⟩),
  (186, ⟨.func, 1, 8, [.nilFunc], []⟩),
  (187, ⟨.func, 1, 8, [.nilFunc], []⟩),
  (188, ⟨.func, 1, 8, [.nilFunc], []⟩),
  (190, ⟨.func, 1, 8, [.nilFunc], []⟩),
  (191, ⟨.func, 1, 8, [.nilFunc], []⟩),
  (192, ⟨.func, 1, 8, [.nilFunc], []⟩),
  (193, ⟨.func, 1, 8, [.nilFunc], []⟩),
  (194, ⟨.func, 1, 8, [.nilFunc], []⟩),
  (195, ⟨.func, 1, 8, [.nilFunc], []⟩),
  (196, ⟨.func, 1, 8, [.nilFunc], []⟩),
  (198, ⟨.func, 1, 8, [.nilFunc], []⟩),
  (199, ⟨.struct [], 0, 0, [], []⟩),
  (200, ⟨.struct [(0, 17), (1, 17), (2, 17), (3, 9)], 4, 40, [.nilptr, .nilptr, .nilptr, .str (.lit [])], []⟩),
  (201, ⟨.struct [(0, 17), (1, 17), (2, 17), (3, 9)], 4, 40, [.nilptr, .nilptr, .nilptr, .str (.lit [])], []⟩),
  (202, ⟨.array 0 16, 0, 0, [], []⟩),
  (203, ⟨.struct [(0, 202)], 0, 0, [], []⟩),
  (204, ⟨.struct [(0, 202)], 0, 0, [], []⟩),
  (205, ⟨.func, 1, 8, [.nilFunc], []⟩),
  (206, ⟨.int .u8, 1, 1, [.int .u8 (.lit 0)], []⟩),
  (207, ⟨.int .u8, 1, 1, [.int .u8 (.lit 0)], []⟩),
  (208, ⟨.func, 1, 8, [.nilFunc], []⟩),
  (209, ⟨.int .i32, 1, 4, [.int .i32 (.lit 0)], []⟩),
  (210, ⟨.int .i32, 1, 4, [.int .i32 (.lit 0)], []⟩),
  (211, ⟨.struct [(0, 12), (1, 12), (2, 78), (3, 206), (4, 5), (5, 5), (6, 207), (7, 208), (8, 135), (9, 209), (10, 210)], 11, 48, [.int .u64 (.lit 0), .int .u64 (.lit 0), .int .u32 (.lit 0), .int .u8 (.lit 0), .int .u8 (.lit 0), .int .u8 (.lit 0), .int .u8 (.lit 0), .nilFunc, .nilptr, .int .i32 (.lit 0), .int .i32 (.lit 0)], []⟩),
  (212, ⟨.struct [(0, 12), (1, 12), (2, 78), (3, 206), (4, 5), (5, 5), (6, 207), (7, 208), (8, 135), (9, 209), (10, 210)], 11, 48, [.int .u64 (.lit 0), .int .u64 (.lit 0), .int .u32 (.lit 0), .int .u8 (.lit 0), .int .u8 (.lit 0), .int .u8 (.lit 0), .int .u8 (.lit 0), .nilFunc, .nilptr, .int .i32 (.lit 0), .int .i32 (.lit 0)], []⟩)]

theorem tyList_ok : ∀ p ∈ tyList, TIok Tryd.prog p.1 p.2 :=
  (tys_cons (.of (i := Tryd.t1) (by kernel_rfl) Tryd.underlying1 rfl rfl rfl ⟨_, _, _, rfl⟩ (fun _ e => by cases e) rfl rfl (fun h => absurd rfl h)) 
  (tys_cons (.of (i := Tryd.t2) (by kernel_rfl) Tryd.underlying2 rfl rfl rfl rfl (fun _ e => by cases e) rfl rfl (fun h => absurd rfl h)) 
  (tys_cons (.of (i := Tryd.t3) (by kernel_rfl) Tryd.underlying3 rfl rfl rfl rfl (fun _ e => by cases e) rfl rfl (fun h => absurd rfl h)) 
  (tys_cons (.of (i := Tryd.t4) (by kernel_rfl) Tryd.underlying4 rfl rfl rfl rfl (fun _ e => by cases e) rfl rfl (fun h => absurd rfl h)) 
  (tys_cons (.of (i := Tryd.t5) (by kernel_rfl) Tryd.underlying5 rfl rfl rfl rfl (fun _ e => by cases e) rfl rfl (fun h => absurd rfl h)) 
  (tys_cons (.of (i := Tryd.t6) (by kernel_rfl) Tryd.underlying6 rfl rfl rfl rfl (fun _ e => by cases e) rfl rfl (fun h => absurd rfl h)) 
  (tys_cons (.of (i := Tryd.t7) (by kernel_rfl) Tryd.underlying7 rfl rfl rfl ⟨_, rfl, rfl⟩ (fun _ e => by cases e) rfl rfl (fun h => absurd rfl h)) 
  (tys_cons (.of (i := Tryd.t8) (by kernel_rfl) Tryd.underlying8 rfl rfl rfl ⟨_, rfl, rfl⟩ (fun _ e => by cases e) rfl rfl (fun h => absurd rfl h)) 
  (tys_cons (.of (i := Tryd.t9) (by kernel_rfl) Tryd.underlying9 rfl rfl rfl rfl (fun _ e => by cases e) rfl rfl (fun h => absurd rfl h)) 
  (tys_cons (.of (i := Tryd.t10) (by kernel_rfl) Tryd.underlying10 rfl rfl rfl rfl (fun _ e => by cases e) rfl rfl (fun h => absurd rfl h)) 
  (tys_cons (.of (i := Tryd.t11) (by kernel_rfl) Tryd.underlying11 rfl rfl rfl rfl (fun _ e => by cases e) rfl rfl (fun h => absurd rfl h)) 
  (tys_cons (.of (i := Tryd.t12) (by kernel_rfl) Tryd.underlying12 rfl rfl rfl rfl (fun _ e => by cases e) rfl rfl (fun h => absurd rfl h)) 
  (tys_cons (.of (i := Tryd.t13) (by kernel_rfl) Tryd.underlying13 rfl rfl rfl ⟨_, rfl, rfl⟩ (fun _ e => by cases e) rfl rfl (fun h => absurd rfl h)) 
  (tys_cons (.of (i := Tryd.t14) (by kernel_rfl) Tryd.underlying14 rfl rfl rfl ⟨_, rfl, rfl⟩ (fun _ e => by cases e) rfl rfl (fun h => absurd rfl h)) 
  (tys_cons (.of (i := Tryd.t15) (by kernel_rfl) Tryd.underlying15 rfl rfl rfl rfl (fun _ e => by cases e) rfl rfl (fun h => absurd rfl h)) 
  (tys_cons (.of (i := Tryd.t16) (by kernel_rfl) Tryd.underlying16 rfl rfl rfl rfl (fun _ e => by cases e) rfl rfl (fun h => absurd rfl h)) 
  (tys_cons (.of (i := Tryd.t17) (by kernel_rfl) Tryd.underlying17 rfl rfl rfl rfl (fun _ e => by cases e) rfl rfl (fun h => absurd rfl h)) 
  (tys_cons (.of (i := Tryd.t18) (by kernel_rfl) Tryd.underlying18 rfl rfl rfl ⟨_, rfl, rfl⟩ (fun _ e => by cases e) rfl rfl (fun h => absurd rfl h)) 
  (tys_cons (.of (i := Tryd.t19) (by kernel_rfl) Tryd.underlying19 rfl rfl rfl ⟨_, rfl, rfl⟩ (fun _ e => by cases e) rfl rfl (fun h => absurd rfl h)) 
  (tys_cons (.of (i := Tryd.t20) (by kernel_rfl) Tryd.underlying20 rfl rfl rfl ⟨_, rfl⟩ (fun _ _ => rfl) rfl rfl (fun h => absurd rfl h)) 
  (tys_cons (.of (i := Tryd.t21) (by kernel_rfl) Tryd.underlying21 rfl rfl rfl rfl (fun _ e => by cases e) rfl rfl (fun h => absurd rfl h)) 
  (tys_cons (.of (i := Tryd.t22) (by kernel_rfl) Tryd.underlying22 rfl rfl rfl ⟨_, rfl, rfl⟩ (fun _ e => by cases e) rfl rfl (fun h => absurd rfl h)) 
  (tys_cons (.of (i := Tryd.t23) (by kernel_rfl) Tryd.underlying23 rfl rfl rfl ⟨_, rfl, rfl⟩ (fun _ e => by cases e) rfl rfl (fun _ => ⟨⟨2, by decide, (.struct (by decide) Tryd.underlying23 (by kernel_rfl) (.cons' [.int .i64] [.string] (by kernel_rfl) rfl (.int Tryd.underlying2 Tryd.isAgg2) (.cons' [.string] [] (by kernel_rfl) rfl (.string Tryd.underlying9 Tryd.isAgg9) .nil rfl) rfl))⟩, by kernel_rfl⟩)) 
  (tys_cons (.of (i := Tryd.t24) (by kernel_rfl) Tryd.underlying24 rfl rfl rfl ⟨_, _, _, rfl⟩ (fun _ e => by cases e) rfl rfl (fun h => absurd rfl h)) 
  (tys_cons (.of (i := Tryd.t26) (by kernel_rfl) Tryd.underlying26 rfl rfl rfl ⟨_, _, _, rfl⟩ (fun _ e => by cases e) rfl rfl (fun h => absurd rfl h)) 
  (tys_cons (.of (i := Tryd.t27) (by kernel_rfl) Tryd.underlying27 rfl rfl rfl rfl (fun _ e => by cases e) rfl rfl (fun h => absurd rfl h)) 
  (tys_cons (.of (i := Tryd.t29) (by kernel_rfl) Tryd.underlying29 rfl rfl rfl ⟨_, _, _, rfl⟩ (fun _ e => by cases e) rfl rfl (fun h => absurd rfl h)) 
  (tys_cons (.of (i := Tryd.t30) (by kernel_rfl) Tryd.underlying30 rfl rfl rfl ⟨_, _, _, rfl⟩ (fun _ e => by cases e) rfl rfl (fun h => absurd rfl h)) 
  (tys_cons (.of (i := Tryd.t31) (by kernel_rfl) Tryd.underlying31 rfl rfl rfl ⟨_, _, _, rfl⟩ (fun _ e => by cases e) rfl rfl (fun h => absurd rfl h)) 
  (tys_cons (.of (i := Tryd.t32) (by kernel_rfl) Tryd.underlying32 rfl rfl rfl ⟨_, rfl, rfl⟩ (fun _ e => by cases e) rfl rfl (fun h => absurd rfl h)) 
  (tys_cons (.of (i := Tryd.t33) (by kernel_rfl) Tryd.underlying33 rfl rfl rfl ⟨_, rfl, rfl⟩ (fun _ e => by cases e) rfl rfl (fun _ => ⟨⟨2, by decide, (.struct (by decide) Tryd.underlying33 (by kernel_rfl) (.cons' [.int .i64] [.int .i64, .int .i64] (by kernel_rfl) rfl (.int Tryd.underlying3 Tryd.isAgg3) (.cons' [.int .i64] [.int .i64] (by kernel_rfl) rfl (.int Tryd.underlying3 Tryd.isAgg3) (.cons' [.int .i64] [] (by kernel_rfl) rfl (.int Tryd.underlying3 Tryd.isAgg3) .nil rfl) rfl) rfl))⟩, by kernel_rfl⟩)) 
  (tys_cons (.of (i := Tryd.t34) (by kernel_rfl) Tryd.underlying34 rfl rfl rfl ⟨_, rfl, rfl⟩ (fun _ e => by cases e) rfl rfl (fun h => absurd rfl h)) 
  (tys_cons (.of (i := Tryd.t35) (by kernel_rfl) Tryd.underlying35 rfl rfl rfl ⟨_, rfl, rfl⟩ (fun _ e => by cases e) rfl rfl (fun _ => ⟨⟨2, by decide, (.struct (by decide) Tryd.underlying35 (by kernel_rfl) (.cons' [.int .i64] [.int .i64] (by kernel_rfl) rfl (.int Tryd.underlying2 Tryd.isAgg2) (.cons' [.int .i64] [] (by kernel_rfl) rfl (.int Tryd.underlying3 Tryd.isAgg3) .nil rfl) rfl))⟩, by kernel_rfl⟩)) 
  (tys_cons (.of (i := Tryd.t36) (by kernel_rfl) Tryd.underlying36 rfl rfl rfl ⟨_, rfl, rfl⟩ (fun _ e => by cases e) rfl rfl (fun h => absurd rfl h)) 
  (tys_cons (.of (i := Tryd.t37) (by kernel_rfl) Tryd.underlying37 rfl rfl rfl ⟨_, rfl, rfl⟩ (fun _ e => by cases e) rfl rfl (fun _ => ⟨⟨3, by decide, (.struct (by decide) Tryd.underlying37 (by kernel_rfl) (.cons' [.bool] [.int .i64, .int .i64, .int .i64, .int .i64, .int .i64, .int .i64, .int .i64] (by kernel_rfl) rfl (.bool Tryd.underlying4 Tryd.isAgg4) (.cons' [.int .i64] [.int .i64, .int .i64, .int .i64, .int .i64, .int .i64, .int .i64] (by kernel_rfl) rfl (.int Tryd.underlying3 Tryd.isAgg3) (.cons' [.int .i64] [.int .i64, .int .i64, .int .i64, .int .i64, .int .i64] (by kernel_rfl) rfl (.int Tryd.underlying3 Tryd.isAgg3) (.cons' [.int .i64, .int .i64, .int .i64] [.int .i64, .int .i64] (by kernel_rfl) rfl (.agg (.struct (by decide) Tryd.underlying33 (by kernel_rfl) (.cons' [.int .i64] [.int .i64, .int .i64] (by kernel_rfl) rfl (.int Tryd.underlying3 Tryd.isAgg3) (.cons' [.int .i64] [.int .i64] (by kernel_rfl) rfl (.int Tryd.underlying3 Tryd.isAgg3) (.cons' [.int .i64] [] (by kernel_rfl) rfl (.int Tryd.underlying3 Tryd.isAgg3) .nil rfl) rfl) rfl)) Tryd.isAgg33 Tryd.sizeOf33) (.cons' [.int .i64, .int .i64] [] (by kernel_rfl) rfl (.agg (.struct (by decide) Tryd.underlying35 (by kernel_rfl) (.cons' [.int .i64] [.int .i64] (by kernel_rfl) rfl (.int Tryd.underlying2 Tryd.isAgg2) (.cons' [.int .i64] [] (by kernel_rfl) rfl (.int Tryd.underlying3 Tryd.isAgg3) .nil rfl) rfl)) Tryd.isAgg35 Tryd.sizeOf35) .nil rfl) rfl) rfl) rfl) rfl))⟩, by kernel_rfl⟩)) 
  (tys_cons (.of (i := Tryd.t38) (by kernel_rfl) Tryd.underlying38 rfl rfl rfl ⟨_, rfl, rfl⟩ (fun _ e => by cases e) rfl rfl (fun h => absurd rfl h)) 
  (tys_cons (.of (i := Tryd.t39) (by kernel_rfl) Tryd.underlying39 rfl rfl rfl ⟨_, rfl, rfl⟩ (fun _ e => by cases e) rfl rfl (fun _ => ⟨⟨4, by decide, (.struct (by decide) Tryd.underlying39 (by kernel_rfl) (.cons' [.int .i64] [.int .i64, .int .i64, .string, .string, .bool, .int .i64, .int .i64, .int .i64, .int .i64, .int .i64, .int .i64, .int .i64] (by kernel_rfl) rfl (.int Tryd.underlying2 Tryd.isAgg2) (.cons' [.int .i64] [.int .i64, .string, .string, .bool, .int .i64, .int .i64, .int .i64, .int .i64, .int .i64, .int .i64, .int .i64] (by kernel_rfl) rfl (.int Tryd.underlying3 Tryd.isAgg3) (.cons' [.int .i64] [.string, .string, .bool, .int .i64, .int .i64, .int .i64, .int .i64, .int .i64, .int .i64, .int .i64] (by kernel_rfl) rfl (.int Tryd.underlying2 Tryd.isAgg2) (.cons' [.string] [.string, .bool, .int .i64, .int .i64, .int .i64, .int .i64, .int .i64, .int .i64, .int .i64] (by kernel_rfl) rfl (.string Tryd.underlying9 Tryd.isAgg9) (.cons' [.string] [.bool, .int .i64, .int .i64, .int .i64, .int .i64, .int .i64, .int .i64, .int .i64] (by kernel_rfl) rfl (.string Tryd.underlying9 Tryd.isAgg9) (.cons' [.bool, .int .i64, .int .i64, .int .i64, .int .i64, .int .i64, .int .i64, .int .i64] [] (by kernel_rfl) rfl (.agg (.struct (by decide) Tryd.underlying37 (by kernel_rfl) (.cons' [.bool] [.int .i64, .int .i64, .int .i64, .int .i64, .int .i64, .int .i64, .int .i64] (by kernel_rfl) rfl (.bool Tryd.underlying4 Tryd.isAgg4) (.cons' [.int .i64] [.int .i64, .int .i64, .int .i64, .int .i64, .int .i64, .int .i64] (by kernel_rfl) rfl (.int Tryd.underlying3 Tryd.isAgg3) (.cons' [.int .i64] [.int .i64, .int .i64, .int .i64, .int .i64, .int .i64] (by kernel_rfl) rfl (.int Tryd.underlying3 Tryd.isAgg3) (.cons' [.int .i64, .int .i64, .int .i64] [.int .i64, .int .i64] (by kernel_rfl) rfl (.agg (.struct (by decide) Tryd.underlying33 (by kernel_rfl) (.cons' [.int .i64] [.int .i64, .int .i64] (by kernel_rfl) rfl (.int Tryd.underlying3 Tryd.isAgg3) (.cons' [.int .i64] [.int .i64] (by kernel_rfl) rfl (.int Tryd.underlying3 Tryd.isAgg3) (.cons' [.int .i64] [] (by kernel_rfl) rfl (.int Tryd.underlying3 Tryd.isAgg3) .nil rfl) rfl) rfl)) Tryd.isAgg33 Tryd.sizeOf33) (.cons' [.int .i64, .int .i64] [] (by kernel_rfl) rfl (.agg (.struct (by decide) Tryd.underlying35 (by kernel_rfl) (.cons' [.int .i64] [.int .i64] (by kernel_rfl) rfl (.int Tryd.underlying2 Tryd.isAgg2) (.cons' [.int .i64] [] (by kernel_rfl) rfl (.int Tryd.underlying3 Tryd.isAgg3) .nil rfl) rfl)) Tryd.isAgg35 Tryd.sizeOf35) .nil rfl) rfl) rfl) rfl) rfl)) Tryd.isAgg37 Tryd.sizeOf37) .nil rfl) rfl) rfl) rfl) rfl) rfl))⟩, by kernel_rfl⟩)) 
  (tys_cons (.of (i := Tryd.t40) (by kernel_rfl) Tryd.underlying40 rfl rfl rfl rfl (fun _ e => by cases e) rfl rfl (fun h => absurd rfl h)) 
  (tys_cons (.of (i := Tryd.t41) (by kernel_rfl) Tryd.underlying41 rfl rfl rfl ⟨_, _, _, rfl⟩ (fun _ e => by cases e) rfl rfl (fun h => absurd rfl h)) 
  (tys_cons (.of (i := Tryd.t42) (by kernel_rfl) Tryd.underlying42 rfl rfl rfl ⟨_, rfl, rfl⟩ (fun _ e => by cases e) rfl rfl (fun h => absurd rfl h)) 
  (tys_cons (.of (i := Tryd.t43) (by kernel_rfl) Tryd.underlying43 rfl rfl rfl ⟨_, rfl, rfl⟩ (fun _ e => by cases e) rfl rfl (fun _ => ⟨⟨3, by decide, (.struct (by decide) Tryd.underlying43 (by kernel_rfl) (.cons' [.string] [.int .i64, .int .i64, .int .i64, .int .i64, .int .i64, .int .i64, .int .i64, .int .i64, .int .i64, .string] (by kernel_rfl) rfl (.string Tryd.underlying9 Tryd.isAgg9) (.cons' [.int .i64] [.int .i64, .int .i64, .int .i64, .int .i64, .int .i64, .int .i64, .int .i64, .int .i64, .string] (by kernel_rfl) rfl (.int Tryd.underlying3 Tryd.isAgg3) (.cons' [.int .i64] [.int .i64, .int .i64, .int .i64, .int .i64, .int .i64, .int .i64, .int .i64, .string] (by kernel_rfl) rfl (.int Tryd.underlying3 Tryd.isAgg3) (.cons' [.int .i64] [.int .i64, .int .i64, .int .i64, .int .i64, .int .i64, .int .i64, .string] (by kernel_rfl) rfl (.int Tryd.underlying3 Tryd.isAgg3) (.cons' [.int .i64, .int .i64, .int .i64] [.int .i64, .int .i64, .int .i64, .string] (by kernel_rfl) rfl (.agg (.struct (by decide) Tryd.underlying33 (by kernel_rfl) (.cons' [.int .i64] [.int .i64, .int .i64] (by kernel_rfl) rfl (.int Tryd.underlying3 Tryd.isAgg3) (.cons' [.int .i64] [.int .i64] (by kernel_rfl) rfl (.int Tryd.underlying3 Tryd.isAgg3) (.cons' [.int .i64] [] (by kernel_rfl) rfl (.int Tryd.underlying3 Tryd.isAgg3) .nil rfl) rfl) rfl)) Tryd.isAgg33 Tryd.sizeOf33) (.cons' [.int .i64, .int .i64] [.int .i64, .string] (by kernel_rfl) rfl (.agg (.struct (by decide) Tryd.underlying35 (by kernel_rfl) (.cons' [.int .i64] [.int .i64] (by kernel_rfl) rfl (.int Tryd.underlying2 Tryd.isAgg2) (.cons' [.int .i64] [] (by kernel_rfl) rfl (.int Tryd.underlying3 Tryd.isAgg3) .nil rfl) rfl)) Tryd.isAgg35 Tryd.sizeOf35) (.cons' [.int .i64] [.string] (by kernel_rfl) rfl (.int Tryd.underlying2 Tryd.isAgg2) (.cons' [.string] [] (by kernel_rfl) rfl (.string Tryd.underlying9 Tryd.isAgg9) .nil rfl) rfl) rfl) rfl) rfl) rfl) rfl) rfl))⟩, by kernel_rfl⟩)) 
  (tys_cons (.of (i := Tryd.t44) (by kernel_rfl) Tryd.underlying44 rfl rfl rfl ⟨_, _, _, rfl⟩ (fun _ e => by cases e) rfl rfl (fun h => absurd rfl h)) 
  (tys_cons (.of (i := Tryd.t45) (by kernel_rfl) Tryd.underlying45 rfl rfl rfl ⟨_, _, _, rfl⟩ (fun _ e => by cases e) rfl rfl (fun h => absurd rfl h)) 
  (tys_cons (.of (i := Tryd.t46) (by kernel_rfl) Tryd.underlying46 rfl rfl rfl ⟨_, _, _, rfl⟩ (fun _ e => by cases e) rfl rfl (fun h => absurd rfl h)) 
  (tys_cons (.of (i := Tryd.t47) (by kernel_rfl) Tryd.underlying47 rfl rfl rfl ⟨_, _, _, rfl⟩ (fun _ e => by cases e) rfl rfl (fun h => absurd rfl h)) 
  (tys_cons (.of (i := Tryd.t48) (by kernel_rfl) Tryd.underlying48 rfl rfl rfl ⟨_, _, _, rfl⟩ (fun _ e => by cases e) rfl rfl (fun h => absurd rfl h)) 
  (tys_cons (.of (i := Tryd.t49) (by kernel_rfl) Tryd.underlying49 rfl rfl rfl rfl (fun _ e => by cases e) rfl rfl (fun h => absurd rfl h)) 
  (tys_cons (.of (i := Tryd.t50) (by kernel_rfl) Tryd.underlying50 rfl rfl rfl rfl (fun _ e => by cases e) rfl rfl (fun h => absurd rfl h)) 
  (tys_cons (.of (i := Tryd.t51) (by kernel_rfl) Tryd.underlying51 rfl rfl rfl ⟨_, _, _, rfl⟩ (fun _ e => by cases e) rfl rfl (fun h => absurd rfl h)) 
  (tys_cons (.of (i := Tryd.t52) (by kernel_rfl) Tryd.underlying52 rfl rfl rfl ⟨_, _, _, rfl⟩ (fun _ e => by cases e) rfl rfl (fun h => absurd rfl h)) 
  (tys_cons (.of (i := Tryd.t54) (by kernel_rfl) Tryd.underlying54 rfl rfl rfl ⟨_, _, _, rfl⟩ (fun _ e => by cases e) rfl rfl (fun h => absurd rfl h)) 
  (tys_cons (.of (i := Tryd.t55) (by kernel_rfl) Tryd.underlying55 rfl rfl rfl ⟨_, _, _, rfl⟩ (fun _ e => by cases e) rfl rfl (fun h => absurd rfl h)) 
  (tys_cons (.of (i := Tryd.t56) (by kernel_rfl) Tryd.underlying56 rfl rfl rfl ⟨_, _, _, rfl⟩ (fun _ e => by cases e) rfl rfl (fun h => absurd rfl h)) 
  (tys_cons (.of (i := Tryd.t57) (by kernel_rfl) Tryd.underlying57 rfl rfl rfl ⟨_, _, _, rfl⟩ (fun _ e => by cases e) rfl rfl (fun h => absurd rfl h)) 
  (tys_cons (.of (i := Tryd.t58) (by kernel_rfl) Tryd.underlying58 rfl rfl rfl ⟨_, _, _, rfl⟩ (fun _ e => by cases e) rfl rfl (fun h => absurd rfl h)) 
  (tys_cons (.of (i := Tryd.t59) (by kernel_rfl) Tryd.underlying59 rfl rfl rfl ⟨_, _, _, rfl⟩ (fun _ e => by cases e) rfl rfl (fun h => absurd rfl h)) 
  (tys_cons (.of (i := Tryd.t60) (by kernel_rfl) Tryd.underlying60 rfl rfl rfl rfl (fun _ e => by cases e) rfl rfl (fun h => absurd rfl h)) 
  (tys_cons (.of (i := Tryd.t61) (by kernel_rfl) Tryd.underlying61 rfl rfl rfl ⟨_, _, _, rfl⟩ (fun _ e => by cases e) rfl rfl (fun h => absurd rfl h)) 
  (tys_cons (.of (i := Tryd.t62) (by kernel_rfl) Tryd.underlying62 rfl rfl rfl rfl (fun _ e => by cases e) rfl rfl (fun h => absurd rfl h)) 
  (tys_cons (.of (i := Tryd.t63) (by kernel_rfl) Tryd.underlying63 rfl rfl rfl ⟨_, _, _, rfl⟩ (fun _ e => by cases e) rfl rfl (fun h => absurd rfl h)) 
  (tys_cons (.of (i := Tryd.t64) (by kernel_rfl) Tryd.underlying64 rfl rfl rfl ⟨_, _, _, rfl⟩ (fun _ e => by cases e) rfl rfl (fun h => absurd rfl h)) 
  (tys_cons (.of (i := Tryd.t65) (by kernel_rfl) Tryd.underlying65 rfl rfl rfl ⟨_, _, _, rfl⟩ (fun _ e => by cases e) rfl rfl (fun h => absurd rfl h)) 
  (tys_cons (.of (i := Tryd.t66) (by kernel_rfl) Tryd.underlying66 rfl rfl rfl ⟨_, _, _, rfl⟩ (fun _ e => by cases e) rfl rfl (fun h => absurd rfl h)) 
  (tys_cons (.of (i := Tryd.t67) (by kernel_rfl) Tryd.underlying67 rfl rfl rfl rfl (fun _ e => by cases e) rfl rfl (fun h => absurd rfl h)) 
  (tys_cons (.of (i := Tryd.t68) (by kernel_rfl) Tryd.underlying68 rfl rfl rfl ⟨_, rfl, rfl⟩ (fun _ e => by cases e) rfl rfl (fun h => absurd rfl h)) 
  (tys_cons (.of (i := Tryd.t69) (by kernel_rfl) Tryd.underlying69 rfl rfl rfl ⟨_, rfl, rfl⟩ (fun _ e => by cases e) rfl rfl (fun _ => ⟨⟨2, by decide, (.struct (by decide) Tryd.underlying69 (by kernel_rfl) (.cons' [.int .u8] [.int .u8, .int .u8] (by kernel_rfl) rfl (.int Tryd.underlying5 Tryd.isAgg5) (.cons' [.int .u8] [.int .u8] (by kernel_rfl) rfl (.int Tryd.underlying5 Tryd.isAgg5) (.cons' [.int .u8] [] (by kernel_rfl) rfl (.int Tryd.underlying5 Tryd.isAgg5) .nil rfl) rfl) rfl))⟩, by kernel_rfl⟩)) 
  (tys_cons (.of (i := Tryd.t70) (by kernel_rfl) Tryd.underlying70 rfl rfl rfl ⟨_, rfl, rfl⟩ (fun _ e => by cases e) rfl rfl (fun h => absurd rfl h)) 
  (tys_cons (.of (i := Tryd.t71) (by kernel_rfl) Tryd.underlying71 rfl rfl rfl ⟨_, rfl, rfl⟩ (fun _ e => by cases e) rfl rfl (fun _ => ⟨⟨3, by decide, (.struct (by decide) Tryd.underlying71 (by kernel_rfl) (.cons' [.int .u16] [.int .u8, .int .u8, .int .u8, .int .u8, .int .u8, .int .i32] (by kernel_rfl) rfl (.int Tryd.underlying67 Tryd.isAgg67) (.cons' [.int .u8] [.int .u8, .int .u8, .int .u8, .int .u8, .int .i32] (by kernel_rfl) rfl (.int Tryd.underlying5 Tryd.isAgg5) (.cons' [.int .u8] [.int .u8, .int .u8, .int .u8, .int .i32] (by kernel_rfl) rfl (.int Tryd.underlying5 Tryd.isAgg5) (.cons' [.int .u8, .int .u8, .int .u8] [.int .i32] (by kernel_rfl) rfl (.agg (.struct (by decide) Tryd.underlying69 (by kernel_rfl) (.cons' [.int .u8] [.int .u8, .int .u8] (by kernel_rfl) rfl (.int Tryd.underlying5 Tryd.isAgg5) (.cons' [.int .u8] [.int .u8] (by kernel_rfl) rfl (.int Tryd.underlying5 Tryd.isAgg5) (.cons' [.int .u8] [] (by kernel_rfl) rfl (.int Tryd.underlying5 Tryd.isAgg5) .nil rfl) rfl) rfl)) Tryd.isAgg69 Tryd.sizeOf69) (.cons' [.int .i32] [] (by kernel_rfl) rfl (.int Tryd.underlying21 Tryd.isAgg21) .nil rfl) rfl) rfl) rfl) rfl))⟩, by kernel_rfl⟩)) 
  (tys_cons (.of (i := Tryd.t72) (by kernel_rfl) Tryd.underlying72 rfl rfl rfl ⟨_, _, _, rfl⟩ (fun _ e => by cases e) rfl rfl (fun h => absurd rfl h)) 
  (tys_cons (.of (i := Tryd.t73) (by kernel_rfl) Tryd.underlying73 rfl rfl rfl ⟨_, _, _, rfl⟩ (fun _ e => by cases e) rfl rfl (fun h => absurd rfl h)) 
  (tys_cons (.of (i := Tryd.t74) (by kernel_rfl) Tryd.underlying74 rfl rfl rfl ⟨_, _, _, rfl⟩ (fun _ e => by cases e) rfl rfl (fun h => absurd rfl h)) 
  (tys_cons (.of (i := Tryd.t75) (by kernel_rfl) Tryd.underlying75 rfl rfl rfl ⟨_, _, _, rfl⟩ (fun _ e => by cases e) rfl rfl (fun h => absurd rfl h)) 
  (tys_cons (.of (i := Tryd.t76) (by kernel_rfl) Tryd.underlying76 rfl rfl rfl ⟨_, _, _, rfl⟩ (fun _ e => by cases e) rfl rfl (fun h => absurd rfl h)) 
  (tys_cons (.of (i := Tryd.t77) (by kernel_rfl) Tryd.underlying77 rfl rfl rfl ⟨_, _, _, rfl⟩ (fun _ e => by cases e) rfl rfl (fun h => absurd rfl h)) 
  (tys_cons (.of (i := Tryd.t78) (by kernel_rfl) Tryd.underlying78 rfl rfl rfl rfl (fun _ e => by cases e) rfl rfl (fun h => absurd rfl h)) 
  (tys_cons (.of (i := Tryd.t79) (by kernel_rfl) Tryd.underlying79 rfl rfl rfl ⟨_, _, _, rfl⟩ (fun _ e => by cases e) rfl rfl (fun h => absurd rfl h)) 
  (tys_cons (.of (i := Tryd.t80) (by kernel_rfl) Tryd.underlying80 rfl rfl rfl rfl (fun _ e => by cases e) rfl rfl (fun h => absurd rfl h)) 
  (tys_cons (.of (i := Tryd.t81) (by kernel_rfl) Tryd.underlying81 rfl rfl rfl rfl (fun _ e => by cases e) rfl rfl (fun h => absurd rfl h)) 
  (tys_cons (.of (i := Tryd.t82) (by kernel_rfl) Tryd.underlying82 rfl rfl rfl ⟨_, _, _, rfl⟩ (fun _ e => by cases e) rfl rfl (fun h => absurd rfl h)) 
  (tys_cons (.of (i := Tryd.t83) (by kernel_rfl) Tryd.underlying83 rfl rfl rfl ⟨_, rfl, rfl⟩ (fun _ e => by cases e) rfl rfl (fun h => absurd rfl h)) 
  (tys_cons (.of (i := Tryd.t84) (by kernel_rfl) Tryd.underlying84 rfl rfl rfl rfl (fun _ e => by cases e) rfl rfl (fun h => absurd rfl h)) 
  (tys_cons (.of (i := Tryd.t85) (by kernel_rfl) Tryd.underlying85 rfl rfl rfl ⟨_, rfl, rfl⟩ (fun _ e => by cases e) rfl rfl (fun h => absurd rfl h)) 
  (tys_cons (.of (i := Tryd.t86) (by kernel_rfl) Tryd.underlying86 rfl rfl rfl rfl (fun _ e => by cases e) rfl rfl (fun h => absurd rfl h)) 
  (tys_cons (.of (i := Tryd.t87) (by kernel_rfl) Tryd.underlying87 rfl rfl rfl ⟨_, _, _, rfl⟩ (fun _ e => by cases e) rfl rfl (fun h => absurd rfl h)) 
  (tys_cons (.of (i := Tryd.t89) (by kernel_rfl) Tryd.underlying89 rfl rfl rfl ⟨_, _, _, rfl⟩ (fun _ e => by cases e) rfl rfl (fun h => absurd rfl h)) 
  (tys_cons (.of (i := Tryd.t90) (by kernel_rfl) Tryd.underlying90 rfl rfl rfl ⟨_, _, _, rfl⟩ (fun _ e => by cases e) rfl rfl (fun h => absurd rfl h)) 
  (tys_cons (.of (i := Tryd.t91) (by kernel_rfl) Tryd.underlying91 rfl rfl rfl ⟨_, _, _, rfl⟩ (fun _ e => by cases e) rfl rfl (fun h => absurd rfl h)) 
  (tys_cons (.of (i := Tryd.t92) (by kernel_rfl) Tryd.underlying92 rfl rfl rfl ⟨_, _, _, rfl⟩ (fun _ e => by cases e) rfl rfl (fun h => absurd rfl h)) 
  (tys_cons (.of (i := Tryd.t93) (by kernel_rfl) Tryd.underlying93 rfl rfl rfl ⟨_, _, _, rfl⟩ (fun _ e => by cases e) rfl rfl (fun h => absurd rfl h)) 
  (tys_cons (.of (i := Tryd.t94) (by kernel_rfl) Tryd.underlying94 rfl rfl rfl ⟨_, _, _, rfl⟩ (fun _ e => by cases e) rfl rfl (fun h => absurd rfl h)) 
  (tys_cons (.of (i := Tryd.t95) (by kernel_rfl) Tryd.underlying95 rfl rfl rfl ⟨_, _, _, rfl⟩ (fun _ e => by cases e) rfl rfl (fun h => absurd rfl h)) 
  (tys_cons (.of (i := Tryd.t96) (by kernel_rfl) Tryd.underlying96 rfl rfl rfl ⟨_, _, _, rfl⟩ (fun _ e => by cases e) rfl rfl (fun h => absurd rfl h)) 
  (tys_cons (.of (i := Tryd.t97) (by kernel_rfl) Tryd.underlying97 rfl rfl rfl rfl (fun _ e => by cases e) rfl rfl (fun h => absurd rfl h)) 
  (tys_cons (.of (i := Tryd.t98) (by kernel_rfl) Tryd.underlying98 rfl rfl rfl ⟨_, rfl, rfl⟩ (fun _ e => by cases e) rfl rfl (fun h => absurd rfl h)) 
  (tys_cons (.of (i := Tryd.t99) (by kernel_rfl) Tryd.underlying99 rfl rfl rfl ⟨_, rfl, rfl⟩ (fun _ e => by cases e) rfl rfl (fun h => absurd rfl h)) 
  (tys_cons (.of (i := Tryd.t100) (by kernel_rfl) Tryd.underlying100 rfl rfl rfl ⟨_, _, _, rfl⟩ (fun _ e => by cases e) rfl rfl (fun h => absurd rfl h)) 
  (tys_cons (.of (i := Tryd.t101) (by kernel_rfl) Tryd.underlying101 rfl rfl rfl ⟨_, rfl⟩ (fun _ _ => rfl) rfl rfl (fun h => absurd rfl h)) 
  (tys_cons (.of (i := Tryd.t102) (by kernel_rfl) Tryd.underlying102 rfl rfl rfl ⟨_, rfl⟩ (fun _ _ => rfl) rfl rfl (fun h => absurd rfl h)) 
  (tys_cons (.of (i := Tryd.t104) (by kernel_rfl) Tryd.underlying104 rfl rfl rfl ⟨_, _, _, rfl⟩ (fun _ e => by cases e) rfl rfl (fun h => absurd rfl h)) 
  (tys_cons (.of (i := Tryd.t106) (by kernel_rfl) Tryd.underlying106 rfl rfl rfl ⟨_, _, _, rfl⟩ (fun _ e => by cases e) rfl rfl (fun h => absurd rfl h)) 
  (tys_cons (.of (i := Tryd.t107) (by kernel_rfl) Tryd.underlying107 rfl rfl rfl ⟨_, _, _, rfl⟩ (fun _ e => by cases e) rfl rfl (fun h => absurd rfl h)) 
  (tys_cons (.of (i := Tryd.t108) (by kernel_rfl) Tryd.underlying108 rfl rfl rfl ⟨_, _, _, rfl⟩ (fun _ e => by cases e) rfl rfl (fun h => absurd rfl h)) 
  (tys_cons (.of (i := Tryd.t109) (by kernel_rfl) Tryd.underlying109 rfl rfl rfl ⟨_, _, _, rfl⟩ (fun _ e => by cases e) rfl rfl (fun h => absurd rfl h)) 
  (tys_cons (.of (i := Tryd.t110) (by kernel_rfl) Tryd.underlying110 rfl rfl rfl ⟨_, _, _, rfl⟩ (fun _ e => by cases e) rfl rfl (fun h => absurd rfl h)) 
  (tys_cons (.of (i := Tryd.t111) (by kernel_rfl) Tryd.underlying111 rfl rfl rfl ⟨_, _, _, rfl⟩ (fun _ e => by cases e) rfl rfl (fun h => absurd rfl h)) 
  (tys_cons (.of (i := Tryd.t112) (by kernel_rfl) Tryd.underlying112 rfl rfl rfl ⟨_, _, _, rfl⟩ (fun _ e => by cases e) rfl rfl (fun h => absurd rfl h)) 
  (tys_cons (.of (i := Tryd.t113) (by kernel_rfl) Tryd.underlying113 rfl rfl rfl ⟨_, _, _, rfl⟩ (fun _ e => by cases e) rfl rfl (fun h => absurd rfl h)) 
  (tys_cons (.of (i := Tryd.t114) (by kernel_rfl) Tryd.underlying114 rfl rfl rfl ⟨_, _, _, rfl⟩ (fun _ e => by cases e) rfl rfl (fun h => absurd rfl h)) 
  (tys_cons (.of (i := Tryd.t115) (by kernel_rfl) Tryd.underlying115 rfl rfl rfl ⟨_, _, _, rfl⟩ (fun _ e => by cases e) rfl rfl (fun h => absurd rfl h)) 
  (tys_cons (.of (i := Tryd.t116) (by kernel_rfl) Tryd.underlying116 rfl rfl rfl ⟨_, _, _, rfl⟩ (fun _ e => by cases e) rfl rfl (fun h => absurd rfl h)) 
  (tys_cons (.of (i := Tryd.t117) (by kernel_rfl) Tryd.underlying117 rfl rfl rfl ⟨_, _, _, rfl⟩ (fun _ e => by cases e) rfl rfl (fun h => absurd rfl h)) 
  (tys_cons (.of (i := Tryd.t118) (by kernel_rfl) Tryd.underlying118 rfl rfl rfl ⟨_, _, _, rfl⟩ (fun _ e => by cases e) rfl rfl (fun h => absurd rfl h)) 
  (tys_cons (.of (i := Tryd.t119) (by kernel_rfl) Tryd.underlying119 rfl rfl rfl ⟨_, _, _, rfl⟩ (fun _ e => by cases e) rfl rfl (fun h => absurd rfl h)) 
  (tys_cons (.of (i := Tryd.t120) (by kernel_rfl) Tryd.underlying120 rfl rfl rfl ⟨_, rfl, rfl⟩ (fun _ e => by cases e) rfl rfl (fun h => absurd rfl h)) 
  (tys_cons (.of (i := Tryd.t121) (by kernel_rfl) Tryd.underlying121 rfl rfl rfl ⟨_, rfl, rfl⟩ (fun _ e => by cases e) rfl rfl (fun _ => ⟨⟨2, by decide, (.struct (by decide) Tryd.underlying121 (by kernel_rfl) (.cons' [.int .i64] [.int .i64, .int .i64] (by kernel_rfl) rfl (.int Tryd.underlying2 Tryd.isAgg2) (.cons' [.int .i64] [.int .i64] (by kernel_rfl) rfl (.int Tryd.underlying3 Tryd.isAgg3) (.cons' [.int .i64] [] (by kernel_rfl) rfl (.int Tryd.underlying2 Tryd.isAgg2) .nil rfl) rfl) rfl))⟩, by kernel_rfl⟩)) 
  (tys_cons (.of (i := Tryd.t123) (by kernel_rfl) Tryd.underlying123 rfl rfl rfl ⟨_, _, _, rfl⟩ (fun _ e => by cases e) rfl rfl (fun h => absurd rfl h)) 
  (tys_cons (.of (i := Tryd.t124) (by kernel_rfl) Tryd.underlying124 rfl rfl rfl ⟨_, _, _, rfl⟩ (fun _ e => by cases e) rfl rfl (fun h => absurd rfl h)) 
  (tys_cons (.of (i := Tryd.t125) (by kernel_rfl) Tryd.underlying125 rfl rfl rfl ⟨_, _, _, rfl⟩ (fun _ e => by cases e) rfl rfl (fun h => absurd rfl h)) 
  (tys_cons (.of (i := Tryd.t126) (by kernel_rfl) Tryd.underlying126 rfl rfl rfl ⟨_, _, _, rfl⟩ (fun _ e => by cases e) rfl rfl (fun h => absurd rfl h)) 
  (tys_cons (.of (i := Tryd.t127) (by kernel_rfl) Tryd.underlying127 rfl rfl rfl rfl (fun _ e => by cases e) rfl rfl (fun h => absurd rfl h)) 
  (tys_cons (.of (i := Tryd.t128) (by kernel_rfl) Tryd.underlying128 rfl rfl rfl ⟨_, _, _, rfl⟩ (fun _ e => by cases e) rfl rfl (fun h => absurd rfl h)) 
  (tys_cons (.of (i := Tryd.t129) (by kernel_rfl) Tryd.underlying129 rfl rfl rfl ⟨_, _, _, rfl⟩ (fun _ e => by cases e) rfl rfl (fun h => absurd rfl h)) 
  (tys_cons (.of (i := Tryd.t130) (by kernel_rfl) Tryd.underlying130 rfl rfl rfl rfl (fun _ e => by cases e) rfl rfl (fun h => absurd rfl h)) 
  (tys_cons (.of (i := Tryd.t131) (by kernel_rfl) Tryd.underlying131 rfl rfl rfl ⟨_, _, _, rfl⟩ (fun _ e => by cases e) rfl rfl (fun h => absurd rfl h)) 
  (tys_cons (.of (i := Tryd.t132) (by kernel_rfl) Tryd.underlying132 rfl rfl rfl ⟨_, _, _, rfl⟩ (fun _ e => by cases e) rfl rfl (fun h => absurd rfl h)) 
  (tys_cons (.of (i := Tryd.t133) (by kernel_rfl) Tryd.underlying133 rfl rfl rfl ⟨_, _, _, rfl⟩ (fun _ e => by cases e) rfl rfl (fun h => absurd rfl h)) 
  (tys_cons (.of (i := Tryd.t134) (by kernel_rfl) Tryd.underlying134 rfl rfl rfl ⟨_, _, _, rfl⟩ (fun _ e => by cases e) rfl rfl (fun h => absurd rfl h)) 
  (tys_cons (.of (i := Tryd.t135) (by kernel_rfl) Tryd.underlying135 rfl rfl rfl rfl (fun _ e => by cases e) rfl rfl (fun h => absurd rfl h)) 
  (tys_cons (.of (i := Tryd.t136) (by kernel_rfl) Tryd.underlying136 rfl rfl rfl ⟨_, _, _, rfl⟩ (fun _ e => by cases e) rfl rfl (fun h => absurd rfl h)) 
  (tys_cons (.of (i := Tryd.t137) (by kernel_rfl) Tryd.underlying137 rfl rfl rfl ⟨_, _, _, rfl⟩ (fun _ e => by cases e) rfl rfl (fun h => absurd rfl h)) 
  (tys_cons (.of (i := Tryd.t138) (by kernel_rfl) Tryd.underlying138 rfl rfl rfl ⟨_, _, _, rfl⟩ (fun _ e => by cases e) rfl rfl (fun h => absurd rfl h)) 
  (tys_cons (.of (i := Tryd.t139) (by kernel_rfl) Tryd.underlying139 rfl rfl rfl ⟨_, _, _, rfl⟩ (fun _ e => by cases e) rfl rfl (fun h => absurd rfl h)) 
  (tys_cons (.of (i := Tryd.t140) (by kernel_rfl) Tryd.underlying140 rfl rfl rfl ⟨_, _, _, rfl⟩ (fun _ e => by cases e) rfl rfl (fun h => absurd rfl h)) 
  (tys_cons (.of (i := Tryd.t141) (by kernel_rfl) Tryd.underlying141 rfl rfl rfl ⟨_, _, _, rfl⟩ (fun _ e => by cases e) rfl rfl (fun h => absurd rfl h)) 
  (tys_cons (.of (i := Tryd.t142) (by kernel_rfl) Tryd.underlying142 rfl rfl rfl ⟨_, _, _, rfl⟩ (fun _ e => by cases e) rfl rfl (fun h => absurd rfl h)) 
  (tys_cons (.of (i := Tryd.t143) (by kernel_rfl) Tryd.underlying143 rfl rfl rfl ⟨_, _, _, rfl⟩ (fun _ e => by cases e) rfl rfl (fun h => absurd rfl h)) 
  (tys_cons (.of (i := Tryd.t144) (by kernel_rfl) Tryd.underlying144 rfl rfl rfl ⟨_, rfl, rfl⟩ (fun _ e => by cases e) rfl rfl (fun h => absurd rfl h)) 
  (tys_cons (.of (i := Tryd.t145) (by kernel_rfl) Tryd.underlying145 rfl rfl rfl ⟨_, rfl, rfl⟩ (fun _ e => by cases e) rfl rfl (fun h => absurd rfl h)) 
  (tys_cons (.of (i := Tryd.t146) (by kernel_rfl) Tryd.underlying146 rfl rfl rfl ⟨_, _, _, rfl⟩ (fun _ e => by cases e) rfl rfl (fun h => absurd rfl h)) 
  (tys_cons (.of (i := Tryd.t147) (by kernel_rfl) Tryd.underlying147 rfl rfl rfl ⟨_, _, _, rfl⟩ (fun _ e => by cases e) rfl rfl (fun h => absurd rfl h)) 
  (tys_cons (.of (i := Tryd.t148) (by kernel_rfl) Tryd.underlying148 rfl rfl rfl ⟨_, _, _, rfl⟩ (fun _ e => by cases e) rfl rfl (fun h => absurd rfl h)) 
  (tys_cons (.of (i := Tryd.t149) (by kernel_rfl) Tryd.underlying149 rfl rfl rfl ⟨_, _, _, rfl⟩ (fun _ e => by cases e) rfl rfl (fun h => absurd rfl h)) 
  (tys_cons (.of (i := Tryd.t150) (by kernel_rfl) Tryd.underlying150 rfl rfl rfl ⟨_, _, _, rfl⟩ (fun _ e => by cases e) rfl rfl (fun h => absurd rfl h)) 
  (tys_cons (.of (i := Tryd.t151) (by kernel_rfl) Tryd.underlying151 rfl rfl rfl rfl (fun _ e => by cases e) rfl rfl (fun h => absurd rfl h)) 
  (tys_cons (.of (i := Tryd.t153) (by kernel_rfl) Tryd.underlying153 rfl rfl rfl ⟨_, _, _, rfl⟩ (fun _ e => by cases e) rfl rfl (fun h => absurd rfl h)) 
  (tys_cons (.of (i := Tryd.t154) (by kernel_rfl) Tryd.underlying154 rfl rfl rfl ⟨_, _, _, rfl⟩ (fun _ e => by cases e) rfl rfl (fun h => absurd rfl h)) 
  (tys_cons (.of (i := Tryd.t155) (by kernel_rfl) Tryd.underlying155 rfl rfl rfl ⟨_, _, _, rfl⟩ (fun _ e => by cases e) rfl rfl (fun h => absurd rfl h)) 
  (tys_cons (.of (i := Tryd.t156) (by kernel_rfl) Tryd.underlying156 rfl rfl rfl rfl (fun _ e => by cases e) rfl rfl (fun h => absurd rfl h)) 
  (tys_cons (.of (i := Tryd.t157) (by kernel_rfl) Tryd.underlying157 rfl rfl rfl rfl (fun _ e => by cases e) rfl rfl (fun h => absurd rfl h)) 
  (tys_cons (.of (i := Tryd.t158) (by kernel_rfl) Tryd.underlying158 rfl rfl rfl ⟨_, rfl, rfl⟩ (fun _ e => by cases e) rfl rfl (fun h => absurd rfl h)) 
  (tys_cons (.of (i := Tryd.t159) (by kernel_rfl) Tryd.underlying159 rfl rfl rfl ⟨_, rfl, rfl⟩ (fun _ e => by cases e) rfl rfl (fun h => absurd rfl h)) 
  (tys_cons (.of (i := Tryd.t160) (by kernel_rfl) Tryd.underlying160 rfl rfl rfl rfl (fun _ e => by cases e) rfl rfl (fun h => absurd rfl h)) 
  (tys_cons (.of (i := Tryd.t161) (by kernel_rfl) Tryd.underlying161 rfl rfl rfl ⟨_, _, _, rfl⟩ (fun _ e => by cases e) rfl rfl (fun h => absurd rfl h)) 
  (tys_cons (.of (i := Tryd.t162) (by kernel_rfl) Tryd.underlying162 rfl rfl rfl ⟨_, rfl, rfl⟩ (fun _ e => by cases e) rfl rfl (fun h => absurd rfl h)) 
  (tys_cons (.of (i := Tryd.t163) (by kernel_rfl) Tryd.underlying163 rfl rfl rfl ⟨_, rfl, rfl⟩ (fun _ e => by cases e) rfl rfl (fun h => absurd rfl h)) 
  (tys_cons (.of (i := Tryd.t165) (by kernel_rfl) Tryd.underlying165 rfl rfl rfl ⟨_, _, _, rfl⟩ (fun _ e => by cases e) rfl rfl (fun h => absurd rfl h)) 
  (tys_cons (.of (i := Tryd.t166) (by kernel_rfl) Tryd.underlying166 rfl rfl rfl ⟨_, _, _, rfl⟩ (fun _ e => by cases e) rfl rfl (fun h => absurd rfl h)) 
  (tys_cons (.of (i := Tryd.t168) (by kernel_rfl) Tryd.underlying168 rfl rfl rfl ⟨_, _, _, rfl⟩ (fun _ e => by cases e) rfl rfl (fun h => absurd rfl h)) 
  (tys_cons (.of (i := Tryd.t169) (by kernel_rfl) Tryd.underlying169 rfl rfl rfl ⟨_, _, _, rfl⟩ (fun _ e => by cases e) rfl rfl (fun h => absurd rfl h)) 
  (tys_cons (.of (i := Tryd.t170) (by kernel_rfl) Tryd.underlying170 rfl rfl rfl ⟨_, _, _, rfl⟩ (fun _ e => by cases e) rfl rfl (fun h => absurd rfl h)) 
  (tys_cons (.of (i := Tryd.t171) (by kernel_rfl) Tryd.underlying171 rfl rfl rfl ⟨_, _, _, rfl⟩ (fun _ e => by cases e) rfl rfl (fun h => absurd rfl h)) 
  (tys_cons (.of (i := Tryd.t172) (by kernel_rfl) Tryd.underlying172 rfl rfl rfl ⟨_, _, _, rfl⟩ (fun _ e => by cases e) rfl rfl (fun h => absurd rfl h)) 
  (tys_cons (.of (i := Tryd.t173) (by kernel_rfl) Tryd.underlying173 rfl rfl rfl ⟨_, _, _, rfl⟩ (fun _ e => by cases e) rfl rfl (fun h => absurd rfl h)) 
  (tys_cons (.of (i := Tryd.t174) (by kernel_rfl) Tryd.underlying174 rfl rfl rfl rfl (fun _ e => by cases e) rfl rfl (fun h => absurd rfl h)) 
  (tys_cons (.of (i := Tryd.t175) (by kernel_rfl) Tryd.underlying175 rfl rfl rfl ⟨_, _, _, rfl⟩ (fun _ e => by cases e) rfl rfl (fun h => absurd rfl h)) 
  (tys_cons (.of (i := Tryd.t176) (by kernel_rfl) Tryd.underlying176 rfl rfl rfl ⟨_, _, _, rfl⟩ (fun _ e => by cases e) rfl rfl (fun h => absurd rfl h)) 
  (tys_cons (.of (i := Tryd.t177) (by kernel_rfl) Tryd.underlying177 rfl rfl rfl ⟨_, _, _, rfl⟩ (fun _ e => by cases e) rfl rfl (fun h => absurd rfl h)) 
  (tys_cons (.of (i := Tryd.t178) (by kernel_rfl) Tryd.underlying178 rfl rfl rfl ⟨_, _, _, rfl⟩ (fun _ e => by cases e) rfl rfl (fun h => absurd rfl h)) 
  (tys_cons (.of (i := Tryd.t179) (by kernel_rfl) Tryd.underlying179 rfl rfl rfl ⟨_, _, _, rfl⟩ (fun _ e => by cases e) rfl rfl (fun h => absurd rfl h)) 
  (tys_cons (.of (i := Tryd.t180) (by kernel_rfl) Tryd.underlying180 rfl rfl rfl ⟨_, _, _, rfl⟩ (fun _ e => by cases e) rfl rfl (fun h => absurd rfl h)) 
  (tys_cons (.of (i := Tryd.t182) (by kernel_rfl) Tryd.underlying182 rfl rfl rfl ⟨_, _, _, rfl⟩ (fun _ e => by cases e) rfl rfl (fun h => absurd rfl h)) 
  (tys_cons (.of (i := Tryd.t183) (by kernel_rfl) Tryd.underlying183 rfl rfl rfl ⟨_, _, _, rfl⟩ (fun _ e => by cases e) rfl rfl (fun h => absurd rfl h)) 
  (tys_cons (.of (i := Tryd.t184) (by kernel_rfl) Tryd.underlying184 rfl rfl rfl rfl (fun _ e => by cases e) rfl rfl (fun h => absurd rfl h)) 
  (tys_cons (.of (i := Tryd.t185) (by kernel_rfl) Tryd.underlying185 rfl rfl rfl rfl (fun _ e => by cases e) rfl rfl (fun h => absurd rfl h)) 
  (tys_cons (.of (i := Tryd.t186) (by kernel_rfl) Tryd.underlying186 rfl rfl rfl ⟨_, _, _, rfl⟩ (fun _ e => by cases e) rfl rfl (fun h => absurd rfl h)) 
  (tys_cons (.of (i := Tryd.t187) (by kernel_rfl) Tryd.underlying187 rfl rfl rfl ⟨_, _, _, rfl⟩ (fun _ e => by cases e) rfl rfl (fun h => absurd rfl h)) 
  (tys_cons (.of (i := Tryd.t188) (by kernel_rfl) Tryd.underlying188 rfl rfl rfl ⟨_, _, _, rfl⟩ (fun _ e => by cases e) rfl rfl (fun h => absurd rfl h)) 
  (tys_cons (.of (i := Tryd.t190) (by kernel_rfl) Tryd.underlying190 rfl rfl rfl ⟨_, _, _, rfl⟩ (fun _ e => by cases e) rfl rfl (fun h => absurd rfl h)) 
  (tys_cons (.of (i := Tryd.t191) (by kernel_rfl) Tryd.underlying191 rfl rfl rfl ⟨_, _, _, rfl⟩ (fun _ e => by cases e) rfl rfl (fun h => absurd rfl h)) 
  (tys_cons (.of (i := Tryd.t192) (by kernel_rfl) Tryd.underlying192 rfl rfl rfl ⟨_, _, _, rfl⟩ (fun _ e => by cases e) rfl rfl (fun h => absurd rfl h)) 
  (tys_cons (.of (i := Tryd.t193) (by kernel_rfl) Tryd.underlying193 rfl rfl rfl ⟨_, _, _, rfl⟩ (fun _ e => by cases e) rfl rfl (fun h => absurd rfl h)) 
  (tys_cons (.of (i := Tryd.t194) (by kernel_rfl) Tryd.underlying194 rfl rfl rfl ⟨_, _, _, rfl⟩ (fun _ e => by cases e) rfl rfl (fun h => absurd rfl h)) 
  (tys_cons (.of (i := Tryd.t195) (by kernel_rfl) Tryd.underlying195 rfl rfl rfl ⟨_, _, _, rfl⟩ (fun _ e => by cases e) rfl rfl (fun h => absurd rfl h)) 
  (tys_cons (.of (i := Tryd.t196) (by kernel_rfl) Tryd.underlying196 rfl rfl rfl ⟨_, _, _, rfl⟩ (fun _ e => by cases e) rfl rfl (fun h => absurd rfl h)) 
  (tys_cons (.of (i := Tryd.t198) (by kernel_rfl) Tryd.underlying198 rfl rfl rfl ⟨_, _, _, rfl⟩ (fun _ e => by cases e) rfl rfl (fun h => absurd rfl h)) 
  (tys_cons (.of (i := Tryd.t199) (by kernel_rfl) Tryd.underlying199 rfl rfl rfl ⟨_, rfl, rfl⟩ (fun _ e => by cases e) rfl rfl (fun h => absurd rfl h)) 
  (tys_cons (.of (i := Tryd.t200) (by kernel_rfl) Tryd.underlying200 rfl rfl rfl ⟨_, rfl, rfl⟩ (fun _ e => by cases e) rfl rfl (fun h => absurd rfl h)) 
  (tys_cons (.of (i := Tryd.t201) (by kernel_rfl) Tryd.underlying201 rfl rfl rfl ⟨_, rfl, rfl⟩ (fun _ e => by cases e) rfl rfl (fun h => absurd rfl h)) 
  (tys_cons (.of (i := Tryd.t202) (by kernel_rfl) Tryd.underlying202 rfl rfl rfl rfl (fun _ e => by cases e) rfl rfl (fun h => absurd rfl h)) 
  (tys_cons (.of (i := Tryd.t203) (by kernel_rfl) Tryd.underlying203 rfl rfl rfl ⟨_, rfl, rfl⟩ (fun _ e => by cases e) rfl rfl (fun h => absurd rfl h)) 
  (tys_cons (.of (i := Tryd.t204) (by kernel_rfl) Tryd.underlying204 rfl rfl rfl ⟨_, rfl, rfl⟩ (fun _ e => by cases e) rfl rfl (fun h => absurd rfl h)) 
  (tys_cons (.of (i := Tryd.t205) (by kernel_rfl) Tryd.underlying205 rfl rfl rfl ⟨_, _, _, rfl⟩ (fun _ e => by cases e) rfl rfl (fun h => absurd rfl h)) 
  (tys_cons (.of (i := Tryd.t206) (by kernel_rfl) Tryd.underlying206 rfl rfl rfl rfl (fun _ e => by cases e) rfl rfl (fun h => absurd rfl h)) 
  (tys_cons (.of (i := Tryd.t207) (by kernel_rfl) Tryd.underlying207 rfl rfl rfl rfl (fun _ e => by cases e) rfl rfl (fun h => absurd rfl h)) 
  (tys_cons (.of (i := Tryd.t208) (by kernel_rfl) Tryd.underlying208 rfl rfl rfl ⟨_, _, _, rfl⟩ (fun _ e => by cases e) rfl rfl (fun h => absurd rfl h)) 
  (tys_cons (.of (i := Tryd.t209) (by kernel_rfl) Tryd.underlying209 rfl rfl rfl rfl (fun _ e => by cases e) rfl rfl (fun h => absurd rfl h)) 
  (tys_cons (.of (i := Tryd.t210) (by kernel_rfl) Tryd.underlying210 rfl rfl rfl rfl (fun _ e => by cases e) rfl rfl (fun h => absurd rfl h)) 
  (tys_cons (.of (i := Tryd.t211) (by kernel_rfl) Tryd.underlying211 rfl rfl rfl ⟨_, rfl, rfl⟩ (fun _ e => by cases e) rfl rfl (fun h => absurd rfl h)) 
  (tys_cons (.of (i := Tryd.t212) (by kernel_rfl) Tryd.underlying212 rfl rfl rfl ⟨_, rfl, rfl⟩ (fun _ e => by cases e) rfl rfl (fun h => absurd rfl h)) tys_nil)))))))))))))))))))))))))))))))))))))))))))))))))))))))))))))))))))))))))))))))))))))))))))))))))))))))))))))))))))))))))))))))))))))))))))))))))))))))))))))))))))))))))))))))))))))))))))))))))))))))

/-- The program, behind a name. -/
class IsProg (P : Program) : Prop where
  eq : P = Tryd.prog
instance : IsProg Tryd.prog := ⟨rfl⟩
variable {P : Program} [IsProg P]
def tau : Tys := Ax.look tyList
theorem tau_ok0 : ∀ t ti, tau t = some ti → TIok Tryd.prog t ti := tys_ok tyList_ok
theorem tau_ok : ∀ t ti, tau t = some ti → TIok P t ti := by
  have h := IsProg.eq (P := P)
  subst h
  exact tau_ok0
theorem mix0 : Tryd.prog.follows .mixedOrders = true := by kernel_rfl
theorem mix : P.follows .mixedOrders = true := by
  have h := IsProg.eq (P := P)
  subst h
  exact mix0

variable {gl : Nat → Option (List AV)}

/- analemma/analemmalaw21.FormatAbbrs -/
noncomputable def code3 : Code := Tryd.f3.body.getD .skip
theorem inl3 {J : Jd} {args : List AV} {H : Heap} {n : Nat} {R : AV → Heap → Nat → Prop} (hargs : args.length ≤ 86) (h : T.prop P gl n (resQ R) (bodyT tau gl J code3 86 [.tmp 6] args H n)) : CallA P gl 3 args H n R :=
  CallA.inlineE IsProg.eq tau_ok0 mix0 Tryd.func3 (by kernel_rfl) (by kernel_rfl) (by kernel_rfl) (by kernel_rfl) hargs h

/- analemma/analemmalaw21.FormatChecks -/
noncomputable def code4 : Code := Tryd.f4.body.getD .skip
theorem inl4 {J : Jd} {args : List AV} {H : Heap} {n : Nat} {R : AV → Heap → Nat → Prop} (hargs : args.length ≤ 37) (h : T.prop P gl n (resQ R) (bodyT tau gl J code4 37 [.tmp 4] args H n)) : CallA P gl 4 args H n R :=
  CallA.inlineE IsProg.eq tau_ok0 mix0 Tryd.func4 (by kernel_rfl) (by kernel_rfl) (by kernel_rfl) (by kernel_rfl) hargs h

/- analemma/analemmalaw21.FormatStates -/
noncomputable def code5 : Code := Tryd.f5.body.getD .skip
theorem inl5 {J : Jd} {args : List AV} {H : Heap} {n : Nat} {R : AV → Heap → Nat → Prop} (hargs : args.length ≤ 92) (h : T.prop P gl n (resQ R) (bodyT tau gl J code5 92 [.tmp 6] args H n)) : CallA P gl 5 args H n R :=
  CallA.inlineE IsProg.eq tau_ok0 mix0 Tryd.func5 (by kernel_rfl) (by kernel_rfl) (by kernel_rfl) (by kernel_rfl) hargs h

/- analemma/analemmalaw21.FormatNumbers -/
noncomputable def code6 : Code := Tryd.f6.body.getD .skip
theorem inl6 {J : Jd} {args : List AV} {H : Heap} {n : Nat} {R : AV → Heap → Nat → Prop} (hargs : args.length ≤ 104) (h : T.prop P gl n (resQ R) (bodyT tau gl J code6 104 [.tmp 6] args H n)) : CallA P gl 6 args H n R :=
  CallA.inlineE IsProg.eq tau_ok0 mix0 Tryd.func6 (by kernel_rfl) (by kernel_rfl) (by kernel_rfl) (by kernel_rfl) hargs h

/- analemma/analemmalaw21.FormatKinds -/
noncomputable def code7 : Code := Tryd.f7.body.getD .skip
theorem inl7 {J : Jd} {args : List AV} {H : Heap} {n : Nat} {R : AV → Heap → Nat → Prop} (hargs : args.length ≤ 185) (h : T.prop P gl n (resQ R) (bodyT tau gl J code7 185 [.tmp 8] args H n)) : CallA P gl 7 args H n R :=
  CallA.inlineE IsProg.eq tau_ok0 mix0 Tryd.func7 (by kernel_rfl) (by kernel_rfl) (by kernel_rfl) (by kernel_rfl) hargs h

/- analemma/analemmalaw21.FormatRefuses -/
noncomputable def code8 : Code := Tryd.f8.body.getD .skip
theorem inl8 {J : Jd} {args : List AV} {H : Heap} {n : Nat} {R : AV → Heap → Nat → Prop} (hargs : args.length ≤ 112) (h : T.prop P gl n (resQ R) (bodyT tau gl J code8 112 [.tmp 6] args H n)) : CallA P gl 8 args H n R :=
  CallA.inlineE IsProg.eq tau_ok0 mix0 Tryd.func8 (by kernel_rfl) (by kernel_rfl) (by kernel_rfl) (by kernel_rfl) hargs h

/- analemma/analemmalaw22.UntilEnds -/
noncomputable def code9 : Code := Tryd.f9.body.getD .skip
theorem inl9 {J : Jd} {args : List AV} {H : Heap} {n : Nat} {R : AV → Heap → Nat → Prop} (hargs : args.length ≤ 41) (h : T.prop P gl n (resQ R) (bodyT tau gl J code9 41 [.tmp 4] args H n)) : CallA P gl 9 args H n R :=
  CallA.inlineE IsProg.eq tau_ok0 mix0 Tryd.func9 (by kernel_rfl) (by kernel_rfl) (by kernel_rfl) (by kernel_rfl) hargs h

/- analemma/analemmalaw22.UntilInstants -/
noncomputable def code10 : Code := Tryd.f10.body.getD .skip
theorem inl10 {J : Jd} {args : List AV} {H : Heap} {n : Nat} {R : AV → Heap → Nat → Prop} (hargs : args.length ≤ 36) (h : T.prop P gl n (resQ R) (bodyT tau gl J code10 36 [.tmp 4] args H n)) : CallA P gl 10 args H n R :=
  CallA.inlineE IsProg.eq tau_ok0 mix0 Tryd.func10 (by kernel_rfl) (by kernel_rfl) (by kernel_rfl) (by kernel_rfl) hargs h

/- analemma/analemmalaw22.UntilNear -/
noncomputable def code11 : Code := Tryd.f11.body.getD .skip
theorem inl11 {J : Jd} {args : List AV} {H : Heap} {n : Nat} {R : AV → Heap → Nat → Prop} (hargs : args.length ≤ 98) (h : T.prop P gl n (resQ R) (bodyT tau gl J code11 98 [.tmp 10] args H n)) : CallA P gl 11 args H n R :=
  CallA.inlineE IsProg.eq tau_ok0 mix0 Tryd.func11 (by kernel_rfl) (by kernel_rfl) (by kernel_rfl) (by kernel_rfl) hargs h

/- analemma/analemmalaw22.UntilShift -/
noncomputable def code12 : Code := Tryd.f12.body.getD .skip
theorem inl12 {J : Jd} {args : List AV} {H : Heap} {n : Nat} {R : AV → Heap → Nat → Prop} (hargs : args.length ≤ 168) (h : T.prop P gl n (resQ R) (bodyT tau gl J code12 168 [.tmp 6] args H n)) : CallA P gl 12 args H n R :=
  CallA.inlineE IsProg.eq tau_ok0 mix0 Tryd.func12 (by kernel_rfl) (by kernel_rfl) (by kernel_rfl) (by kernel_rfl) hargs h

/- analemma/analemmalaw22.UntilOrder -/
noncomputable def code13 : Code := Tryd.f13.body.getD .skip
theorem inl13 {J : Jd} {args : List AV} {H : Heap} {n : Nat} {R : AV → Heap → Nat → Prop} (hargs : args.length ≤ 107) (h : T.prop P gl n (resQ R) (bodyT tau gl J code13 107 [.tmp 12] args H n)) : CallA P gl 13 args H n R :=
  CallA.inlineE IsProg.eq tau_ok0 mix0 Tryd.func13 (by kernel_rfl) (by kernel_rfl) (by kernel_rfl) (by kernel_rfl) hargs h

/- analemma/analemmalaw22.UntilRefuses -/
noncomputable def code14 : Code := Tryd.f14.body.getD .skip
theorem inl14 {J : Jd} {args : List AV} {H : Heap} {n : Nat} {R : AV → Heap → Nat → Prop} (hargs : args.length ≤ 194) (h : T.prop P gl n (resQ R) (bodyT tau gl J code14 194 [.tmp 6] args H n)) : CallA P gl 14 args H n R :=
  CallA.inlineE IsProg.eq tau_ok0 mix0 Tryd.func14 (by kernel_rfl) (by kernel_rfl) (by kernel_rfl) (by kernel_rfl) hargs h

/- analemma/analemmalaw21.works -/
noncomputable def code15 : Code := Tryd.f15.body.getD .skip
theorem inl15 {J : Jd} {args : List AV} {H : Heap} {n : Nat} {R : AV → Heap → Nat → Prop} (hargs : args.length ≤ 125) (h : T.prop P gl n (resQ R) (bodyT tau gl J code15 125 [.tmp 0] args H n)) : CallA P gl 15 args H n R :=
  CallA.inlineE IsProg.eq tau_ok0 mix0 Tryd.func15 (by kernel_rfl) (by kernel_rfl) (by kernel_rfl) (by kernel_rfl) hargs h

/- analemma/format.Parts -/
noncomputable def code16 : Code := Tryd.f16.body.getD .skip
theorem inl16 {J : Jd} {args : List AV} {H : Heap} {n : Nat} {R : AV → Heap → Nat → Prop} (hargs : args.length ≤ 26) (h : T.prop P gl n (resQ R) (bodyT tau gl J code16 26 [.tmp 2, .tmp 3, .tmp 4] args H n)) : CallA P gl 16 args H n R :=
  CallA.inlineE IsProg.eq tau_ok0 mix0 Tryd.func16 (by kernel_rfl) (by kernel_rfl) (by kernel_rfl) (by kernel_rfl) hargs h

/- analemma/analemmaref21.Parts -/
noncomputable def code17 : Code := Tryd.f17.body.getD .skip
theorem inl17 {J : Jd} {args : List AV} {H : Heap} {n : Nat} {R : AV → Heap → Nat → Prop} (hargs : args.length ≤ 23) (h : T.prop P gl n (resQ R) (bodyT tau gl J code17 23 [.tmp 2, .tmp 3, .tmp 4] args H n)) : CallA P gl 17 args H n R :=
  CallA.inlineE IsProg.eq tau_ok0 mix0 Tryd.func17 (by kernel_rfl) (by kernel_rfl) (by kernel_rfl) (by kernel_rfl) hargs h

/- analemma/format.Abbr -/
noncomputable def code18 : Code := Tryd.f18.body.getD .skip
theorem inl18 {J : Jd} {args : List AV} {H : Heap} {n : Nat} {R : AV → Heap → Nat → Prop} (hargs : args.length ≤ 58) (h : T.prop P gl n (resQ R) (bodyT tau gl J code18 58 [.tmp 6, .tmp 7] args H n)) : CallA P gl 18 args H n R :=
  CallA.inlineE IsProg.eq tau_ok0 mix0 Tryd.func18 (by kernel_rfl) (by kernel_rfl) (by kernel_rfl) (by kernel_rfl) hargs h

/- analemma/analemmaref21.Abbr -/
noncomputable def code19 : Code := Tryd.f19.body.getD .skip
theorem inl19 {J : Jd} {args : List AV} {H : Heap} {n : Nat} {R : AV → Heap → Nat → Prop} (hargs : args.length ≤ 110) (h : T.prop P gl n (resQ R) (bodyT tau gl J code19 110 [.tmp 6, .tmp 7] args H n)) : CallA P gl 19 args H n R :=
  CallA.inlineE IsProg.eq tau_ok0 mix0 Tryd.func19 (by kernel_rfl) (by kernel_rfl) (by kernel_rfl) (by kernel_rfl) hargs h

/- analemma/format.Kind -/
noncomputable def code20 : Code := Tryd.f20.body.getD .skip
theorem inl20 {J : Jd} {args : List AV} {H : Heap} {n : Nat} {R : AV → Heap → Nat → Prop} (hargs : args.length ≤ 42) (h : T.prop P gl n (resQ R) (bodyT tau gl J code20 42 [.tmp 2] args H n)) : CallA P gl 20 args H n R :=
  CallA.inlineE IsProg.eq tau_ok0 mix0 Tryd.func20 (by kernel_rfl) (by kernel_rfl) (by kernel_rfl) (by kernel_rfl) hargs h

/- analemma/analemmaref21.Kind -/
noncomputable def code21 : Code := Tryd.f21.body.getD .skip
theorem inl21 {J : Jd} {args : List AV} {H : Heap} {n : Nat} {R : AV → Heap → Nat → Prop} (hargs : args.length ≤ 48) (h : T.prop P gl n (resQ R) (bodyT tau gl J code21 48 [.tmp 2] args H n)) : CallA P gl 21 args H n R :=
  CallA.inlineE IsProg.eq tau_ok0 mix0 Tryd.func21 (by kernel_rfl) (by kernel_rfl) (by kernel_rfl) (by kernel_rfl) hargs h

/- slices.ContainsFunc[[]analemma/api.Rule,analemma/api.Rule] -/
noncomputable def code22 : Code := Tryd.f22.body.getD .skip
theorem inl22 {J : Jd} {args : List AV} {H : Heap} {n : Nat} {R : AV → Heap → Nat → Prop} (hargs : args.length ≤ 9) (h : T.prop P gl n (resQ R) (bodyT tau gl J code22 9 [.tmp 4] args H n)) : CallA P gl 22 args H n R :=
  CallA.inlineE IsProg.eq tau_ok0 mix0 Tryd.func22 (by kernel_rfl) (by kernel_rfl) (by kernel_rfl) (by kernel_rfl) hargs h

/- analemma/analemmalaw21.FormatChecks$1 -/
noncomputable def code23 : Code := Tryd.f23.body.getD .skip
theorem inl23 {J : Jd} {args : List AV} {H : Heap} {n : Nat} {R : AV → Heap → Nat → Prop} (hargs : args.length ≤ 7) (h : T.prop P gl n (resQ R) (bodyT tau gl J code23 7 [.tmp 2] args H n)) : CallA P gl 23 args H n R :=
  CallA.inlineE IsProg.eq tau_ok0 mix0 Tryd.func23 (by kernel_rfl) (by kernel_rfl) (by kernel_rfl) (by kernel_rfl) hargs h

/- slices.Clone[[]analemma/api.Rule,analemma/api.Rule] -/
noncomputable def code24 : Code := Tryd.f24.body.getD .skip
theorem inl24 {J : Jd} {args : List AV} {H : Heap} {n : Nat} {R : AV → Heap → Nat → Prop} (hargs : args.length ≤ 8) (h : T.prop P gl n (resQ R) (bodyT tau gl J code24 8 [.tmp 2] args H n)) : CallA P gl 24 args H n R :=
  CallA.inlineE IsProg.eq tau_ok0 mix0 Tryd.func24 (by kernel_rfl) (by kernel_rfl) (by kernel_rfl) (by kernel_rfl) hargs h

/- analemma/format.Check -/
noncomputable def code25 : Code := Tryd.f25.body.getD .skip
theorem inl25 {J : Jd} {args : List AV} {H : Heap} {n : Nat} {R : AV → Heap → Nat → Prop} (hargs : args.length ≤ 49) (h : T.prop P gl n (resQ R) (bodyT tau gl J code25 49 [.tmp 4] args H n)) : CallA P gl 25 args H n R :=
  CallA.inlineE IsProg.eq tau_ok0 mix0 Tryd.func25 (by kernel_rfl) (by kernel_rfl) (by kernel_rfl) (by kernel_rfl) hargs h

/- analemma/analemmaref21.Check -/
noncomputable def code26 : Code := Tryd.f26.body.getD .skip
theorem inl26 {J : Jd} {args : List AV} {H : Heap} {n : Nat} {R : AV → Heap → Nat → Prop} (hargs : args.length ≤ 78) (h : T.prop P gl n (resQ R) (bodyT tau gl J code26 78 [.tmp 4] args H n)) : CallA P gl 26 args H n R :=
  CallA.inlineE IsProg.eq tau_ok0 mix0 Tryd.func26 (by kernel_rfl) (by kernel_rfl) (by kernel_rfl) (by kernel_rfl) hargs h

/- slices.Equal[[]analemma/api.Rule,analemma/api.Rule] -/
noncomputable def code27 : Code := Tryd.f27.body.getD .skip
theorem inl27 {J : Jd} {args : List AV} {H : Heap} {n : Nat} {R : AV → Heap → Nat → Prop} (hargs : args.length ≤ 26) (h : T.prop P gl n (resQ R) (bodyT tau gl J code27 26 [.tmp 4] args H n)) : CallA P gl 27 args H n R :=
  CallA.inlineE IsProg.eq tau_ok0 mix0 Tryd.func27 (by kernel_rfl) (by kernel_rfl) (by kernel_rfl) (by kernel_rfl) hargs h

/- (analemma/analemmalaw17.Draft).Made -/
noncomputable def code28 : Code := Tryd.f28.body.getD .skip
theorem inl28 {J : Jd} {args : List AV} {H : Heap} {n : Nat} {R : AV → Heap → Nat → Prop} (hargs : args.length ≤ 81) (h : T.prop P gl n (resQ R) (bodyT tau gl J code28 81 [.tmp 4] args H n)) : CallA P gl 28 args H n R :=
  CallA.inlineE IsProg.eq tau_ok0 mix0 Tryd.func28 (by kernel_rfl) (by kernel_rfl) (by kernel_rfl) (by kernel_rfl) hargs h

/- analemma/analemmalaw21.Era -/
noncomputable def code29 : Code := Tryd.f29.body.getD .skip
theorem inl29 {J : Jd} {args : List AV} {H : Heap} {n : Nat} {R : AV → Heap → Nat → Prop} (hargs : args.length ≤ 31) (h : T.prop P gl n (resQ R) (bodyT tau gl J code29 31 [.cell 6 39] args H n)) : CallA P gl 29 args H n R :=
  CallA.inlineE IsProg.eq tau_ok0 mix0 Tryd.func29 (by kernel_rfl) (by kernel_rfl) (by kernel_rfl) (by kernel_rfl) hargs h

/- analemma/numeric.Parse -/
noncomputable def code30 : Code := Tryd.f30.body.getD .skip
theorem inl30 {J : Jd} {args : List AV} {H : Heap} {n : Nat} {R : AV → Heap → Nat → Prop} (hargs : args.length ≤ 56) (h : T.prop P gl n (resQ R) (bodyT tau gl J code30 56 [.tmp 2, .tmp 3] args H n)) : CallA P gl 30 args H n R :=
  CallA.inlineE IsProg.eq tau_ok0 mix0 Tryd.func30 (by kernel_rfl) (by kernel_rfl) (by kernel_rfl) (by kernel_rfl) hargs h

/- analemma/name.Abbr -/
noncomputable def code31 : Code := Tryd.f31.body.getD .skip
theorem inl31 {J : Jd} {args : List AV} {H : Heap} {n : Nat} {R : AV → Heap → Nat → Prop} (hargs : args.length ≤ 5) (h : T.prop P gl n (resQ R) (bodyT tau gl J code31 5 [.tmp 2] args H n)) : CallA P gl 31 args H n R :=
  CallA.inlineE IsProg.eq tau_ok0 mix0 Tryd.func31 (by kernel_rfl) (by kernel_rfl) (by kernel_rfl) (by kernel_rfl) hargs h

/- strings.Replace -/
noncomputable def code32 : Code := Tryd.f32.body.getD .skip
theorem inl32 {J : Jd} {args : List AV} {H : Heap} {n : Nat} {R : AV → Heap → Nat → Prop} (hargs : args.length ≤ 104) (h : T.prop P gl n (resQ R) (bodyT tau gl J code32 104 [.tmp 8] args H n)) : CallA P gl 32 args H n R :=
  CallA.inlineE IsProg.eq tau_ok0 mix0 Tryd.func32 (by kernel_rfl) (by kernel_rfl) (by kernel_rfl) (by kernel_rfl) hargs h

/- analemma/numeric.Expansion -/
noncomputable def code33 : Code := Tryd.f33.body.getD .skip
theorem inl33 {J : Jd} {args : List AV} {H : Heap} {n : Nat} {R : AV → Heap → Nat → Prop} (hargs : args.length ≤ 60) (h : T.prop P gl n (resQ R) (bodyT tau gl J code33 60 [.tmp 4, .tmp 5] args H n)) : CallA P gl 33 args H n R :=
  CallA.inlineE IsProg.eq tau_ok0 mix0 Tryd.func33 (by kernel_rfl) (by kernel_rfl) (by kernel_rfl) (by kernel_rfl) hargs h

/- analemma/analemmalaw21.FormatKinds$1 -/
noncomputable def code34 : Code := Tryd.f34.body.getD .skip
theorem inl34 {J : Jd} {args : List AV} {H : Heap} {n : Nat} {R : AV → Heap → Nat → Prop} (hargs : args.length ≤ 32) (h : T.prop P gl n (resQ R) (bodyT tau gl J code34 32 [.tmp 2] args H n)) : CallA P gl 34 args H n R :=
  CallA.inlineE IsProg.eq tau_ok0 mix0 Tryd.func34 (by kernel_rfl) (by kernel_rfl) (by kernel_rfl) (by kernel_rfl) hargs h

/- analemma/until.Nominal -/
noncomputable def code35 : Code := Tryd.f35.body.getD .skip
theorem inl35 {J : Jd} {args : List AV} {H : Heap} {n : Nat} {R : AV → Heap → Nat → Prop} (hargs : args.length ≤ 26) (h : T.prop P gl n (resQ R) (bodyT tau gl J code35 26 [.tmp 4, .tmp 5] args H n)) : CallA P gl 35 args H n R :=
  CallA.inlineE IsProg.eq tau_ok0 mix0 Tryd.func35 (by kernel_rfl) (by kernel_rfl) (by kernel_rfl) (by kernel_rfl) hargs h

/- analemma/analemmaref22.Nominal -/
noncomputable def code36 : Code := Tryd.f36.body.getD .skip
theorem inl36 {J : Jd} {args : List AV} {H : Heap} {n : Nat} {R : AV → Heap → Nat → Prop} (hargs : args.length ≤ 23) (h : T.prop P gl n (resQ R) (bodyT tau gl J code36 23 [.tmp 4, .tmp 5] args H n)) : CallA P gl 36 args H n R :=
  CallA.inlineE IsProg.eq tau_ok0 mix0 Tryd.func36 (by kernel_rfl) (by kernel_rfl) (by kernel_rfl) (by kernel_rfl) hargs h

/- analemma/until.Check -/
noncomputable def code37 : Code := Tryd.f37.body.getD .skip
theorem inl37 {J : Jd} {args : List AV} {H : Heap} {n : Nat} {R : AV → Heap → Nat → Prop} (hargs : args.length ≤ 14) (h : T.prop P gl n (resQ R) (bodyT tau gl J code37 14 [.tmp 4] args H n)) : CallA P gl 37 args H n R :=
  CallA.inlineE IsProg.eq tau_ok0 mix0 Tryd.func37 (by kernel_rfl) (by kernel_rfl) (by kernel_rfl) (by kernel_rfl) hargs h

/- analemma/analemmaref22.Check -/
noncomputable def code38 : Code := Tryd.f38.body.getD .skip
theorem inl38 {J : Jd} {args : List AV} {H : Heap} {n : Nat} {R : AV → Heap → Nat → Prop} (hargs : args.length ≤ 72) (h : T.prop P gl n (resQ R) (bodyT tau gl J code38 72 [.tmp 4] args H n)) : CallA P gl 38 args H n R :=
  CallA.inlineE IsProg.eq tau_ok0 mix0 Tryd.func38 (by kernel_rfl) (by kernel_rfl) (by kernel_rfl) (by kernel_rfl) hargs h

/- analemma/analemmalaw22.works -/
noncomputable def code39 : Code := Tryd.f39.body.getD .skip
theorem inl39 {J : Jd} {args : List AV} {H : Heap} {n : Nat} {R : AV → Heap → Nat → Prop} (hargs : args.length ≤ 92) (h : T.prop P gl n (resQ R) (bodyT tau gl J code39 92 [.tmp 0] args H n)) : CallA P gl 39 args H n R :=
  CallA.inlineE IsProg.eq tau_ok0 mix0 Tryd.func39 (by kernel_rfl) (by kernel_rfl) (by kernel_rfl) (by kernel_rfl) hargs h

/- analemma/until.Instant -/
noncomputable def code40 : Code := Tryd.f40.body.getD .skip
theorem inl40 {J : Jd} {args : List AV} {H : Heap} {n : Nat} {R : AV → Heap → Nat → Prop} (hargs : args.length ≤ 77) (h : T.prop P gl n (resQ R) (bodyT tau gl J code40 77 [.tmp 4, .tmp 5] args H n)) : CallA P gl 40 args H n R :=
  CallA.inlineE IsProg.eq tau_ok0 mix0 Tryd.func40 (by kernel_rfl) (by kernel_rfl) (by kernel_rfl) (by kernel_rfl) hargs h

/- analemma/analemmaref22.Instant -/
noncomputable def code41 : Code := Tryd.f41.body.getD .skip
theorem inl41 {J : Jd} {args : List AV} {H : Heap} {n : Nat} {R : AV → Heap → Nat → Prop} (hargs : args.length ≤ 89) (h : T.prop P gl n (resQ R) (bodyT tau gl J code41 89 [.tmp 4, .tmp 5] args H n)) : CallA P gl 41 args H n R :=
  CallA.inlineE IsProg.eq tau_ok0 mix0 Tryd.func41 (by kernel_rfl) (by kernel_rfl) (by kernel_rfl) (by kernel_rfl) hargs h

/- analemma/ruleset.Least -/
noncomputable def code42 : Code := Tryd.f42.body.getD .skip
theorem inl42 {J : Jd} {args : List AV} {H : Heap} {n : Nat} {R : AV → Heap → Nat → Prop} (hargs : args.length ≤ 18) (h : T.prop P gl n (resQ R) (bodyT tau gl J code42 18 [.tmp 2] args H n)) : CallA P gl 42 args H n R :=
  CallA.inlineE IsProg.eq tau_ok0 mix0 Tryd.func42 (by kernel_rfl) (by kernel_rfl) (by kernel_rfl) (by kernel_rfl) hargs h

/- analemma/analemmalaw22.era -/
noncomputable def code43 : Code := Tryd.f43.body.getD .skip
theorem inl43 {J : Jd} {args : List AV} {H : Heap} {n : Nat} {R : AV → Heap → Nat → Prop} (hargs : args.length ≤ 37) (h : T.prop P gl n (resQ R) (bodyT tau gl J code43 37 [.cell 10 39] args H n)) : CallA P gl 43 args H n R :=
  CallA.inlineE IsProg.eq tau_ok0 mix0 Tryd.func43 (by kernel_rfl) (by kernel_rfl) (by kernel_rfl) (by kernel_rfl) hargs h

/- analemma/state.Before -/
noncomputable def code44 : Code := Tryd.f44.body.getD .skip
theorem inl44 {J : Jd} {args : List AV} {H : Heap} {n : Nat} {R : AV → Heap → Nat → Prop} (hargs : args.length ≤ 20) (h : T.prop P gl n (resQ R) (bodyT tau gl J code44 20 [.cell 4 23] args H n)) : CallA P gl 44 args H n R :=
  CallA.inlineE IsProg.eq tau_ok0 mix0 Tryd.func44 (by kernel_rfl) (by kernel_rfl) (by kernel_rfl) (by kernel_rfl) hargs h

/- (analemma/analemmalaw22.Draft).Made -/
noncomputable def code45 : Code := Tryd.f45.body.getD .skip
theorem inl45 {J : Jd} {args : List AV} {H : Heap} {n : Nat} {R : AV → Heap → Nat → Prop} (hargs : args.length ≤ 56) (h : T.prop P gl n (resQ R) (bodyT tau gl J code45 56 [.cell 4 37] args H n)) : CallA P gl 45 args H n R :=
  CallA.inlineE IsProg.eq tau_ok0 mix0 Tryd.func45 (by kernel_rfl) (by kernel_rfl) (by kernel_rfl) (by kernel_rfl) hargs h

/- strings.Cut -/
noncomputable def code46 : Code := Tryd.f46.body.getD .skip
theorem inl46 {J : Jd} {args : List AV} {H : Heap} {n : Nat} {R : AV → Heap → Nat → Prop} (hargs : args.length ≤ 13) (h : T.prop P gl n (resQ R) (bodyT tau gl J code46 13 [.tmp 4, .tmp 5, .tmp 6] args H n)) : CallA P gl 46 args H n R :=
  CallA.inlineE IsProg.eq tau_ok0 mix0 Tryd.func46 (by kernel_rfl) (by kernel_rfl) (by kernel_rfl) (by kernel_rfl) hargs h

/- analemma/analemmaref21.slash -/
noncomputable def code47 : Code := Tryd.f47.body.getD .skip
theorem inl47 {J : Jd} {args : List AV} {H : Heap} {n : Nat} {R : AV → Heap → Nat → Prop} (hargs : args.length ≤ 23) (h : T.prop P gl n (resQ R) (bodyT tau gl J code47 23 [.tmp 2, .tmp 3, .tmp 4] args H n)) : CallA P gl 47 args H n R :=
  CallA.inlineE IsProg.eq tau_ok0 mix0 Tryd.func47 (by kernel_rfl) (by kernel_rfl) (by kernel_rfl) (by kernel_rfl) hargs h

/- analemma/checked.Add -/
noncomputable def code48 : Code := Tryd.f48.body.getD .skip
theorem inl48 {J : Jd} {args : List AV} {H : Heap} {n : Nat} {R : AV → Heap → Nat → Prop} (hargs : args.length ≤ 16) (h : T.prop P gl n (resQ R) (bodyT tau gl J code48 16 [.tmp 4, .tmp 5] args H n)) : CallA P gl 48 args H n R :=
  CallA.inlineE IsProg.eq tau_ok0 mix0 Tryd.func48 (by kernel_rfl) (by kernel_rfl) (by kernel_rfl) (by kernel_rfl) hargs h

/- analemma/numeric.Text -/
noncomputable def code49 : Code := Tryd.f49.body.getD .skip
theorem inl49 {J : Jd} {args : List AV} {H : Heap} {n : Nat} {R : AV → Heap → Nat → Prop} (hargs : args.length ≤ 60) (h : T.prop P gl n (resQ R) (bodyT tau gl J code49 60 [.tmp 2] args H n)) : CallA P gl 49 args H n R :=
  CallA.inlineE IsProg.eq tau_ok0 mix0 Tryd.func49 (by kernel_rfl) (by kernel_rfl) (by kernel_rfl) (by kernel_rfl) hargs h

/- analemma/analemmaref21.letter -/
noncomputable def code50 : Code := Tryd.f50.body.getD .skip
theorem inl50 {J : Jd} {args : List AV} {H : Heap} {n : Nat} {R : AV → Heap → Nat → Prop} (hargs : args.length ≤ 68) (h : T.prop P gl n (resQ R) (bodyT tau gl J code50 68 [.tmp 2, .tmp 3, .tmp 4] args H n)) : CallA P gl 50 args H n R :=
  CallA.inlineE IsProg.eq tau_ok0 mix0 Tryd.func50 (by kernel_rfl) (by kernel_rfl) (by kernel_rfl) (by kernel_rfl) hargs h

/- analemma/analemmaref07.Abbr -/
noncomputable def code51 : Code := Tryd.f51.body.getD .skip
theorem inl51 {J : Jd} {args : List AV} {H : Heap} {n : Nat} {R : AV → Heap → Nat → Prop} (hargs : args.length ≤ 5) (h : T.prop P gl n (resQ R) (bodyT tau gl J code51 5 [.tmp 2] args H n)) : CallA P gl 51 args H n R :=
  CallA.inlineE IsProg.eq tau_ok0 mix0 Tryd.func51 (by kernel_rfl) (by kernel_rfl) (by kernel_rfl) (by kernel_rfl) hargs h

/- analemma/analemmaref20.Text -/
noncomputable def code52 : Code := Tryd.f52.body.getD .skip
theorem inl52 {J : Jd} {args : List AV} {H : Heap} {n : Nat} {R : AV → Heap → Nat → Prop} (hargs : args.length ≤ 38) (h : T.prop P gl n (resQ R) (bodyT tau gl J code52 38 [.tmp 2] args H n)) : CallA P gl 52 args H n R :=
  CallA.inlineE IsProg.eq tau_ok0 mix0 Tryd.func52 (by kernel_rfl) (by kernel_rfl) (by kernel_rfl) (by kernel_rfl) hargs h

/- analemma/format.hasLetter -/
noncomputable def code53 : Code := Tryd.f53.body.getD .skip
theorem inl53 {J : Jd} {args : List AV} {H : Heap} {n : Nat} {R : AV → Heap → Nat → Prop} (hargs : args.length ≤ 29) (h : T.prop P gl n (resQ R) (bodyT tau gl J code53 29 [.tmp 2] args H n)) : CallA P gl 53 args H n R :=
  CallA.inlineE IsProg.eq tau_ok0 mix0 Tryd.func53 (by kernel_rfl) (by kernel_rfl) (by kernel_rfl) (by kernel_rfl) hargs h

/- analemma/format.numerical -/
noncomputable def code54 : Code := Tryd.f54.body.getD .skip
theorem inl54 {J : Jd} {args : List AV} {H : Heap} {n : Nat} {R : AV → Heap → Nat → Prop} (hargs : args.length ≤ 12) (h : T.prop P gl n (resQ R) (bodyT tau gl J code54 12 [.tmp 2] args H n)) : CallA P gl 54 args H n R :=
  CallA.inlineE IsProg.eq tau_ok0 mix0 Tryd.func54 (by kernel_rfl) (by kernel_rfl) (by kernel_rfl) (by kernel_rfl) hargs h

/- analemma/analemmaref21.number -/
noncomputable def code55 : Code := Tryd.f55.body.getD .skip
theorem inl55 {J : Jd} {args : List AV} {H : Heap} {n : Nat} {R : AV → Heap → Nat → Prop} (hargs : args.length ≤ 12) (h : T.prop P gl n (resQ R) (bodyT tau gl J code55 12 [.tmp 2] args H n)) : CallA P gl 55 args H n R :=
  CallA.inlineE IsProg.eq tau_ok0 mix0 Tryd.func55 (by kernel_rfl) (by kernel_rfl) (by kernel_rfl) (by kernel_rfl) hargs h

/- slices.IndexFunc[[]analemma/api.Rule,analemma/api.Rule] -/
noncomputable def code56 : Code := Tryd.f56.body.getD .skip
theorem inl56 {J : Jd} {args : List AV} {H : Heap} {n : Nat} {R : AV → Heap → Nat → Prop} (hargs : args.length ≤ 19) (h : T.prop P gl n (resQ R) (bodyT tau gl J code56 19 [.tmp 4] args H n)) : CallA P gl 56 args H n R :=
  CallA.inlineE IsProg.eq tau_ok0 mix0 Tryd.func56 (by kernel_rfl) (by kernel_rfl) (by kernel_rfl) (by kernel_rfl) hargs h

/- analemma/format.lettersRight -/
noncomputable def code57 : Code := Tryd.f57.body.getD .skip
theorem inl57 {J : Jd} {args : List AV} {H : Heap} {n : Nat} {R : AV → Heap → Nat → Prop} (hargs : args.length ≤ 45) (h : T.prop P gl n (resQ R) (bodyT tau gl J code57 45 [.tmp 4] args H n)) : CallA P gl 57 args H n R :=
  CallA.inlineE IsProg.eq tau_ok0 mix0 Tryd.func57 (by kernel_rfl) (by kernel_rfl) (by kernel_rfl) (by kernel_rfl) hargs h

/- analemma/analemmaref20.Expansion -/
noncomputable def code58 : Code := Tryd.f58.body.getD .skip
theorem inl58 {J : Jd} {args : List AV} {H : Heap} {n : Nat} {R : AV → Heap → Nat → Prop} (hargs : args.length ≤ 75) (h : T.prop P gl n (resQ R) (bodyT tau gl J code58 75 [.tmp 4, .tmp 5] args H n)) : CallA P gl 58 args H n R :=
  CallA.inlineE IsProg.eq tau_ok0 mix0 Tryd.func58 (by kernel_rfl) (by kernel_rfl) (by kernel_rfl) (by kernel_rfl) hargs h

/- (analemma/analemmalaw17.Draft).at -/
noncomputable def code59 : Code := Tryd.f59.body.getD .skip
theorem inl59 {J : Jd} {args : List AV} {H : Heap} {n : Nat} {R : AV → Heap → Nat → Prop} (hargs : args.length ≤ 20) (h : T.prop P gl n (resQ R) (bodyT tau gl J code59 20 [.tmp 6] args H n)) : CallA P gl 59 args H n R :=
  CallA.inlineE IsProg.eq tau_ok0 mix0 Tryd.func59 (by kernel_rfl) (by kernel_rfl) (by kernel_rfl) (by kernel_rfl) hargs h

/- (analemma/analemmalaw17.Draft).clock -/
noncomputable def code60 : Code := Tryd.f60.body.getD .skip
theorem inl60 {J : Jd} {args : List AV} {H : Heap} {n : Nat} {R : AV → Heap → Nat → Prop} (hargs : args.length ≤ 14) (h : T.prop P gl n (resQ R) (bodyT tau gl J code60 14 [.cell 4 35] args H n)) : CallA P gl 60 args H n R :=
  CallA.inlineE IsProg.eq tau_ok0 mix0 Tryd.func60 (by kernel_rfl) (by kernel_rfl) (by kernel_rfl) (by kernel_rfl) hargs h

/- (analemma/analemmalaw17.Draft).pair -/
noncomputable def code61 : Code := Tryd.f61.body.getD .skip
theorem inl61 {J : Jd} {args : List AV} {H : Heap} {n : Nat} {R : AV → Heap → Nat → Prop} (hargs : args.length ≤ 75) (h : T.prop P gl n (resQ R) (bodyT tau gl J code61 75 [.tmp 10] args H n)) : CallA P gl 61 args H n R :=
  CallA.inlineE IsProg.eq tau_ok0 mix0 Tryd.func61 (by kernel_rfl) (by kernel_rfl) (by kernel_rfl) (by kernel_rfl) hargs h

/- analemma/name.letters -/
noncomputable def code62 : Code := Tryd.f62.body.getD .skip
theorem inl62 {J : Jd} {args : List AV} {H : Heap} {n : Nat} {R : AV → Heap → Nat → Prop} (hargs : args.length ≤ 11) (h : T.prop P gl n (resQ R) (bodyT tau gl J code62 11 [.tmp 6] args H n)) : CallA P gl 62 args H n R :=
  CallA.inlineE IsProg.eq tau_ok0 mix0 Tryd.func62 (by kernel_rfl) (by kernel_rfl) (by kernel_rfl) (by kernel_rfl) hargs h

/- strings.Count -/
noncomputable def code63 : Code := Tryd.f63.body.getD .skip
theorem inl63 {J : Jd} {args : List AV} {H : Heap} {n : Nat} {R : AV → Heap → Nat → Prop} (hargs : args.length ≤ 34) (h : T.prop P gl n (resQ R) (bodyT tau gl J code63 34 [.tmp 4] args H n)) : CallA P gl 63 args H n R :=
  CallA.inlineE IsProg.eq tau_ok0 mix0 Tryd.func63 (by kernel_rfl) (by kernel_rfl) (by kernel_rfl) (by kernel_rfl) hargs h

/- (*strings.Builder).Grow -/
noncomputable def code64 : Code := Tryd.f64.body.getD .skip
theorem inl64 {J : Jd} {args : List AV} {H : Heap} {n : Nat} {R : AV → Heap → Nat → Prop} (hargs : args.length ≤ 25) (h : T.prop P gl n (resQ R) (bodyT tau gl J code64 25 [] args H n)) : CallA P gl 64 args H n R :=
  CallA.inlineE IsProg.eq tau_ok0 mix0 Tryd.func64 (by kernel_rfl) (by kernel_rfl) (by kernel_rfl) (by kernel_rfl) hargs h

/- strings.Index -/
noncomputable def code65 : Code := Tryd.f65.body.getD .skip
theorem inl65 {J : Jd} {args : List AV} {H : Heap} {n : Nat} {R : AV → Heap → Nat → Prop} (hargs : args.length ≤ 8) (h : T.prop P gl n (resQ R) (bodyT tau gl J code65 8 [.tmp 4] args H n)) : CallA P gl 65 args H n R :=
  CallA.inlineE IsProg.eq tau_ok0 mix0 Tryd.func65 (by kernel_rfl) (by kernel_rfl) (by kernel_rfl) (by kernel_rfl) hargs h

/- (*strings.Builder).WriteString -/
noncomputable def code66 : Code := Tryd.f66.body.getD .skip
theorem inl66 {J : Jd} {args : List AV} {H : Heap} {n : Nat} {R : AV → Heap → Nat → Prop} (hargs : args.length ≤ 19) (h : T.prop P gl n (resQ R) (bodyT tau gl J code66 19 [.tmp 4, .tmp 5] args H n)) : CallA P gl 66 args H n R :=
  CallA.inlineE IsProg.eq tau_ok0 mix0 Tryd.func66 (by kernel_rfl) (by kernel_rfl) (by kernel_rfl) (by kernel_rfl) hargs h

/- unicode/utf8.DecodeRuneInString -/
noncomputable def code67 : Code := Tryd.f67.body.getD .skip
theorem inl67 {J : Jd} {args : List AV} {H : Heap} {n : Nat} {R : AV → Heap → Nat → Prop} (hargs : args.length ≤ 19) (h : T.prop P gl n (resQ R) (bodyT tau gl J code67 19 [.tmp 2, .tmp 3] args H n)) : CallA P gl 67 args H n R :=
  CallA.inlineE IsProg.eq tau_ok0 mix0 Tryd.func67 (by kernel_rfl) (by kernel_rfl) (by kernel_rfl) (by kernel_rfl) hargs h

/- (*strings.Builder).String -/
noncomputable def code68 : Code := Tryd.f68.body.getD .skip
theorem inl68 {J : Jd} {args : List AV} {H : Heap} {n : Nat} {R : AV → Heap → Nat → Prop} (hargs : args.length ≤ 14) (h : T.prop P gl n (resQ R) (bodyT tau gl J code68 14 [.tmp 2] args H n)) : CallA P gl 68 args H n R :=
  CallA.inlineE IsProg.eq tau_ok0 mix0 Tryd.func68 (by kernel_rfl) (by kernel_rfl) (by kernel_rfl) (by kernel_rfl) hargs h

/- analemma/numeric.join -/
noncomputable def code69 : Code := Tryd.f69.body.getD .skip
theorem inl69 {J : Jd} {args : List AV} {H : Heap} {n : Nat} {R : AV → Heap → Nat → Prop} (hargs : args.length ≤ 17) (h : T.prop P gl n (resQ R) (bodyT tau gl J code69 17 [.tmp 2, .tmp 3] args H n)) : CallA P gl 69 args H n R :=
  CallA.inlineE IsProg.eq tau_ok0 mix0 Tryd.func69 (by kernel_rfl) (by kernel_rfl) (by kernel_rfl) (by kernel_rfl) hargs h

/- analemma/numeric.sum -/
noncomputable def code70 : Code := Tryd.f70.body.getD .skip
theorem inl70 {J : Jd} {args : List AV} {H : Heap} {n : Nat} {R : AV → Heap → Nat → Prop} (hargs : args.length ≤ 17) (h : T.prop P gl n (resQ R) (bodyT tau gl J code70 17 [.tmp 4] args H n)) : CallA P gl 70 args H n R :=
  CallA.inlineE IsProg.eq tau_ok0 mix0 Tryd.func70 (by kernel_rfl) (by kernel_rfl) (by kernel_rfl) (by kernel_rfl) hargs h

/- analemma/ruleset.Other -/
noncomputable def code71 : Code := Tryd.f71.body.getD .skip
theorem inl71 {J : Jd} {args : List AV} {H : Heap} {n : Nat} {R : AV → Heap → Nat → Prop} (hargs : args.length ≤ 30) (h : T.prop P gl n (resQ R) (bodyT tau gl J code71 30 [.tmp 2, .tmp 3] args H n)) : CallA P gl 71 args H n R :=
  CallA.inlineE IsProg.eq tau_ok0 mix0 Tryd.func71 (by kernel_rfl) (by kernel_rfl) (by kernel_rfl) (by kernel_rfl) hargs h

/- analemma/numeric.saved -/
noncomputable def code72 : Code := Tryd.f72.body.getD .skip
theorem inl72 {J : Jd} {args : List AV} {H : Heap} {n : Nat} {R : AV → Heap → Nat → Prop} (hargs : args.length ≤ 15) (h : T.prop P gl n (resQ R) (bodyT tau gl J code72 15 [.tmp 2] args H n)) : CallA P gl 72 args H n R :=
  CallA.inlineE IsProg.eq tau_ok0 mix0 Tryd.func72 (by kernel_rfl) (by kernel_rfl) (by kernel_rfl) (by kernel_rfl) hargs h

/- analemma/until.nominal -/
noncomputable def code73 : Code := Tryd.f73.body.getD .skip
theorem inl73 {J : Jd} {args : List AV} {H : Heap} {n : Nat} {R : AV → Heap → Nat → Prop} (hargs : args.length ≤ 53) (h : T.prop P gl n (resQ R) (bodyT tau gl J code73 53 [.tmp 4, .tmp 5] args H n)) : CallA P gl 73 args H n R :=
  CallA.inlineE IsProg.eq tau_ok0 mix0 Tryd.func73 (by kernel_rfl) (by kernel_rfl) (by kernel_rfl) (by kernel_rfl) hargs h

/- analemma/analemmaref22.seconds -/
noncomputable def code74 : Code := Tryd.f74.body.getD .skip
theorem inl74 {J : Jd} {args : List AV} {H : Heap} {n : Nat} {R : AV → Heap → Nat → Prop} (hargs : args.length ≤ 21) (h : T.prop P gl n (resQ R) (bodyT tau gl J code74 21 [.tmp 2] args H n)) : CallA P gl 74 args H n R :=
  CallA.inlineE IsProg.eq tau_ok0 mix0 Tryd.func74 (by kernel_rfl) (by kernel_rfl) (by kernel_rfl) (by kernel_rfl) hargs h

/- analemma/analemmaref02.On -/
noncomputable def code75 : Code := Tryd.f75.body.getD .skip
theorem inl75 {J : Jd} {args : List AV} {H : Heap} {n : Nat} {R : AV → Heap → Nat → Prop} (hargs : args.length ≤ 84) (h : T.prop P gl n (resQ R) (bodyT tau gl J code75 84 [.tmp 6, .tmp 7] args H n)) : CallA P gl 75 args H n R :=
  CallA.inlineE IsProg.eq tau_ok0 mix0 Tryd.func75 (by kernel_rfl) (by kernel_rfl) (by kernel_rfl) (by kernel_rfl) hargs h

/- analemma/analemmalaw22.end -/
noncomputable def code76 : Code := Tryd.f76.body.getD .skip
theorem inl76 {J : Jd} {args : List AV} {H : Heap} {n : Nat} {R : AV → Heap → Nat → Prop} (hargs : args.length ≤ 19) (h : T.prop P gl n (resQ R) (bodyT tau gl J code76 19 [.cell 10 37] args H n)) : CallA P gl 76 args H n R :=
  CallA.inlineE IsProg.eq tau_ok0 mix0 Tryd.func76 (by kernel_rfl) (by kernel_rfl) (by kernel_rfl) (by kernel_rfl) hargs h

/- analemma/analemmalaw22.ends -/
noncomputable def code77 : Code := Tryd.f77.body.getD .skip
theorem inl77 {J : Jd} {args : List AV} {H : Heap} {n : Nat} {R : AV → Heap → Nat → Prop} (hargs : args.length ≤ 19) (h : T.prop P gl n (resQ R) (bodyT tau gl J code77 19 [.tmp 4] args H n)) : CallA P gl 77 args H n R :=
  CallA.inlineE IsProg.eq tau_ok0 mix0 Tryd.func77 (by kernel_rfl) (by kernel_rfl) (by kernel_rfl) (by kernel_rfl) hargs h

/- analemma/until.moderate -/
noncomputable def code78 : Code := Tryd.f78.body.getD .skip
theorem inl78 {J : Jd} {args : List AV} {H : Heap} {n : Nat} {R : AV → Heap → Nat → Prop} (hargs : args.length ≤ 9) (h : T.prop P gl n (resQ R) (bodyT tau gl J code78 9 [.tmp 2] args H n)) : CallA P gl 78 args H n R :=
  CallA.inlineE IsProg.eq tau_ok0 mix0 Tryd.func78 (by kernel_rfl) (by kernel_rfl) (by kernel_rfl) (by kernel_rfl) hargs h

/- analemma/until.baseSave -/
noncomputable def code79 : Code := Tryd.f79.body.getD .skip
theorem inl79 {J : Jd} {args : List AV} {H : Heap} {n : Nat} {R : AV → Heap → Nat → Prop} (hargs : args.length ≤ 11) (h : T.prop P gl n (resQ R) (bodyT tau gl J code79 11 [.tmp 4] args H n)) : CallA P gl 79 args H n R :=
  CallA.inlineE IsProg.eq tau_ok0 mix0 Tryd.func79 (by kernel_rfl) (by kernel_rfl) (by kernel_rfl) (by kernel_rfl) hargs h

/- analemma/until.saveBefore -/
noncomputable def code80 : Code := Tryd.f80.body.getD .skip
theorem inl80 {J : Jd} {args : List AV} {H : Heap} {n : Nat} {R : AV → Heap → Nat → Prop} (hargs : args.length ≤ 19) (h : T.prop P gl n (resQ R) (bodyT tau gl J code80 19 [.tmp 6] args H n)) : CallA P gl 80 args H n R :=
  CallA.inlineE IsProg.eq tau_ok0 mix0 Tryd.func80 (by kernel_rfl) (by kernel_rfl) (by kernel_rfl) (by kernel_rfl) hargs h

/- analemma/analemmaref22.within -/
noncomputable def code81 : Code := Tryd.f81.body.getD .skip
theorem inl81 {J : Jd} {args : List AV} {H : Heap} {n : Nat} {R : AV → Heap → Nat → Prop} (hargs : args.length ≤ 9) (h : T.prop P gl n (resQ R) (bodyT tau gl J code81 9 [.tmp 2] args H n)) : CallA P gl 81 args H n R :=
  CallA.inlineE IsProg.eq tau_ok0 mix0 Tryd.func81 (by kernel_rfl) (by kernel_rfl) (by kernel_rfl) (by kernel_rfl) hargs h

/- analemma/analemmaref16.Least -/
noncomputable def code82 : Code := Tryd.f82.body.getD .skip
theorem inl82 {J : Jd} {args : List AV} {H : Heap} {n : Nat} {R : AV → Heap → Nat → Prop} (hargs : args.length ≤ 24) (h : T.prop P gl n (resQ R) (bodyT tau gl J code82 24 [.tmp 2] args H n)) : CallA P gl 82 args H n R :=
  CallA.inlineE IsProg.eq tau_ok0 mix0 Tryd.func82 (by kernel_rfl) (by kernel_rfl) (by kernel_rfl) (by kernel_rfl) hargs h

/- analemma/analemmaref19.Before -/
noncomputable def code83 : Code := Tryd.f83.body.getD .skip
theorem inl83 {J : Jd} {args : List AV} {H : Heap} {n : Nat} {R : AV → Heap → Nat → Prop} (hargs : args.length ≤ 20) (h : T.prop P gl n (resQ R) (bodyT tau gl J code83 20 [.cell 4 23] args H n)) : CallA P gl 83 args H n R :=
  CallA.inlineE IsProg.eq tau_ok0 mix0 Tryd.func83 (by kernel_rfl) (by kernel_rfl) (by kernel_rfl) (by kernel_rfl) hargs h

/- analemma/events.Before -/
noncomputable def code84 : Code := Tryd.f84.body.getD .skip
theorem inl84 {J : Jd} {args : List AV} {H : Heap} {n : Nat} {R : AV → Heap → Nat → Prop} (hargs : args.length ≤ 11) (h : T.prop P gl n (resQ R) (bodyT tau gl J code84 11 [.cell 4 121, .tmp 5] args H n)) : CallA P gl 84 args H n R :=
  CallA.inlineE IsProg.eq tau_ok0 mix0 Tryd.func84 (by kernel_rfl) (by kernel_rfl) (by kernel_rfl) (by kernel_rfl) hargs h

/- analemma/state.Initial -/
noncomputable def code85 : Code := Tryd.f85.body.getD .skip
theorem inl85 {J : Jd} {args : List AV} {H : Heap} {n : Nat} {R : AV → Heap → Nat → Prop} (hargs : args.length ≤ 27) (h : T.prop P gl n (resQ R) (bodyT tau gl J code85 27 [.cell 2 23] args H n)) : CallA P gl 85 args H n R :=
  CallA.inlineE IsProg.eq tau_ok0 mix0 Tryd.func85 (by kernel_rfl) (by kernel_rfl) (by kernel_rfl) (by kernel_rfl) hargs h

/- analemma/state.behind -/
noncomputable def code86 : Code := Tryd.f86.body.getD .skip
theorem inl86 {J : Jd} {args : List AV} {H : Heap} {n : Nat} {R : AV → Heap → Nat → Prop} (hargs : args.length ≤ 18) (h : T.prop P gl n (resQ R) (bodyT tau gl J code86 18 [.cell 4 23] args H n)) : CallA P gl 86 args H n R :=
  CallA.inlineE IsProg.eq tau_ok0 mix0 Tryd.func86 (by kernel_rfl) (by kernel_rfl) (by kernel_rfl) (by kernel_rfl) hargs h

/- (analemma/analemmalaw02.Draft).Made -/
noncomputable def code87 : Code := Tryd.f87.body.getD .skip
theorem inl87 {J : Jd} {args : List AV} {H : Heap} {n : Nat} {R : AV → Heap → Nat → Prop} (hargs : args.length ≤ 33) (h : T.prop P gl n (resQ R) (bodyT tau gl J code87 33 [.cell 2 33] args H n)) : CallA P gl 87 args H n R :=
  CallA.inlineE IsProg.eq tau_ok0 mix0 Tryd.func87 (by kernel_rfl) (by kernel_rfl) (by kernel_rfl) (by kernel_rfl) hargs h

/- internal/stringslite.Cut -/
noncomputable def code88 : Code := Tryd.f88.body.getD .skip
theorem inl88 {J : Jd} {args : List AV} {H : Heap} {n : Nat} {R : AV → Heap → Nat → Prop} (hargs : args.length ≤ 23) (h : T.prop P gl n (resQ R) (bodyT tau gl J code88 23 [.tmp 4, .tmp 5, .tmp 6] args H n)) : CallA P gl 88 args H n R :=
  CallA.inlineE IsProg.eq tau_ok0 mix0 Tryd.func88 (by kernel_rfl) (by kernel_rfl) (by kernel_rfl) (by kernel_rfl) hargs h

/- analemma/analemmaref07.letters -/
noncomputable def code89 : Code := Tryd.f89.body.getD .skip
theorem inl89 {J : Jd} {args : List AV} {H : Heap} {n : Nat} {R : AV → Heap → Nat → Prop} (hargs : args.length ≤ 29) (h : T.prop P gl n (resQ R) (bodyT tau gl J code89 29 [.tmp 6] args H n)) : CallA P gl 89 args H n R :=
  CallA.inlineE IsProg.eq tau_ok0 mix0 Tryd.func89 (by kernel_rfl) (by kernel_rfl) (by kernel_rfl) (by kernel_rfl) hargs h

/- analemma/analemmaref04.Two -/
noncomputable def code90 : Code := Tryd.f90.body.getD .skip
theorem inl90 {J : Jd} {args : List AV} {H : Heap} {n : Nat} {R : AV → Heap → Nat → Prop} (hargs : args.length ≤ 10) (h : T.prop P gl n (resQ R) (bodyT tau gl J code90 10 [.tmp 2] args H n)) : CallA P gl 90 args H n R :=
  CallA.inlineE IsProg.eq tau_ok0 mix0 Tryd.func90 (by kernel_rfl) (by kernel_rfl) (by kernel_rfl) (by kernel_rfl) hargs h

/- analemma/format.hasLetter$1 -/
noncomputable def code91 : Code := Tryd.f91.body.getD .skip
theorem inl91 {J : Jd} {args : List AV} {H : Heap} {n : Nat} {R : AV → Heap → Nat → Prop} (hargs : args.length ≤ 17) (h : T.prop P gl n (resQ R) (bodyT tau gl J code91 17 [.tmp 2] args H n)) : CallA P gl 91 args H n R :=
  CallA.inlineE IsProg.eq tau_ok0 mix0 Tryd.func91 (by kernel_rfl) (by kernel_rfl) (by kernel_rfl) (by kernel_rfl) hargs h

/- strings.IndexFunc -/
noncomputable def code92 : Code := Tryd.f92.body.getD .skip
theorem inl92 {J : Jd} {args : List AV} {H : Heap} {n : Nat} {R : AV → Heap → Nat → Prop} (hargs : args.length ≤ 8) (h : T.prop P gl n (resQ R) (bodyT tau gl J code92 8 [.tmp 4] args H n)) : CallA P gl 92 args H n R :=
  CallA.inlineE IsProg.eq tau_ok0 mix0 Tryd.func92 (by kernel_rfl) (by kernel_rfl) (by kernel_rfl) (by kernel_rfl) hargs h

/- analemma/analemmaref20.Parse -/
noncomputable def code93 : Code := Tryd.f93.body.getD .skip
theorem inl93 {J : Jd} {args : List AV} {H : Heap} {n : Nat} {R : AV → Heap → Nat → Prop} (hargs : args.length ≤ 49) (h : T.prop P gl n (resQ R) (bodyT tau gl J code93 49 [.tmp 2, .tmp 3] args H n)) : CallA P gl 93 args H n R :=
  CallA.inlineE IsProg.eq tau_ok0 mix0 Tryd.func93 (by kernel_rfl) (by kernel_rfl) (by kernel_rfl) (by kernel_rfl) hargs h

/- analemma/analemmaref20.sum -/
noncomputable def code94 : Code := Tryd.f94.body.getD .skip
theorem inl94 {J : Jd} {args : List AV} {H : Heap} {n : Nat} {R : AV → Heap → Nat → Prop} (hargs : args.length ≤ 27) (h : T.prop P gl n (resQ R) (bodyT tau gl J code94 27 [.tmp 4] args H n)) : CallA P gl 94 args H n R :=
  CallA.inlineE IsProg.eq tau_ok0 mix0 Tryd.func94 (by kernel_rfl) (by kernel_rfl) (by kernel_rfl) (by kernel_rfl) hargs h

/- analemma/analemmaref16.Other -/
noncomputable def code95 : Code := Tryd.f95.body.getD .skip
theorem inl95 {J : Jd} {args : List AV} {H : Heap} {n : Nat} {R : AV → Heap → Nat → Prop} (hargs : args.length ≤ 45) (h : T.prop P gl n (resQ R) (bodyT tau gl J code95 45 [.tmp 2, .tmp 3] args H n)) : CallA P gl 95 args H n R :=
  CallA.inlineE IsProg.eq tau_ok0 mix0 Tryd.func95 (by kernel_rfl) (by kernel_rfl) (by kernel_rfl) (by kernel_rfl) hargs h

/- (analemma/analemmalaw17.Draft).pair$1 -/
noncomputable def code96 : Code := Tryd.f96.body.getD .skip
theorem inl96 {J : Jd} {args : List AV} {H : Heap} {n : Nat} {R : AV → Heap → Nat → Prop} (hargs : args.length ≤ 31) (h : T.prop P gl n (resQ R) (bodyT tau gl J code96 31 [.cell 3 33] args H n)) : CallA P gl 96 args H n R :=
  CallA.inlineE IsProg.eq tau_ok0 mix0 Tryd.func96 (by kernel_rfl) (by kernel_rfl) (by kernel_rfl) (by kernel_rfl) hargs h

/- analemma/name.all -/
noncomputable def code97 : Code := Tryd.f97.body.getD .skip
theorem inl97 {J : Jd} {args : List AV} {H : Heap} {n : Nat} {R : AV → Heap → Nat → Prop} (hargs : args.length ≤ 44) (h : T.prop P gl n (resQ R) (bodyT tau gl J code97 44 [.tmp 8] args H n)) : CallA P gl 97 args H n R :=
  CallA.inlineE IsProg.eq tau_ok0 mix0 Tryd.func97 (by kernel_rfl) (by kernel_rfl) (by kernel_rfl) (by kernel_rfl) hargs h

/- analemma/name.letters$1 -/
noncomputable def code98 : Code := Tryd.f98.body.getD .skip
theorem inl98 {J : Jd} {args : List AV} {H : Heap} {n : Nat} {R : AV → Heap → Nat → Prop} (hargs : args.length ≤ 9) (h : T.prop P gl n (resQ R) (bodyT tau gl J code98 9 [.tmp 6] args H n)) : CallA P gl 98 args H n R :=
  CallA.inlineE IsProg.eq tau_ok0 mix0 Tryd.func98 (by kernel_rfl) (by kernel_rfl) (by kernel_rfl) (by kernel_rfl) hargs h

/- unicode/utf8.RuneCountInString -/
noncomputable def code99 : Code := Tryd.f99.body.getD .skip
theorem inl99 {J : Jd} {args : List AV} {H : Heap} {n : Nat} {R : AV → Heap → Nat → Prop} (hargs : args.length ≤ 10) (h : T.prop P gl n (resQ R) (bodyT tau gl J code99 10 [.tmp 2] args H n)) : CallA P gl 99 args H n R :=
  CallA.inlineE IsProg.eq tau_ok0 mix0 Tryd.func99 (by kernel_rfl) (by kernel_rfl) (by kernel_rfl) (by kernel_rfl) hargs h

/- (*strings.Builder).copyCheck -/
noncomputable def code101 : Code := Tryd.f101.body.getD .skip
theorem inl101 {J : Jd} {args : List AV} {H : Heap} {n : Nat} {R : AV → Heap → Nat → Prop} (hargs : args.length ≤ 20) (h : T.prop P gl n (resQ R) (bodyT tau gl J code101 20 [] args H n)) : CallA P gl 101 args H n R :=
  CallA.inlineE IsProg.eq tau_ok0 mix0 Tryd.func101 (by kernel_rfl) (by kernel_rfl) (by kernel_rfl) (by kernel_rfl) hargs h

/- (*strings.Builder).grow -/
noncomputable def code102 : Code := Tryd.f102.body.getD .skip
theorem inl102 {J : Jd} {args : List AV} {H : Heap} {n : Nat} {R : AV → Heap → Nat → Prop} (hargs : args.length ≤ 30) (h : T.prop P gl n (resQ R) (bodyT tau gl J code102 30 [] args H n)) : CallA P gl 102 args H n R :=
  CallA.inlineE IsProg.eq tau_ok0 mix0 Tryd.func102 (by kernel_rfl) (by kernel_rfl) (by kernel_rfl) (by kernel_rfl) hargs h

/- internal/stringslite.Index -/
noncomputable def code103 : Code := Tryd.f103.body.getD .skip
theorem inl103 {J : Jd} {args : List AV} {H : Heap} {n : Nat} {R : AV → Heap → Nat → Prop} (hargs : args.length ≤ 143) (h : T.prop P gl n (resQ R) (bodyT tau gl J code103 143 [.tmp 4] args H n)) : CallA P gl 103 args H n R :=
  CallA.inlineE IsProg.eq tau_ok0 mix0 Tryd.func103 (by kernel_rfl) (by kernel_rfl) (by kernel_rfl) (by kernel_rfl) hargs h

/- unicode/utf8.decodeRuneInStringSlow -/
noncomputable def code104 : Code := Tryd.f104.body.getD .skip
theorem inl104 {J : Jd} {args : List AV} {H : Heap} {n : Nat} {R : AV → Heap → Nat → Prop} (hargs : args.length ≤ 117) (h : T.prop P gl n (resQ R) (bodyT tau gl J code104 117 [.tmp 2, .tmp 3] args H n)) : CallA P gl 104 args H n R :=
  CallA.inlineE IsProg.eq tau_ok0 mix0 Tryd.func104 (by kernel_rfl) (by kernel_rfl) (by kernel_rfl) (by kernel_rfl) hargs h

/- strings.Join -/
noncomputable def code105 : Code := Tryd.f105.body.getD .skip
theorem inl105 {J : Jd} {args : List AV} {H : Heap} {n : Nat} {R : AV → Heap → Nat → Prop} (hargs : args.length ≤ 75) (h : T.prop P gl n (resQ R) (bodyT tau gl J code105 75 [.tmp 4] args H n)) : CallA P gl 105 args H n R :=
  CallA.inlineE IsProg.eq tau_ok0 mix0 Tryd.func105 (by kernel_rfl) (by kernel_rfl) (by kernel_rfl) (by kernel_rfl) hargs h

/- analemma/dayform.On -/
noncomputable def code106 : Code := Tryd.f106.body.getD .skip
theorem inl106 {J : Jd} {args : List AV} {H : Heap} {n : Nat} {R : AV → Heap → Nat → Prop} (hargs : args.length ≤ 44) (h : T.prop P gl n (resQ R) (bodyT tau gl J code106 44 [.tmp 6, .tmp 7] args H n)) : CallA P gl 106 args H n R :=
  CallA.inlineE IsProg.eq tau_ok0 mix0 Tryd.func106 (by kernel_rfl) (by kernel_rfl) (by kernel_rfl) (by kernel_rfl) hargs h

/- analemma/number.Named -/
noncomputable def code107 : Code := Tryd.f107.body.getD .skip
theorem inl107 {J : Jd} {args : List AV} {H : Heap} {n : Nat} {R : AV → Heap → Nat → Prop} (hargs : args.length ≤ 9) (h : T.prop P gl n (resQ R) (bodyT tau gl J code107 9 [.tmp 2] args H n)) : CallA P gl 107 args H n R :=
  CallA.inlineE IsProg.eq tau_ok0 mix0 Tryd.func107 (by kernel_rfl) (by kernel_rfl) (by kernel_rfl) (by kernel_rfl) hargs h

/- analemma/clock.Check -/
noncomputable def code108 : Code := Tryd.f108.body.getD .skip
theorem inl108 {J : Jd} {args : List AV} {H : Heap} {n : Nat} {R : AV → Heap → Nat → Prop} (hargs : args.length ≤ 21) (h : T.prop P gl n (resQ R) (bodyT tau gl J code108 21 [.tmp 2] args H n)) : CallA P gl 108 args H n R :=
  CallA.inlineE IsProg.eq tau_ok0 mix0 Tryd.func108 (by kernel_rfl) (by kernel_rfl) (by kernel_rfl) (by kernel_rfl) hargs h

/- analemma/analemmaref02.in -/
noncomputable def code109 : Code := Tryd.f109.body.getD .skip
theorem inl109 {J : Jd} {args : List AV} {H : Heap} {n : Nat} {R : AV → Heap → Nat → Prop} (hargs : args.length ≤ 15) (h : T.prop P gl n (resQ R) (bodyT tau gl J code109 15 [.tmp 6] args H n)) : CallA P gl 109 args H n R :=
  CallA.inlineE IsProg.eq tau_ok0 mix0 Tryd.func109 (by kernel_rfl) (by kernel_rfl) (by kernel_rfl) (by kernel_rfl) hargs h

/- analemma/analemmaref02.Check -/
noncomputable def code110 : Code := Tryd.f110.body.getD .skip
theorem inl110 {J : Jd} {args : List AV} {H : Heap} {n : Nat} {R : AV → Heap → Nat → Prop} (hargs : args.length ≤ 51) (h : T.prop P gl n (resQ R) (bodyT tau gl J code110 51 [.tmp 2] args H n)) : CallA P gl 110 args H n R :=
  CallA.inlineE IsProg.eq tau_ok0 mix0 Tryd.func110 (by kernel_rfl) (by kernel_rfl) (by kernel_rfl) (by kernel_rfl) hargs h

/- analemma/analemmaref01.Len -/
noncomputable def code111 : Code := Tryd.f111.body.getD .skip
theorem inl111 {J : Jd} {args : List AV} {H : Heap} {n : Nat} {R : AV → Heap → Nat → Prop} (hargs : args.length ≤ 23) (h : T.prop P gl n (resQ R) (bodyT tau gl J code111 23 [.tmp 4] args H n)) : CallA P gl 111 args H n R :=
  CallA.inlineE IsProg.eq tau_ok0 mix0 Tryd.func111 (by kernel_rfl) (by kernel_rfl) (by kernel_rfl) (by kernel_rfl) hargs h

/- analemma/analemmaref01.Days -/
noncomputable def code112 : Code := Tryd.f112.body.getD .skip
theorem inl112 {J : Jd} {args : List AV} {H : Heap} {n : Nat} {R : AV → Heap → Nat → Prop} (hargs : args.length ≤ 40) (h : T.prop P gl n (resQ R) (bodyT tau gl J code112 40 [.tmp 6, .tmp 7] args H n)) : CallA P gl 112 args H n R :=
  CallA.inlineE IsProg.eq tau_ok0 mix0 Tryd.func112 (by kernel_rfl) (by kernel_rfl) (by kernel_rfl) (by kernel_rfl) hargs h

/- analemma/analemmaref01.Weekday -/
noncomputable def code113 : Code := Tryd.f113.body.getD .skip
theorem inl113 {J : Jd} {args : List AV} {H : Heap} {n : Nat} {R : AV → Heap → Nat → Prop} (hargs : args.length ≤ 7) (h : T.prop P gl n (resQ R) (bodyT tau gl J code113 7 [.tmp 2] args H n)) : CallA P gl 113 args H n R :=
  CallA.inlineE IsProg.eq tau_ok0 mix0 Tryd.func113 (by kernel_rfl) (by kernel_rfl) (by kernel_rfl) (by kernel_rfl) hargs h

/- analemma/analemmaref17.Before -/
noncomputable def code114 : Code := Tryd.f114.body.getD .skip
theorem inl114 {J : Jd} {args : List AV} {H : Heap} {n : Nat} {R : AV → Heap → Nat → Prop} (hargs : args.length ≤ 62) (h : T.prop P gl n (resQ R) (bodyT tau gl J code114 62 [.cell 4 121, .tmp 5] args H n)) : CallA P gl 114 args H n R :=
  CallA.inlineE IsProg.eq tau_ok0 mix0 Tryd.func114 (by kernel_rfl) (by kernel_rfl) (by kernel_rfl) (by kernel_rfl) hargs h

/- analemma/analemmaref19.Initial -/
noncomputable def code115 : Code := Tryd.f115.body.getD .skip
theorem inl115 {J : Jd} {args : List AV} {H : Heap} {n : Nat} {R : AV → Heap → Nat → Prop} (hargs : args.length ≤ 33) (h : T.prop P gl n (resQ R) (bodyT tau gl J code115 33 [.cell 2 23] args H n)) : CallA P gl 115 args H n R :=
  CallA.inlineE IsProg.eq tau_ok0 mix0 Tryd.func115 (by kernel_rfl) (by kernel_rfl) (by kernel_rfl) (by kernel_rfl) hargs h

/- analemma/analemmaref19.state -/
noncomputable def code116 : Code := Tryd.f116.body.getD .skip
theorem inl116 {J : Jd} {args : List AV} {H : Heap} {n : Nat} {R : AV → Heap → Nat → Prop} (hargs : args.length ≤ 18) (h : T.prop P gl n (resQ R) (bodyT tau gl J code116 18 [.cell 4 23] args H n)) : CallA P gl 116 args H n R :=
  CallA.inlineE IsProg.eq tau_ok0 mix0 Tryd.func116 (by kernel_rfl) (by kernel_rfl) (by kernel_rfl) (by kernel_rfl) hargs h

/- analemma/events.nearest[analemma/events.backward] -/
noncomputable def code117 : Code := Tryd.f117.body.getD .skip
theorem inl117 {J : Jd} {args : List AV} {H : Heap} {n : Nat} {R : AV → Heap → Nat → Prop} (hargs : args.length ≤ 91) (h : T.prop P gl n (resQ R) (bodyT tau gl J code117 91 [.cell 4 121, .tmp 5] args H n)) : CallA P gl 117 args H n R :=
  CallA.inlineE IsProg.eq tau_ok0 mix0 Tryd.func117 (by kernel_rfl) (by kernel_rfl) (by kernel_rfl) (by kernel_rfl) hargs h

/- analemma/state.earliest -/
noncomputable def code118 : Code := Tryd.f118.body.getD .skip
theorem inl118 {J : Jd} {args : List AV} {H : Heap} {n : Nat} {R : AV → Heap → Nat → Prop} (hargs : args.length ≤ 31) (h : T.prop P gl n (resQ R) (bodyT tau gl J code118 31 [.cell 4 121, .cell 5 4] args H n)) : CallA P gl 118 args H n R :=
  CallA.inlineE IsProg.eq tau_ok0 mix0 Tryd.func118 (by kernel_rfl) (by kernel_rfl) (by kernel_rfl) (by kernel_rfl) hargs h

/- analemma/state.Initial$1 -/
noncomputable def code119 : Code := Tryd.f119.body.getD .skip
theorem inl119 {J : Jd} {args : List AV} {H : Heap} {n : Nat} {R : AV → Heap → Nat → Prop} (hargs : args.length ≤ 3) (h : T.prop P gl n (resQ R) (bodyT tau gl J code119 3 [.tmp 2] args H n)) : CallA P gl 119 args H n R :=
  CallA.inlineE IsProg.eq tau_ok0 mix0 Tryd.func119 (by kernel_rfl) (by kernel_rfl) (by kernel_rfl) (by kernel_rfl) hargs h

/- analemma/state.Initial$2 -/
noncomputable def code120 : Code := Tryd.f120.body.getD .skip
theorem inl120 {J : Jd} {args : List AV} {H : Heap} {n : Nat} {R : AV → Heap → Nat → Prop} (hargs : args.length ≤ 14) (h : T.prop P gl n (resQ R) (bodyT tau gl J code120 14 [.tmp 4] args H n)) : CallA P gl 120 args H n R :=
  CallA.inlineE IsProg.eq tau_ok0 mix0 Tryd.func120 (by kernel_rfl) (by kernel_rfl) (by kernel_rfl) (by kernel_rfl) hargs h

/- analemma/analemmalaw02.fixed -/
noncomputable def code121 : Code := Tryd.f121.body.getD .skip
theorem inl121 {J : Jd} {args : List AV} {H : Heap} {n : Nat} {R : AV → Heap → Nat → Prop} (hargs : args.length ≤ 5) (h : T.prop P gl n (resQ R) (bodyT tau gl J code121 5 [.cell 2 33] args H n)) : CallA P gl 121 args H n R :=
  CallA.inlineE IsProg.eq tau_ok0 mix0 Tryd.func121 (by kernel_rfl) (by kernel_rfl) (by kernel_rfl) (by kernel_rfl) hargs h

/- analemma/analemmalaw02.last -/
noncomputable def code122 : Code := Tryd.f122.body.getD .skip
theorem inl122 {J : Jd} {args : List AV} {H : Heap} {n : Nat} {R : AV → Heap → Nat → Prop} (hargs : args.length ≤ 5) (h : T.prop P gl n (resQ R) (bodyT tau gl J code122 5 [.cell 2 33] args H n)) : CallA P gl 122 args H n R :=
  CallA.inlineE IsProg.eq tau_ok0 mix0 Tryd.func122 (by kernel_rfl) (by kernel_rfl) (by kernel_rfl) (by kernel_rfl) hargs h

/- analemma/analemmalaw02.from -/
noncomputable def code123 : Code := Tryd.f123.body.getD .skip
theorem inl123 {J : Jd} {args : List AV} {H : Heap} {n : Nat} {R : AV → Heap → Nat → Prop} (hargs : args.length ≤ 8) (h : T.prop P gl n (resQ R) (bodyT tau gl J code123 8 [.cell 4 33] args H n)) : CallA P gl 123 args H n R :=
  CallA.inlineE IsProg.eq tau_ok0 mix0 Tryd.func123 (by kernel_rfl) (by kernel_rfl) (by kernel_rfl) (by kernel_rfl) hargs h

/- analemma/analemmalaw02.to -/
noncomputable def code124 : Code := Tryd.f124.body.getD .skip
theorem inl124 {J : Jd} {args : List AV} {H : Heap} {n : Nat} {R : AV → Heap → Nat → Prop} (hargs : args.length ≤ 8) (h : T.prop P gl n (resQ R) (bodyT tau gl J code124 8 [.cell 4 33] args H n)) : CallA P gl 124 args H n R :=
  CallA.inlineE IsProg.eq tau_ok0 mix0 Tryd.func124 (by kernel_rfl) (by kernel_rfl) (by kernel_rfl) (by kernel_rfl) hargs h

/- analemma/analemmaref07.letter -/
noncomputable def code125 : Code := Tryd.f125.body.getD .skip
theorem inl125 {J : Jd} {args : List AV} {H : Heap} {n : Nat} {R : AV → Heap → Nat → Prop} (hargs : args.length ≤ 17) (h : T.prop P gl n (resQ R) (bodyT tau gl J code125 17 [.tmp 2] args H n)) : CallA P gl 125 args H n R :=
  CallA.inlineE IsProg.eq tau_ok0 mix0 Tryd.func125 (by kernel_rfl) (by kernel_rfl) (by kernel_rfl) (by kernel_rfl) hargs h

/- analemma/analemmaref04.Decimal -/
noncomputable def code126 : Code := Tryd.f126.body.getD .skip
theorem inl126 {J : Jd} {args : List AV} {H : Heap} {n : Nat} {R : AV → Heap → Nat → Prop} (hargs : args.length ≤ 16) (h : T.prop P gl n (resQ R) (bodyT tau gl J code126 16 [.tmp 2] args H n)) : CallA P gl 126 args H n R :=
  CallA.inlineE IsProg.eq tau_ok0 mix0 Tryd.func126 (by kernel_rfl) (by kernel_rfl) (by kernel_rfl) (by kernel_rfl) hargs h

/- strings.indexFunc -/
noncomputable def code127 : Code := Tryd.f127.body.getD .skip
theorem inl127 {J : Jd} {args : List AV} {H : Heap} {n : Nat} {R : AV → Heap → Nat → Prop} (hargs : args.length ≤ 21) (h : T.prop P gl n (resQ R) (bodyT tau gl J code127 21 [.tmp 6] args H n)) : CallA P gl 127 args H n R :=
  CallA.inlineE IsProg.eq tau_ok0 mix0 Tryd.func127 (by kernel_rfl) (by kernel_rfl) (by kernel_rfl) (by kernel_rfl) hargs h

/- analemma/analemmaref20.two -/
noncomputable def code128 : Code := Tryd.f128.body.getD .skip
theorem inl128 {J : Jd} {args : List AV} {H : Heap} {n : Nat} {R : AV → Heap → Nat → Prop} (hargs : args.length ≤ 49) (h : T.prop P gl n (resQ R) (bodyT tau gl J code128 49 [.tmp 4] args H n)) : CallA P gl 128 args H n R :=
  CallA.inlineE IsProg.eq tau_ok0 mix0 Tryd.func128 (by kernel_rfl) (by kernel_rfl) (by kernel_rfl) (by kernel_rfl) hargs h

/- internal/stringslite.IndexByte -/
noncomputable def code131 : Code := Tryd.f131.body.getD .skip
theorem inl131 {J : Jd} {args : List AV} {H : Heap} {n : Nat} {R : AV → Heap → Nat → Prop} (hargs : args.length ≤ 8) (h : T.prop P gl n (resQ R) (bodyT tau gl J code131 8 [.tmp 4] args H n)) : CallA P gl 131 args H n R :=
  CallA.inlineE IsProg.eq tau_ok0 mix0 Tryd.func131 (by kernel_rfl) (by kernel_rfl) (by kernel_rfl) (by kernel_rfl) hargs h

/- internal/bytealg.Cutover -/
noncomputable def code133 : Code := Tryd.f133.body.getD .skip
theorem inl133 {J : Jd} {args : List AV} {H : Heap} {n : Nat} {R : AV → Heap → Nat → Prop} (hargs : args.length ≤ 6) (h : T.prop P gl n (resQ R) (bodyT tau gl J code133 6 [.tmp 2] args H n)) : CallA P gl 133 args H n R :=
  CallA.inlineE IsProg.eq tau_ok0 mix0 Tryd.func133 (by kernel_rfl) (by kernel_rfl) (by kernel_rfl) (by kernel_rfl) hargs h

/- internal/bytealg.IndexRabinKarp[string] -/
noncomputable def code134 : Code := Tryd.f134.body.getD .skip
theorem inl134 {J : Jd} {args : List AV} {H : Heap} {n : Nat} {R : AV → Heap → Nat → Prop} (hargs : args.length ≤ 81) (h : T.prop P gl n (resQ R) (bodyT tau gl J code134 81 [.tmp 4] args H n)) : CallA P gl 134 args H n R :=
  CallA.inlineE IsProg.eq tau_ok0 mix0 Tryd.func134 (by kernel_rfl) (by kernel_rfl) (by kernel_rfl) (by kernel_rfl) hargs h

/- analemma/civil.Days -/
noncomputable def code135 : Code := Tryd.f135.body.getD .skip
theorem inl135 {J : Jd} {args : List AV} {H : Heap} {n : Nat} {R : AV → Heap → Nat → Prop} (hargs : args.length ≤ 60) (h : T.prop P gl n (resQ R) (bodyT tau gl J code135 60 [.tmp 6, .tmp 7] args H n)) : CallA P gl 135 args H n R :=
  CallA.inlineE IsProg.eq tau_ok0 mix0 Tryd.func135 (by kernel_rfl) (by kernel_rfl) (by kernel_rfl) (by kernel_rfl) hargs h

/- analemma/dayform.find -/
noncomputable def code136 : Code := Tryd.f136.body.getD .skip
theorem inl136 {J : Jd} {args : List AV} {H : Heap} {n : Nat} {R : AV → Heap → Nat → Prop} (hargs : args.length ≤ 65) (h : T.prop P gl n (resQ R) (bodyT tau gl J code136 65 [.cell 2 163, .tmp 3] args H n)) : CallA P gl 136 args H n R :=
  CallA.inlineE IsProg.eq tau_ok0 mix0 Tryd.func136 (by kernel_rfl) (by kernel_rfl) (by kernel_rfl) (by kernel_rfl) hargs h

/- analemma/civil.Len -/
noncomputable def code137 : Code := Tryd.f137.body.getD .skip
theorem inl137 {J : Jd} {args : List AV} {H : Heap} {n : Nat} {R : AV → Heap → Nat → Prop} (hargs : args.length ≤ 29) (h : T.prop P gl n (resQ R) (bodyT tau gl J code137 29 [.tmp 4] args H n)) : CallA P gl 137 args H n R :=
  CallA.inlineE IsProg.eq tau_ok0 mix0 Tryd.func137 (by kernel_rfl) (by kernel_rfl) (by kernel_rfl) (by kernel_rfl) hargs h

/- analemma/analemmaref01.Leap -/
noncomputable def code138 : Code := Tryd.f138.body.getD .skip
theorem inl138 {J : Jd} {args : List AV} {H : Heap} {n : Nat} {R : AV → Heap → Nat → Prop} (hargs : args.length ≤ 16) (h : T.prop P gl n (resQ R) (bodyT tau gl J code138 16 [.tmp 2] args H n)) : CallA P gl 138 args H n R :=
  CallA.inlineE IsProg.eq tau_ok0 mix0 Tryd.func138 (by kernel_rfl) (by kernel_rfl) (by kernel_rfl) (by kernel_rfl) hargs h

/- analemma/analemmaref01.in -/
noncomputable def code139 : Code := Tryd.f139.body.getD .skip
theorem inl139 {J : Jd} {args : List AV} {H : Heap} {n : Nat} {R : AV → Heap → Nat → Prop} (hargs : args.length ≤ 9) (h : T.prop P gl n (resQ R) (bodyT tau gl J code139 9 [.tmp 2] args H n)) : CallA P gl 139 args H n R :=
  CallA.inlineE IsProg.eq tau_ok0 mix0 Tryd.func139 (by kernel_rfl) (by kernel_rfl) (by kernel_rfl) (by kernel_rfl) hargs h

/- analemma/analemmaref01.first -/
noncomputable def code140 : Code := Tryd.f140.body.getD .skip
theorem inl140 {J : Jd} {args : List AV} {H : Heap} {n : Nat} {R : AV → Heap → Nat → Prop} (hargs : args.length ≤ 23) (h : T.prop P gl n (resQ R) (bodyT tau gl J code140 23 [.tmp 2] args H n)) : CallA P gl 140 args H n R :=
  CallA.inlineE IsProg.eq tau_ok0 mix0 Tryd.func140 (by kernel_rfl) (by kernel_rfl) (by kernel_rfl) (by kernel_rfl) hargs h

/- analemma/analemmaref17.near -/
noncomputable def code141 : Code := Tryd.f141.body.getD .skip
theorem inl141 {J : Jd} {args : List AV} {H : Heap} {n : Nat} {R : AV → Heap → Nat → Prop} (hargs : args.length ≤ 38) (h : T.prop P gl n (resQ R) (bodyT tau gl J code141 38 [.tmp 6, .tmp 7] args H n)) : CallA P gl 141 args H n R :=
  CallA.inlineE IsProg.eq tau_ok0 mix0 Tryd.func141 (by kernel_rfl) (by kernel_rfl) (by kernel_rfl) (by kernel_rfl) hargs h

/- analemma/analemmaref01.Year -/
noncomputable def code142 : Code := Tryd.f142.body.getD .skip
theorem inl142 {J : Jd} {args : List AV} {H : Heap} {n : Nat} {R : AV → Heap → Nat → Prop} (hargs : args.length ≤ 16) (h : T.prop P gl n (resQ R) (bodyT tau gl J code142 16 [.tmp 2] args H n)) : CallA P gl 142 args H n R :=
  CallA.inlineE IsProg.eq tau_ok0 mix0 Tryd.func142 (by kernel_rfl) (by kernel_rfl) (by kernel_rfl) (by kernel_rfl) hargs h

/- analemma/analemmaref17.On -/
noncomputable def code143 : Code := Tryd.f143.body.getD .skip
theorem inl143 {J : Jd} {args : List AV} {H : Heap} {n : Nat} {R : AV → Heap → Nat → Prop} (hargs : args.length ≤ 85) (h : T.prop P gl n (resQ R) (bodyT tau gl J code143 85 [.cell 6 121, .tmp 7] args H n)) : CallA P gl 143 args H n R :=
  CallA.inlineE IsProg.eq tau_ok0 mix0 Tryd.func143 (by kernel_rfl) (by kernel_rfl) (by kernel_rfl) (by kernel_rfl) hargs h

/- analemma/analemmaref17.less -/
noncomputable def code144 : Code := Tryd.f144.body.getD .skip
theorem inl144 {J : Jd} {args : List AV} {H : Heap} {n : Nat} {R : AV → Heap → Nat → Prop} (hargs : args.length ≤ 30) (h : T.prop P gl n (resQ R) (bodyT tau gl J code144 30 [.tmp 4] args H n)) : CallA P gl 144 args H n R :=
  CallA.inlineE IsProg.eq tau_ok0 mix0 Tryd.func144 (by kernel_rfl) (by kernel_rfl) (by kernel_rfl) (by kernel_rfl) hargs h

/- analemma/analemmaref19.least -/
noncomputable def code145 : Code := Tryd.f145.body.getD .skip
theorem inl145 {J : Jd} {args : List AV} {H : Heap} {n : Nat} {R : AV → Heap → Nat → Prop} (hargs : args.length ≤ 53) (h : T.prop P gl n (resQ R) (bodyT tau gl J code145 53 [.cell 6 121, .tmp 7] args H n)) : CallA P gl 145 args H n R :=
  CallA.inlineE IsProg.eq tau_ok0 mix0 Tryd.func145 (by kernel_rfl) (by kernel_rfl) (by kernel_rfl) (by kernel_rfl) hargs h

/- analemma/events.baseSave -/
noncomputable def code146 : Code := Tryd.f146.body.getD .skip
theorem inl146 {J : Jd} {args : List AV} {H : Heap} {n : Nat} {R : AV → Heap → Nat → Prop} (hargs : args.length ≤ 6) (h : T.prop P gl n (resQ R) (bodyT tau gl J code146 6 [.tmp 2] args H n)) : CallA P gl 146 args H n R :=
  CallA.inlineE IsProg.eq tau_ok0 mix0 Tryd.func146 (by kernel_rfl) (by kernel_rfl) (by kernel_rfl) (by kernel_rfl) hargs h

/- analemma/civil.Year -/
noncomputable def code147 : Code := Tryd.f147.body.getD .skip
theorem inl147 {J : Jd} {args : List AV} {H : Heap} {n : Nat} {R : AV → Heap → Nat → Prop} (hargs : args.length ≤ 20) (h : T.prop P gl n (resQ R) (bodyT tau gl J code147 20 [.tmp 2] args H n)) : CallA P gl 147 args H n R :=
  CallA.inlineE IsProg.eq tau_ok0 mix0 Tryd.func147 (by kernel_rfl) (by kernel_rfl) (by kernel_rfl) (by kernel_rfl) hargs h

/- analemma/events.years -/
noncomputable def code148 : Code := Tryd.f148.body.getD .skip
theorem inl148 {J : Jd} {args : List AV} {H : Heap} {n : Nat} {R : AV → Heap → Nat → Prop} (hargs : args.length ≤ 22) (h : T.prop P gl n (resQ R) (bodyT tau gl J code148 22 [.tmp 2, .tmp 3] args H n)) : CallA P gl 148 args H n R :=
  CallA.inlineE IsProg.eq tau_ok0 mix0 Tryd.func148 (by kernel_rfl) (by kernel_rfl) (by kernel_rfl) (by kernel_rfl) hargs h

/- analemma/events.ofRule[analemma/events.backward] -/
noncomputable def code149 : Code := Tryd.f149.body.getD .skip
theorem inl149 {J : Jd} {args : List AV} {H : Heap} {n : Nat} {R : AV → Heap → Nat → Prop} (hargs : args.length ≤ 58) (h : T.prop P gl n (resQ R) (bodyT tau gl J code149 58 [.cell 10 121, .tmp 11] args H n)) : CallA P gl 149 args H n R :=
  CallA.inlineE IsProg.eq tau_ok0 mix0 Tryd.func149 (by kernel_rfl) (by kernel_rfl) (by kernel_rfl) (by kernel_rfl) hargs h

/- analemma/events.compare -/
noncomputable def code150 : Code := Tryd.f150.body.getD .skip
theorem inl150 {J : Jd} {args : List AV} {H : Heap} {n : Nat} {R : AV → Heap → Nat → Prop} (hargs : args.length ≤ 22) (h : T.prop P gl n (resQ R) (bodyT tau gl J code150 22 [.tmp 4] args H n)) : CallA P gl 150 args H n R :=
  CallA.inlineE IsProg.eq tau_ok0 mix0 Tryd.func150 (by kernel_rfl) (by kernel_rfl) (by kernel_rfl) (by kernel_rfl) hargs h

/- analemma/state.firsts -/
noncomputable def code151 : Code := Tryd.f151.body.getD .skip
theorem inl151 {J : Jd} {args : List AV} {H : Heap} {n : Nat} {R : AV → Heap → Nat → Prop} (hargs : args.length ≤ 4) (h : T.prop P gl n (resQ R) (bodyT tau gl J code151 4 [.tmp 2] args H n)) : CallA P gl 151 args H n R :=
  CallA.inlineE IsProg.eq tau_ok0 mix0 Tryd.func151 (by kernel_rfl) (by kernel_rfl) (by kernel_rfl) (by kernel_rfl) hargs h

/- internal/bytealg.hashStr[string] -/
noncomputable def code153 : Code := Tryd.f153.body.getD .skip
theorem inl153 {J : Jd} {args : List AV} {H : Heap} {n : Nat} {R : AV → Heap → Nat → Prop} (hargs : args.length ≤ 39) (h : T.prop P gl n (resQ R) (bodyT tau gl J code153 39 [.tmp 2, .tmp 3] args H n)) : CallA P gl 153 args H n R :=
  CallA.inlineE IsProg.eq tau_ok0 mix0 Tryd.func153 (by kernel_rfl) (by kernel_rfl) (by kernel_rfl) (by kernel_rfl) hargs h

/- analemma/civil.floor -/
noncomputable def code154 : Code := Tryd.f154.body.getD .skip
theorem inl154 {J : Jd} {args : List AV} {H : Heap} {n : Nat} {R : AV → Heap → Nat → Prop} (hargs : args.length ≤ 16) (h : T.prop P gl n (resQ R) (bodyT tau gl J code154 16 [.tmp 4] args H n)) : CallA P gl 154 args H n R :=
  CallA.inlineE IsProg.eq tau_ok0 mix0 Tryd.func154 (by kernel_rfl) (by kernel_rfl) (by kernel_rfl) (by kernel_rfl) hargs h

/- analemma/civil.Leap -/
noncomputable def code155 : Code := Tryd.f155.body.getD .skip
theorem inl155 {J : Jd} {args : List AV} {H : Heap} {n : Nat} {R : AV → Heap → Nat → Prop} (hargs : args.length ≤ 16) (h : T.prop P gl n (resQ R) (bodyT tau gl J code155 16 [.tmp 2] args H n)) : CallA P gl 155 args H n R :=
  CallA.inlineE IsProg.eq tau_ok0 mix0 Tryd.func155 (by kernel_rfl) (by kernel_rfl) (by kernel_rfl) (by kernel_rfl) hargs h

/- analemma/dayform.kinds -/
noncomputable def code156 : Code := Tryd.f156.body.getD .skip
theorem inl156 {J : Jd} {args : List AV} {H : Heap} {n : Nat} {R : AV → Heap → Nat → Prop} (hargs : args.length ≤ 6) (h : T.prop P gl n (resQ R) (bodyT tau gl J code156 6 [.cell 0 185] args H n)) : CallA P gl 156 args H n R :=
  CallA.inlineE IsProg.eq tau_ok0 mix0 Tryd.func156 (by kernel_rfl) (by kernel_rfl) (by kernel_rfl) (by kernel_rfl) hargs h

/- analemma/analemmaref01.floor -/
noncomputable def code157 : Code := Tryd.f157.body.getD .skip
theorem inl157 {J : Jd} {args : List AV} {H : Heap} {n : Nat} {R : AV → Heap → Nat → Prop} (hargs : args.length ≤ 16) (h : T.prop P gl n (resQ R) (bodyT tau gl J code157 16 [.tmp 4] args H n)) : CallA P gl 157 args H n R :=
  CallA.inlineE IsProg.eq tau_ok0 mix0 Tryd.func157 (by kernel_rfl) (by kernel_rfl) (by kernel_rfl) (by kernel_rfl) hargs h

/- analemma/analemmaref01.size -/
noncomputable def code158 : Code := Tryd.f158.body.getD .skip
theorem inl158 {J : Jd} {args : List AV} {H : Heap} {n : Nat} {R : AV → Heap → Nat → Prop} (hargs : args.length ≤ 5) (h : T.prop P gl n (resQ R) (bodyT tau gl J code158 5 [.tmp 2] args H n)) : CallA P gl 158 args H n R :=
  CallA.inlineE IsProg.eq tau_ok0 mix0 Tryd.func158 (by kernel_rfl) (by kernel_rfl) (by kernel_rfl) (by kernel_rfl) hargs h

/- analemma/analemmaref01.year -/
noncomputable def code159 : Code := Tryd.f159.body.getD .skip
theorem inl159 {J : Jd} {args : List AV} {H : Heap} {n : Nat} {R : AV → Heap → Nat → Prop} (hargs : args.length ≤ 28) (h : T.prop P gl n (resQ R) (bodyT tau gl J code159 28 [.tmp 2, .tmp 3] args H n)) : CallA P gl 159 args H n R :=
  CallA.inlineE IsProg.eq tau_ok0 mix0 Tryd.func159 (by kernel_rfl) (by kernel_rfl) (by kernel_rfl) (by kernel_rfl) hargs h

/- analemma/analemmaref06.Check -/
noncomputable def code160 : Code := Tryd.f160.body.getD .skip
theorem inl160 {J : Jd} {args : List AV} {H : Heap} {n : Nat} {R : AV → Heap → Nat → Prop} (hargs : args.length ≤ 21) (h : T.prop P gl n (resQ R) (bodyT tau gl J code160 21 [.tmp 2] args H n)) : CallA P gl 160 args H n R :=
  CallA.inlineE IsProg.eq tau_ok0 mix0 Tryd.func160 (by kernel_rfl) (by kernel_rfl) (by kernel_rfl) (by kernel_rfl) hargs h

/- analemma/analemmaref17.base -/
noncomputable def code161 : Code := Tryd.f161.body.getD .skip
theorem inl161 {J : Jd} {args : List AV} {H : Heap} {n : Nat} {R : AV → Heap → Nat → Prop} (hargs : args.length ≤ 9) (h : T.prop P gl n (resQ R) (bodyT tau gl J code161 9 [.tmp 2] args H n)) : CallA P gl 161 args H n R :=
  CallA.inlineE IsProg.eq tau_ok0 mix0 Tryd.func161 (by kernel_rfl) (by kernel_rfl) (by kernel_rfl) (by kernel_rfl) hargs h

/- analemma/analemmaref19.own -/
noncomputable def code162 : Code := Tryd.f162.body.getD .skip
theorem inl162 {J : Jd} {args : List AV} {H : Heap} {n : Nat} {R : AV → Heap → Nat → Prop} (hargs : args.length ≤ 37) (h : T.prop P gl n (resQ R) (bodyT tau gl J code162 37 [.cell 4 121, .tmp 5] args H n)) : CallA P gl 162 args H n R :=
  CallA.inlineE IsProg.eq tau_ok0 mix0 Tryd.func162 (by kernel_rfl) (by kernel_rfl) (by kernel_rfl) (by kernel_rfl) hargs h

/- analemma/civil.Date -/
noncomputable def code163 : Code := Tryd.f163.body.getD .skip
theorem inl163 {J : Jd} {args : List AV} {H : Heap} {n : Nat} {R : AV → Heap → Nat → Prop} (hargs : args.length ≤ 64) (h : T.prop P gl n (resQ R) (bodyT tau gl J code163 64 [.tmp 2, .tmp 3, .tmp 4, .tmp 5] args H n)) : CallA P gl 163 args H n R :=
  CallA.inlineE IsProg.eq tau_ok0 mix0 Tryd.func163 (by kernel_rfl) (by kernel_rfl) (by kernel_rfl) (by kernel_rfl) hargs h

/- analemma/events.event -/
noncomputable def code164 : Code := Tryd.f164.body.getD .skip
theorem inl164 {J : Jd} {args : List AV} {H : Heap} {n : Nat} {R : AV → Heap → Nat → Prop} (hargs : args.length ≤ 74) (h : T.prop P gl n (resQ R) (bodyT tau gl J code164 74 [.cell 8 121, .tmp 9] args H n)) : CallA P gl 164 args H n R :=
  CallA.inlineE IsProg.eq tau_ok0 mix0 Tryd.func164 (by kernel_rfl) (by kernel_rfl) (by kernel_rfl) (by kernel_rfl) hargs h

/- cmp.Compare[int64] -/
noncomputable def code165 : Code := Tryd.f165.body.getD .skip
theorem inl165 {J : Jd} {args : List AV} {H : Heap} {n : Nat} {R : AV → Heap → Nat → Prop} (hargs : args.length ≤ 20) (h : T.prop P gl n (resQ R) (bodyT tau gl J code165 20 [.tmp 4] args H n)) : CallA P gl 165 args H n R :=
  CallA.inlineE IsProg.eq tau_ok0 mix0 Tryd.func165 (by kernel_rfl) (by kernel_rfl) (by kernel_rfl) (by kernel_rfl) hargs h

/- cmp.Or[int] -/
noncomputable def code166 : Code := Tryd.f166.body.getD .skip
theorem inl166 {J : Jd} {args : List AV} {H : Heap} {n : Nat} {R : AV → Heap → Nat → Prop} (hargs : args.length ≤ 18) (h : T.prop P gl n (resQ R) (bodyT tau gl J code166 18 [.tmp 2] args H n)) : CallA P gl 166 args H n R :=
  CallA.inlineE IsProg.eq tau_ok0 mix0 Tryd.func166 (by kernel_rfl) (by kernel_rfl) (by kernel_rfl) (by kernel_rfl) hargs h

/- cmp.Compare[int] -/
noncomputable def code167 : Code := Tryd.f167.body.getD .skip
theorem inl167 {J : Jd} {args : List AV} {H : Heap} {n : Nat} {R : AV → Heap → Nat → Prop} (hargs : args.length ≤ 20) (h : T.prop P gl n (resQ R) (bodyT tau gl J code167 20 [.tmp 4] args H n)) : CallA P gl 167 args H n R :=
  CallA.inlineE IsProg.eq tau_ok0 mix0 Tryd.func167 (by kernel_rfl) (by kernel_rfl) (by kernel_rfl) (by kernel_rfl) hargs h

/- analemma/state.firsts$1 -/
noncomputable def code168 : Code := Tryd.f168.body.getD .skip
theorem inl168 {J : Jd} {args : List AV} {H : Heap} {n : Nat} {R : AV → Heap → Nat → Prop} (hargs : args.length ≤ 35) (h : T.prop P gl n (resQ R) (bodyT tau gl J code168 35 [] args H n)) : CallA P gl 168 args H n R :=
  CallA.inlineE IsProg.eq tau_ok0 mix0 Tryd.func168 (by kernel_rfl) (by kernel_rfl) (by kernel_rfl) (by kernel_rfl) hargs h

/- analemma/state.baseSave -/
noncomputable def code169 : Code := Tryd.f169.body.getD .skip
theorem inl169 {J : Jd} {args : List AV} {H : Heap} {n : Nat} {R : AV → Heap → Nat → Prop} (hargs : args.length ≤ 19) (h : T.prop P gl n (resQ R) (bodyT tau gl J code169 19 [.tmp 2] args H n)) : CallA P gl 169 args H n R :=
  CallA.inlineE IsProg.eq tau_ok0 mix0 Tryd.func169 (by kernel_rfl) (by kernel_rfl) (by kernel_rfl) (by kernel_rfl) hargs h

/- analemma/events.After -/
noncomputable def code170 : Code := Tryd.f170.body.getD .skip
theorem inl170 {J : Jd} {args : List AV} {H : Heap} {n : Nat} {R : AV → Heap → Nat → Prop} (hargs : args.length ≤ 11) (h : T.prop P gl n (resQ R) (bodyT tau gl J code170 11 [.cell 4 121, .tmp 5] args H n)) : CallA P gl 170 args H n R :=
  CallA.inlineE IsProg.eq tau_ok0 mix0 Tryd.func170 (by kernel_rfl) (by kernel_rfl) (by kernel_rfl) (by kernel_rfl) hargs h

/- analemma/dayform.kinds$1 -/
noncomputable def code171 : Code := Tryd.f171.body.getD .skip
theorem inl171 {J : Jd} {args : List AV} {H : Heap} {n : Nat} {R : AV → Heap → Nat → Prop} (hargs : args.length ≤ 10) (h : T.prop P gl n (resQ R) (bodyT tau gl J code171 10 [.tmp 6] args H n)) : CallA P gl 171 args H n R :=
  CallA.inlineE IsProg.eq tau_ok0 mix0 Tryd.func171 (by kernel_rfl) (by kernel_rfl) (by kernel_rfl) (by kernel_rfl) hargs h

/- analemma/dayform.dayOf -/
noncomputable def code172 : Code := Tryd.f172.body.getD .skip
theorem inl172 {J : Jd} {args : List AV} {H : Heap} {n : Nat} {R : AV → Heap → Nat → Prop} (hargs : args.length ≤ 10) (h : T.prop P gl n (resQ R) (bodyT tau gl J code172 10 [.tmp 4] args H n)) : CallA P gl 172 args H n R :=
  CallA.inlineE IsProg.eq tau_ok0 mix0 Tryd.func172 (by kernel_rfl) (by kernel_rfl) (by kernel_rfl) (by kernel_rfl) hargs h

/- analemma/dayform.kinds$2 -/
noncomputable def code173 : Code := Tryd.f173.body.getD .skip
theorem inl173 {J : Jd} {args : List AV} {H : Heap} {n : Nat} {R : AV → Heap → Nat → Prop} (hargs : args.length ≤ 13) (h : T.prop P gl n (resQ R) (bodyT tau gl J code173 13 [.tmp 6] args H n)) : CallA P gl 173 args H n R :=
  CallA.inlineE IsProg.eq tau_ok0 mix0 Tryd.func173 (by kernel_rfl) (by kernel_rfl) (by kernel_rfl) (by kernel_rfl) hargs h

/- analemma/dayform.back -/
noncomputable def code174 : Code := Tryd.f174.body.getD .skip
theorem inl174 {J : Jd} {args : List AV} {H : Heap} {n : Nat} {R : AV → Heap → Nat → Prop} (hargs : args.length ≤ 11) (h : T.prop P gl n (resQ R) (bodyT tau gl J code174 11 [.tmp 4] args H n)) : CallA P gl 174 args H n R :=
  CallA.inlineE IsProg.eq tau_ok0 mix0 Tryd.func174 (by kernel_rfl) (by kernel_rfl) (by kernel_rfl) (by kernel_rfl) hargs h

/- analemma/dayform.kinds$3 -/
noncomputable def code175 : Code := Tryd.f175.body.getD .skip
theorem inl175 {J : Jd} {args : List AV} {H : Heap} {n : Nat} {R : AV → Heap → Nat → Prop} (hargs : args.length ≤ 18) (h : T.prop P gl n (resQ R) (bodyT tau gl J code175 18 [.tmp 6] args H n)) : CallA P gl 175 args H n R :=
  CallA.inlineE IsProg.eq tau_ok0 mix0 Tryd.func175 (by kernel_rfl) (by kernel_rfl) (by kernel_rfl) (by kernel_rfl) hargs h

/- analemma/dayform.kinds$4 -/
noncomputable def code176 : Code := Tryd.f176.body.getD .skip
theorem inl176 {J : Jd} {args : List AV} {H : Heap} {n : Nat} {R : AV → Heap → Nat → Prop} (hargs : args.length ≤ 17) (h : T.prop P gl n (resQ R) (bodyT tau gl J code176 17 [.tmp 6] args H n)) : CallA P gl 176 args H n R :=
  CallA.inlineE IsProg.eq tau_ok0 mix0 Tryd.func176 (by kernel_rfl) (by kernel_rfl) (by kernel_rfl) (by kernel_rfl) hargs h

/- analemma/civil.fromMarch -/
noncomputable def code177 : Code := Tryd.f177.body.getD .skip
theorem inl177 {J : Jd} {args : List AV} {H : Heap} {n : Nat} {R : AV → Heap → Nat → Prop} (hargs : args.length ≤ 22) (h : T.prop P gl n (resQ R) (bodyT tau gl J code177 22 [.tmp 2, .tmp 3] args H n)) : CallA P gl 177 args H n R :=
  CallA.inlineE IsProg.eq tau_ok0 mix0 Tryd.func177 (by kernel_rfl) (by kernel_rfl) (by kernel_rfl) (by kernel_rfl) hargs h

/- cmp.isNaN[int64] -/
noncomputable def code178 : Code := Tryd.f178.body.getD .skip
theorem inl178 {J : Jd} {args : List AV} {H : Heap} {n : Nat} {R : AV → Heap → Nat → Prop} (hargs : args.length ≤ 6) (h : T.prop P gl n (resQ R) (bodyT tau gl J code178 6 [.tmp 2] args H n)) : CallA P gl 178 args H n R :=
  CallA.inlineE IsProg.eq tau_ok0 mix0 Tryd.func178 (by kernel_rfl) (by kernel_rfl) (by kernel_rfl) (by kernel_rfl) hargs h

/- cmp.isNaN[int] -/
noncomputable def code179 : Code := Tryd.f179.body.getD .skip
theorem inl179 {J : Jd} {args : List AV} {H : Heap} {n : Nat} {R : AV → Heap → Nat → Prop} (hargs : args.length ≤ 6) (h : T.prop P gl n (resQ R) (bodyT tau gl J code179 6 [.tmp 2] args H n)) : CallA P gl 179 args H n R :=
  CallA.inlineE IsProg.eq tau_ok0 mix0 Tryd.func179 (by kernel_rfl) (by kernel_rfl) (by kernel_rfl) (by kernel_rfl) hargs h

/- analemma/events.nearest[analemma/events.forward] -/
noncomputable def code180 : Code := Tryd.f180.body.getD .skip
theorem inl180 {J : Jd} {args : List AV} {H : Heap} {n : Nat} {R : AV → Heap → Nat → Prop} (hargs : args.length ≤ 91) (h : T.prop P gl n (resQ R) (bodyT tau gl J code180 91 [.cell 4 121, .tmp 5] args H n)) : CallA P gl 180 args H n R :=
  CallA.inlineE IsProg.eq tau_ok0 mix0 Tryd.func180 (by kernel_rfl) (by kernel_rfl) (by kernel_rfl) (by kernel_rfl) hargs h

/- analemma/civil.Weekday -/
noncomputable def code181 : Code := Tryd.f181.body.getD .skip
theorem inl181 {J : Jd} {args : List AV} {H : Heap} {n : Nat} {R : AV → Heap → Nat → Prop} (hargs : args.length ≤ 8) (h : T.prop P gl n (resQ R) (bodyT tau gl J code181 8 [.tmp 2] args H n)) : CallA P gl 181 args H n R :=
  CallA.inlineE IsProg.eq tau_ok0 mix0 Tryd.func181 (by kernel_rfl) (by kernel_rfl) (by kernel_rfl) (by kernel_rfl) hargs h

/- analemma/events.ofRule[analemma/events.forward] -/
noncomputable def code182 : Code := Tryd.f182.body.getD .skip
theorem inl182 {J : Jd} {args : List AV} {H : Heap} {n : Nat} {R : AV → Heap → Nat → Prop} (hargs : args.length ≤ 58) (h : T.prop P gl n (resQ R) (bodyT tau gl J code182 58 [.cell 10 121, .tmp 11] args H n)) : CallA P gl 182 args H n R :=
  CallA.inlineE IsProg.eq tau_ok0 mix0 Tryd.func182 (by kernel_rfl) (by kernel_rfl) (by kernel_rfl) (by kernel_rfl) hargs h

/- (analemma/events.backward).enter -/
noncomputable def code200 : Code := Tryd.f200.body.getD .skip
theorem inl200 {J : Jd} {args : List AV} {H : Heap} {n : Nat} {R : AV → Heap → Nat → Prop} (hargs : args.length ≤ 12) (h : T.prop P gl n (resQ R) (bodyT tau gl J code200 12 [.tmp 8] args H n)) : CallA P gl 200 args H n R :=
  CallA.inlineE IsProg.eq tau_ok0 mix0 Tryd.func200 (by kernel_rfl) (by kernel_rfl) (by kernel_rfl) (by kernel_rfl) hargs h

/- (analemma/events.backward).passed -/
noncomputable def code201 : Code := Tryd.f201.body.getD .skip
theorem inl201 {J : Jd} {args : List AV} {H : Heap} {n : Nat} {R : AV → Heap → Nat → Prop} (hargs : args.length ≤ 7) (h : T.prop P gl n (resQ R) (bodyT tau gl J code201 7 [.tmp 4] args H n)) : CallA P gl 201 args H n R :=
  CallA.inlineE IsProg.eq tau_ok0 mix0 Tryd.func201 (by kernel_rfl) (by kernel_rfl) (by kernel_rfl) (by kernel_rfl) hargs h

/- (analemma/events.backward).step -/
noncomputable def code202 : Code := Tryd.f202.body.getD .skip
theorem inl202 {J : Jd} {args : List AV} {H : Heap} {n : Nat} {R : AV → Heap → Nat → Prop} (hargs : args.length ≤ 3) (h : T.prop P gl n (resQ R) (bodyT tau gl J code202 3 [.tmp 2] args H n)) : CallA P gl 202 args H n R :=
  CallA.inlineE IsProg.eq tau_ok0 mix0 Tryd.func202 (by kernel_rfl) (by kernel_rfl) (by kernel_rfl) (by kernel_rfl) hargs h

/- (analemma/events.forward).enter -/
noncomputable def code203 : Code := Tryd.f203.body.getD .skip
theorem inl203 {J : Jd} {args : List AV} {H : Heap} {n : Nat} {R : AV → Heap → Nat → Prop} (hargs : args.length ≤ 12) (h : T.prop P gl n (resQ R) (bodyT tau gl J code203 12 [.tmp 8] args H n)) : CallA P gl 203 args H n R :=
  CallA.inlineE IsProg.eq tau_ok0 mix0 Tryd.func203 (by kernel_rfl) (by kernel_rfl) (by kernel_rfl) (by kernel_rfl) hargs h

/- (analemma/events.forward).passed -/
noncomputable def code204 : Code := Tryd.f204.body.getD .skip
theorem inl204 {J : Jd} {args : List AV} {H : Heap} {n : Nat} {R : AV → Heap → Nat → Prop} (hargs : args.length ≤ 7) (h : T.prop P gl n (resQ R) (bodyT tau gl J code204 7 [.tmp 4] args H n)) : CallA P gl 204 args H n R :=
  CallA.inlineE IsProg.eq tau_ok0 mix0 Tryd.func204 (by kernel_rfl) (by kernel_rfl) (by kernel_rfl) (by kernel_rfl) hargs h

/- (analemma/events.forward).step -/
noncomputable def code205 : Code := Tryd.f205.body.getD .skip
theorem inl205 {J : Jd} {args : List AV} {H : Heap} {n : Nat} {R : AV → Heap → Nat → Prop} (hargs : args.length ≤ 3) (h : T.prop P gl n (resQ R) (bodyT tau gl J code205 3 [.tmp 2] args H n)) : CallA P gl 205 args H n R :=
  CallA.inlineE IsProg.eq tau_ok0 mix0 Tryd.func205 (by kernel_rfl) (by kernel_rfl) (by kernel_rfl) (by kernel_rfl) hargs h

noncomputable def fnList : List (Nat × FDesc) := [(3, code3, 86, [.tmp 6]),
  (4, code4, 37, [.tmp 4]),
  (5, code5, 92, [.tmp 6]),
  (6, code6, 104, [.tmp 6]),
  (7, code7, 185, [.tmp 8]),
  (8, code8, 112, [.tmp 6]),
  (9, code9, 41, [.tmp 4]),
  (10, code10, 36, [.tmp 4]),
  (11, code11, 98, [.tmp 10]),
  (12, code12, 168, [.tmp 6]),
  (13, code13, 107, [.tmp 12]),
  (14, code14, 194, [.tmp 6]),
  (15, code15, 125, [.tmp 0]),
  (16, code16, 26, [.tmp 2, .tmp 3, .tmp 4]),
  (17, code17, 23, [.tmp 2, .tmp 3, .tmp 4]),
  (18, code18, 58, [.tmp 6, .tmp 7]),
  (19, code19, 110, [.tmp 6, .tmp 7]),
  (20, code20, 42, [.tmp 2]),
  (21, code21, 48, [.tmp 2]),
  (22, code22, 9, [.tmp 4]),
  (23, code23, 7, [.tmp 2]),
  (24, code24, 8, [.tmp 2]),
  (25, code25, 49, [.tmp 4]),
  (26, code26, 78, [.tmp 4]),
  (27, code27, 26, [.tmp 4]),
  (28, code28, 81, [.tmp 4]),
  (29, code29, 31, [.cell 6 39]),
  (30, code30, 56, [.tmp 2, .tmp 3]),
  (31, code31, 5, [.tmp 2]),
  (32, code32, 104, [.tmp 8]),
  (33, code33, 60, [.tmp 4, .tmp 5]),
  (34, code34, 32, [.tmp 2]),
  (35, code35, 26, [.tmp 4, .tmp 5]),
  (36, code36, 23, [.tmp 4, .tmp 5]),
  (37, code37, 14, [.tmp 4]),
  (38, code38, 72, [.tmp 4]),
  (39, code39, 92, [.tmp 0]),
  (40, code40, 77, [.tmp 4, .tmp 5]),
  (41, code41, 89, [.tmp 4, .tmp 5]),
  (42, code42, 18, [.tmp 2]),
  (43, code43, 37, [.cell 10 39]),
  (44, code44, 20, [.cell 4 23]),
  (45, code45, 56, [.cell 4 37]),
  (46, code46, 13, [.tmp 4, .tmp 5, .tmp 6]),
  (47, code47, 23, [.tmp 2, .tmp 3, .tmp 4]),
  (48, code48, 16, [.tmp 4, .tmp 5]),
  (49, code49, 60, [.tmp 2]),
  (50, code50, 68, [.tmp 2, .tmp 3, .tmp 4]),
  (51, code51, 5, [.tmp 2]),
  (52, code52, 38, [.tmp 2]),
  (53, code53, 29, [.tmp 2]),
  (54, code54, 12, [.tmp 2]),
  (55, code55, 12, [.tmp 2]),
  (56, code56, 19, [.tmp 4]),
  (57, code57, 45, [.tmp 4]),
  (58, code58, 75, [.tmp 4, .tmp 5]),
  (59, code59, 20, [.tmp 6]),
  (60, code60, 14, [.cell 4 35]),
  (61, code61, 75, [.tmp 10]),
  (62, code62, 11, [.tmp 6]),
  (63, code63, 34, [.tmp 4]),
  (64, code64, 25, []),
  (65, code65, 8, [.tmp 4]),
  (66, code66, 19, [.tmp 4, .tmp 5]),
  (67, code67, 19, [.tmp 2, .tmp 3]),
  (68, code68, 14, [.tmp 2]),
  (69, code69, 17, [.tmp 2, .tmp 3]),
  (70, code70, 17, [.tmp 4]),
  (71, code71, 30, [.tmp 2, .tmp 3]),
  (72, code72, 15, [.tmp 2]),
  (73, code73, 53, [.tmp 4, .tmp 5]),
  (74, code74, 21, [.tmp 2]),
  (75, code75, 84, [.tmp 6, .tmp 7]),
  (76, code76, 19, [.cell 10 37]),
  (77, code77, 19, [.tmp 4]),
  (78, code78, 9, [.tmp 2]),
  (79, code79, 11, [.tmp 4]),
  (80, code80, 19, [.tmp 6]),
  (81, code81, 9, [.tmp 2]),
  (82, code82, 24, [.tmp 2]),
  (83, code83, 20, [.cell 4 23]),
  (84, code84, 11, [.cell 4 121, .tmp 5]),
  (85, code85, 27, [.cell 2 23]),
  (86, code86, 18, [.cell 4 23]),
  (87, code87, 33, [.cell 2 33]),
  (88, code88, 23, [.tmp 4, .tmp 5, .tmp 6]),
  (89, code89, 29, [.tmp 6]),
  (90, code90, 10, [.tmp 2]),
  (91, code91, 17, [.tmp 2]),
  (92, code92, 8, [.tmp 4]),
  (93, code93, 49, [.tmp 2, .tmp 3]),
  (94, code94, 27, [.tmp 4]),
  (95, code95, 45, [.tmp 2, .tmp 3]),
  (96, code96, 31, [.cell 3 33]),
  (97, code97, 44, [.tmp 8]),
  (98, code98, 9, [.tmp 6]),
  (99, code99, 10, [.tmp 2]),
  (101, code101, 20, []),
  (102, code102, 30, []),
  (103, code103, 143, [.tmp 4]),
  (104, code104, 117, [.tmp 2, .tmp 3]),
  (105, code105, 75, [.tmp 4]),
  (106, code106, 44, [.tmp 6, .tmp 7]),
  (107, code107, 9, [.tmp 2]),
  (108, code108, 21, [.tmp 2]),
  (109, code109, 15, [.tmp 6]),
  (110, code110, 51, [.tmp 2]),
  (111, code111, 23, [.tmp 4]),
  (112, code112, 40, [.tmp 6, .tmp 7]),
  (113, code113, 7, [.tmp 2]),
  (114, code114, 62, [.cell 4 121, .tmp 5]),
  (115, code115, 33, [.cell 2 23]),
  (116, code116, 18, [.cell 4 23]),
  (117, code117, 91, [.cell 4 121, .tmp 5]),
  (118, code118, 31, [.cell 4 121, .cell 5 4]),
  (119, code119, 3, [.tmp 2]),
  (120, code120, 14, [.tmp 4]),
  (121, code121, 5, [.cell 2 33]),
  (122, code122, 5, [.cell 2 33]),
  (123, code123, 8, [.cell 4 33]),
  (124, code124, 8, [.cell 4 33]),
  (125, code125, 17, [.tmp 2]),
  (126, code126, 16, [.tmp 2]),
  (127, code127, 21, [.tmp 6]),
  (128, code128, 49, [.tmp 4]),
  (131, code131, 8, [.tmp 4]),
  (133, code133, 6, [.tmp 2]),
  (134, code134, 81, [.tmp 4]),
  (135, code135, 60, [.tmp 6, .tmp 7]),
  (136, code136, 65, [.cell 2 163, .tmp 3]),
  (137, code137, 29, [.tmp 4]),
  (138, code138, 16, [.tmp 2]),
  (139, code139, 9, [.tmp 2]),
  (140, code140, 23, [.tmp 2]),
  (141, code141, 38, [.tmp 6, .tmp 7]),
  (142, code142, 16, [.tmp 2]),
  (143, code143, 85, [.cell 6 121, .tmp 7]),
  (144, code144, 30, [.tmp 4]),
  (145, code145, 53, [.cell 6 121, .tmp 7]),
  (146, code146, 6, [.tmp 2]),
  (147, code147, 20, [.tmp 2]),
  (148, code148, 22, [.tmp 2, .tmp 3]),
  (149, code149, 58, [.cell 10 121, .tmp 11]),
  (150, code150, 22, [.tmp 4]),
  (151, code151, 4, [.tmp 2]),
  (153, code153, 39, [.tmp 2, .tmp 3]),
  (154, code154, 16, [.tmp 4]),
  (155, code155, 16, [.tmp 2]),
  (156, code156, 6, [.cell 0 185]),
  (157, code157, 16, [.tmp 4]),
  (158, code158, 5, [.tmp 2]),
  (159, code159, 28, [.tmp 2, .tmp 3]),
  (160, code160, 21, [.tmp 2]),
  (161, code161, 9, [.tmp 2]),
  (162, code162, 37, [.cell 4 121, .tmp 5]),
  (163, code163, 64, [.tmp 2, .tmp 3, .tmp 4, .tmp 5]),
  (164, code164, 74, [.cell 8 121, .tmp 9]),
  (165, code165, 20, [.tmp 4]),
  (166, code166, 18, [.tmp 2]),
  (167, code167, 20, [.tmp 4]),
  (168, code168, 35, []),
  (169, code169, 19, [.tmp 2]),
  (170, code170, 11, [.cell 4 121, .tmp 5]),
  (171, code171, 10, [.tmp 6]),
  (172, code172, 10, [.tmp 4]),
  (173, code173, 13, [.tmp 6]),
  (174, code174, 11, [.tmp 4]),
  (175, code175, 18, [.tmp 6]),
  (176, code176, 17, [.tmp 6]),
  (177, code177, 22, [.tmp 2, .tmp 3]),
  (178, code178, 6, [.tmp 2]),
  (179, code179, 6, [.tmp 2]),
  (180, code180, 91, [.cell 4 121, .tmp 5]),
  (181, code181, 8, [.tmp 2]),
  (182, code182, 58, [.cell 10 121, .tmp 11]),
  (200, code200, 12, [.tmp 8]),
  (201, code201, 7, [.tmp 4]),
  (202, code202, 3, [.tmp 2]),
  (203, code203, 12, [.tmp 8]),
  (204, code204, 7, [.tmp 4]),
  (205, code205, 3, [.tmp 2])]
theorem fnD_ok : DOk P gl tau (Ax.look fnList) := dok
  (dok_cons (fun _ _ _ _ _ => inl3) 
  (dok_cons (fun _ _ _ _ _ => inl4) 
  (dok_cons (fun _ _ _ _ _ => inl5) 
  (dok_cons (fun _ _ _ _ _ => inl6) 
  (dok_cons (fun _ _ _ _ _ => inl7) 
  (dok_cons (fun _ _ _ _ _ => inl8) 
  (dok_cons (fun _ _ _ _ _ => inl9) 
  (dok_cons (fun _ _ _ _ _ => inl10) 
  (dok_cons (fun _ _ _ _ _ => inl11) 
  (dok_cons (fun _ _ _ _ _ => inl12) 
  (dok_cons (fun _ _ _ _ _ => inl13) 
  (dok_cons (fun _ _ _ _ _ => inl14) 
  (dok_cons (fun _ _ _ _ _ => inl15) 
  (dok_cons (fun _ _ _ _ _ => inl16) 
  (dok_cons (fun _ _ _ _ _ => inl17) 
  (dok_cons (fun _ _ _ _ _ => inl18) 
  (dok_cons (fun _ _ _ _ _ => inl19) 
  (dok_cons (fun _ _ _ _ _ => inl20) 
  (dok_cons (fun _ _ _ _ _ => inl21) 
  (dok_cons (fun _ _ _ _ _ => inl22) 
  (dok_cons (fun _ _ _ _ _ => inl23) 
  (dok_cons (fun _ _ _ _ _ => inl24) 
  (dok_cons (fun _ _ _ _ _ => inl25) 
  (dok_cons (fun _ _ _ _ _ => inl26) 
  (dok_cons (fun _ _ _ _ _ => inl27) 
  (dok_cons (fun _ _ _ _ _ => inl28) 
  (dok_cons (fun _ _ _ _ _ => inl29) 
  (dok_cons (fun _ _ _ _ _ => inl30) 
  (dok_cons (fun _ _ _ _ _ => inl31) 
  (dok_cons (fun _ _ _ _ _ => inl32) 
  (dok_cons (fun _ _ _ _ _ => inl33) 
  (dok_cons (fun _ _ _ _ _ => inl34) 
  (dok_cons (fun _ _ _ _ _ => inl35) 
  (dok_cons (fun _ _ _ _ _ => inl36) 
  (dok_cons (fun _ _ _ _ _ => inl37) 
  (dok_cons (fun _ _ _ _ _ => inl38) 
  (dok_cons (fun _ _ _ _ _ => inl39) 
  (dok_cons (fun _ _ _ _ _ => inl40) 
  (dok_cons (fun _ _ _ _ _ => inl41) 
  (dok_cons (fun _ _ _ _ _ => inl42) 
  (dok_cons (fun _ _ _ _ _ => inl43) 
  (dok_cons (fun _ _ _ _ _ => inl44) 
  (dok_cons (fun _ _ _ _ _ => inl45) 
  (dok_cons (fun _ _ _ _ _ => inl46) 
  (dok_cons (fun _ _ _ _ _ => inl47) 
  (dok_cons (fun _ _ _ _ _ => inl48) 
  (dok_cons (fun _ _ _ _ _ => inl49) 
  (dok_cons (fun _ _ _ _ _ => inl50) 
  (dok_cons (fun _ _ _ _ _ => inl51) 
  (dok_cons (fun _ _ _ _ _ => inl52) 
  (dok_cons (fun _ _ _ _ _ => inl53) 
  (dok_cons (fun _ _ _ _ _ => inl54) 
  (dok_cons (fun _ _ _ _ _ => inl55) 
  (dok_cons (fun _ _ _ _ _ => inl56) 
  (dok_cons (fun _ _ _ _ _ => inl57) 
  (dok_cons (fun _ _ _ _ _ => inl58) 
  (dok_cons (fun _ _ _ _ _ => inl59) 
  (dok_cons (fun _ _ _ _ _ => inl60) 
  (dok_cons (fun _ _ _ _ _ => inl61) 
  (dok_cons (fun _ _ _ _ _ => inl62) 
  (dok_cons (fun _ _ _ _ _ => inl63) 
  (dok_cons (fun _ _ _ _ _ => inl64) 
  (dok_cons (fun _ _ _ _ _ => inl65) 
  (dok_cons (fun _ _ _ _ _ => inl66) 
  (dok_cons (fun _ _ _ _ _ => inl67) 
  (dok_cons (fun _ _ _ _ _ => inl68) 
  (dok_cons (fun _ _ _ _ _ => inl69) 
  (dok_cons (fun _ _ _ _ _ => inl70) 
  (dok_cons (fun _ _ _ _ _ => inl71) 
  (dok_cons (fun _ _ _ _ _ => inl72) 
  (dok_cons (fun _ _ _ _ _ => inl73) 
  (dok_cons (fun _ _ _ _ _ => inl74) 
  (dok_cons (fun _ _ _ _ _ => inl75) 
  (dok_cons (fun _ _ _ _ _ => inl76) 
  (dok_cons (fun _ _ _ _ _ => inl77) 
  (dok_cons (fun _ _ _ _ _ => inl78) 
  (dok_cons (fun _ _ _ _ _ => inl79) 
  (dok_cons (fun _ _ _ _ _ => inl80) 
  (dok_cons (fun _ _ _ _ _ => inl81) 
  (dok_cons (fun _ _ _ _ _ => inl82) 
  (dok_cons (fun _ _ _ _ _ => inl83) 
  (dok_cons (fun _ _ _ _ _ => inl84) 
  (dok_cons (fun _ _ _ _ _ => inl85) 
  (dok_cons (fun _ _ _ _ _ => inl86) 
  (dok_cons (fun _ _ _ _ _ => inl87) 
  (dok_cons (fun _ _ _ _ _ => inl88) 
  (dok_cons (fun _ _ _ _ _ => inl89) 
  (dok_cons (fun _ _ _ _ _ => inl90) 
  (dok_cons (fun _ _ _ _ _ => inl91) 
  (dok_cons (fun _ _ _ _ _ => inl92) 
  (dok_cons (fun _ _ _ _ _ => inl93) 
  (dok_cons (fun _ _ _ _ _ => inl94) 
  (dok_cons (fun _ _ _ _ _ => inl95) 
  (dok_cons (fun _ _ _ _ _ => inl96) 
  (dok_cons (fun _ _ _ _ _ => inl97) 
  (dok_cons (fun _ _ _ _ _ => inl98) 
  (dok_cons (fun _ _ _ _ _ => inl99) 
  (dok_cons (fun _ _ _ _ _ => inl101) 
  (dok_cons (fun _ _ _ _ _ => inl102) 
  (dok_cons (fun _ _ _ _ _ => inl103) 
  (dok_cons (fun _ _ _ _ _ => inl104) 
  (dok_cons (fun _ _ _ _ _ => inl105) 
  (dok_cons (fun _ _ _ _ _ => inl106) 
  (dok_cons (fun _ _ _ _ _ => inl107) 
  (dok_cons (fun _ _ _ _ _ => inl108) 
  (dok_cons (fun _ _ _ _ _ => inl109) 
  (dok_cons (fun _ _ _ _ _ => inl110) 
  (dok_cons (fun _ _ _ _ _ => inl111) 
  (dok_cons (fun _ _ _ _ _ => inl112) 
  (dok_cons (fun _ _ _ _ _ => inl113) 
  (dok_cons (fun _ _ _ _ _ => inl114) 
  (dok_cons (fun _ _ _ _ _ => inl115) 
  (dok_cons (fun _ _ _ _ _ => inl116) 
  (dok_cons (fun _ _ _ _ _ => inl117) 
  (dok_cons (fun _ _ _ _ _ => inl118) 
  (dok_cons (fun _ _ _ _ _ => inl119) 
  (dok_cons (fun _ _ _ _ _ => inl120) 
  (dok_cons (fun _ _ _ _ _ => inl121) 
  (dok_cons (fun _ _ _ _ _ => inl122) 
  (dok_cons (fun _ _ _ _ _ => inl123) 
  (dok_cons (fun _ _ _ _ _ => inl124) 
  (dok_cons (fun _ _ _ _ _ => inl125) 
  (dok_cons (fun _ _ _ _ _ => inl126) 
  (dok_cons (fun _ _ _ _ _ => inl127) 
  (dok_cons (fun _ _ _ _ _ => inl128) 
  (dok_cons (fun _ _ _ _ _ => inl131) 
  (dok_cons (fun _ _ _ _ _ => inl133) 
  (dok_cons (fun _ _ _ _ _ => inl134) 
  (dok_cons (fun _ _ _ _ _ => inl135) 
  (dok_cons (fun _ _ _ _ _ => inl136) 
  (dok_cons (fun _ _ _ _ _ => inl137) 
  (dok_cons (fun _ _ _ _ _ => inl138) 
  (dok_cons (fun _ _ _ _ _ => inl139) 
  (dok_cons (fun _ _ _ _ _ => inl140) 
  (dok_cons (fun _ _ _ _ _ => inl141) 
  (dok_cons (fun _ _ _ _ _ => inl142) 
  (dok_cons (fun _ _ _ _ _ => inl143) 
  (dok_cons (fun _ _ _ _ _ => inl144) 
  (dok_cons (fun _ _ _ _ _ => inl145) 
  (dok_cons (fun _ _ _ _ _ => inl146) 
  (dok_cons (fun _ _ _ _ _ => inl147) 
  (dok_cons (fun _ _ _ _ _ => inl148) 
  (dok_cons (fun _ _ _ _ _ => inl149) 
  (dok_cons (fun _ _ _ _ _ => inl150) 
  (dok_cons (fun _ _ _ _ _ => inl151) 
  (dok_cons (fun _ _ _ _ _ => inl153) 
  (dok_cons (fun _ _ _ _ _ => inl154) 
  (dok_cons (fun _ _ _ _ _ => inl155) 
  (dok_cons (fun _ _ _ _ _ => inl156) 
  (dok_cons (fun _ _ _ _ _ => inl157) 
  (dok_cons (fun _ _ _ _ _ => inl158) 
  (dok_cons (fun _ _ _ _ _ => inl159) 
  (dok_cons (fun _ _ _ _ _ => inl160) 
  (dok_cons (fun _ _ _ _ _ => inl161) 
  (dok_cons (fun _ _ _ _ _ => inl162) 
  (dok_cons (fun _ _ _ _ _ => inl163) 
  (dok_cons (fun _ _ _ _ _ => inl164) 
  (dok_cons (fun _ _ _ _ _ => inl165) 
  (dok_cons (fun _ _ _ _ _ => inl166) 
  (dok_cons (fun _ _ _ _ _ => inl167) 
  (dok_cons (fun _ _ _ _ _ => inl168) 
  (dok_cons (fun _ _ _ _ _ => inl169) 
  (dok_cons (fun _ _ _ _ _ => inl170) 
  (dok_cons (fun _ _ _ _ _ => inl171) 
  (dok_cons (fun _ _ _ _ _ => inl172) 
  (dok_cons (fun _ _ _ _ _ => inl173) 
  (dok_cons (fun _ _ _ _ _ => inl174) 
  (dok_cons (fun _ _ _ _ _ => inl175) 
  (dok_cons (fun _ _ _ _ _ => inl176) 
  (dok_cons (fun _ _ _ _ _ => inl177) 
  (dok_cons (fun _ _ _ _ _ => inl178) 
  (dok_cons (fun _ _ _ _ _ => inl179) 
  (dok_cons (fun _ _ _ _ _ => inl180) 
  (dok_cons (fun _ _ _ _ _ => inl181) 
  (dok_cons (fun _ _ _ _ _ => inl182) 
  (dok_cons (fun _ _ _ _ _ => inl200) 
  (dok_cons (fun _ _ _ _ _ => inl201) 
  (dok_cons (fun _ _ _ _ _ => inl202) 
  (dok_cons (fun _ _ _ _ _ => inl203) 
  (dok_cons (fun _ _ _ _ _ => inl204) 
  (dok_cons (fun _ _ _ _ _ => inl205) dok_nil)))))))))))))))))))))))))))))))))))))))))))))))))))))))))))))))))))))))))))))))))))))))))))))))))))))))))))))))))))))))))))))))))))))))))))))))))))))))))))))))))))))))))))))))))))))
def jList : List (Nat × Jd) := [(3, ⟨[(1, 25)], [], [(7, [6]), (6, [0, 7, 8, 9, 10, 11, 12, 13, 14, 15, 16]), (5, [0, 1, 5, 7, 8, 9, 10, 11, 12, 13, 14]), (4, [0, 1, 5, 7, 8, 9, 10, 11, 12]), (3, [0, 1, 5, 7, 8, 9]), (2, [6]), (1, [0, 1, 5, 25]), (0, [0, 1, 5])]⟩), (4, ⟨[], [], [(4, [4]), (3, [1, 2, 5]), (2, [4]), (1, [1, 2, 18]), (0, [1, 2])]⟩), (5, ⟨[(9, 51), (14, 73)], [], [(21, [6]), (20, [8, 26, 27, 28]), (15, [6]), (14, [8, 26, 27, 28, 73]), (13, [8, 10, 14, 15, 26, 27, 28]), (17, [6]), (19, [6]), (18, [8, 26, 27, 28, 78]), (16, [8, 10, 11, 13, 26, 27, 28, 74]), (12, [8, 10, 11, 13, 26, 27, 28, 55]), (11, [8, 10, 11, 13, 26, 27, 28]), (10, [6]), (9, [8, 10, 11, 26, 27, 28, 51]), (8, [8, 10, 11, 12, 26, 27, 28]), (7, [8, 10, 26, 27, 28]), (6, [8, 26, 27, 28, 29]), (5, [8, 26, 27, 28]), (4, [6]), (3, [7, 8, 25]), (2, [7, 8]), (1, [1, 2, 7]), (0, [0, 1, 2])]⟩), (6, ⟨[(16, 86)], [], [(20, [6]), (19, [7, 11]), (18, [2, 7, 9, 11, 50, 51, 52]), (17, [6]), (16, [2, 7, 9, 11, 50, 51, 52, 86]), (15, [2, 7, 9, 11, 15, 16, 17, 18, 50, 51, 52]), (14, [2, 7, 9, 11, 14, 15, 16, 50, 51, 52]), (13, [2, 7, 9, 11, 14, 50, 51, 52]), (12, [2, 7, 9, 11, 13, 50, 51, 52]), (11, [2, 7, 9, 11, 50, 51, 52, 53]), (10, [2, 7, 9, 11, 50, 51, 52]), (9, [6]), (8, [2, 7, 9, 11, 49]), (7, [2, 7, 8, 9, 11]), (6, [2, 7, 8, 9, 11]), (5, [6]), (4, [2, 7, 8, 9, 31]), (3, [2, 7, 8, 9, 10]), (2, [2, 7, 8]), (1, [1, 2, 7]), (0, [0, 1, 2])]⟩), (7, ⟨[(17, 22)], [], [(19, [8]), (18, [22, 23]), (17, [3, 10, 22]), (16, [3, 10, 130, 131, 132]), (15, [8]), (14, [3, 10, 130, 131, 132, 155]), (13, [3, 10, 18, 19, 20, 21, 130, 131, 132]), (12, [3, 10, 18, 130, 131, 132]), (11, [3, 10, 130, 131, 132, 133]), (10, [3, 10, 130, 131, 132]), (9, [8]), (8, [3, 10, 11, 105]), (7, [8]), (6, [3, 10, 11, 12, 90]), (5, [3, 10, 11, 12, 13, 14, 15, 16]), (4, [3, 10, 11, 12, 13]), (3, [3, 10, 11, 12]), (2, [2, 3, 10, 11]), (1, [0, 1, 2, 3, 9]), (0, [0, 1, 2, 3])]⟩), (8, ⟨[(29, 109)], [], [(32, [6]), (31, [90, 91, 92]), (30, [6]), (29, [90, 91, 92, 109]), (28, [17, 18, 90, 91, 92]), (27, [16, 90, 91, 92]), (26, [90, 91, 92, 93]), (25, [90, 91, 92]), (24, [6]), (23, [89]), (22, [8]), (21, [6]), (20, [8, 83]), (19, [8, 14]), (18, [6]), (17, [8, 14, 78]), (16, [8, 13, 14]), (15, [6]), (14, [8, 13, 14, 73]), (13, [8, 13, 14]), (12, [8, 13, 14]), (11, [7, 8, 13, 14]), (10, [7, 8, 25, 26, 27]), (9, [6]), (8, [7, 8, 25, 26, 27, 52]), (7, [7, 8, 11, 12, 25, 26, 27]), (6, [7, 8, 10, 25, 26, 27]), (5, [7, 8, 10, 25, 26, 27]), (4, [7, 8, 25, 26, 27, 28]), (3, [7, 8, 25, 26, 27]), (2, [7, 8]), (1, [1, 2, 7]), (0, [0, 1, 2])]⟩), (9, ⟨[], [], [(3, [4]), (2, [1, 2, 5, 6, 7, 8]), (1, [1, 2, 5, 6]), (0, [1, 2])]⟩), (10, ⟨[], [], [(5, [4]), (4, [5, 6, 7, 8]), (3, [1, 2, 5, 6]), (2, [4]), (1, [1, 2, 11]), (0, [1, 2])]⟩), (11, ⟨[], [5], [(22, [10]), (19, [16, 19]), (21, [16, 19]), (20, [12, 13, 16, 19, 84]), (18, [12, 13, 16, 18, 19, 75, 76]), (17, [12, 13, 16, 18, 19, 75]), (16, [12, 13, 16, 18, 19]), (13, [12, 13, 14, 16, 18]), (15, [12, 13, 14, 16, 18]), (14, [11, 12, 13, 14, 16, 18, 65]), (12, [11, 12, 13, 14, 16, 18, 60, 61]), (11, [11, 12, 13, 14, 16, 18, 60]), (10, [11, 12, 13, 14, 16, 18]), (9, [10]), (8, [11, 12, 13, 14, 16, 58]), (7, [11, 12, 13, 14, 15, 16, 17]), (6, [11, 12, 13, 14, 15]), (5, [11, 12, 13]), (4, [11, 12, 13, 32]), (3, [11, 12, 13]), (2, [1, 2, 3, 5, 11, 12]), (1, [1, 2, 3, 5, 11]), (0, [1, 2, 3, 4, 5])]⟩), (12, ⟨[], [18], [(23, [6]), (22, [11, 14, 15, 16, 17, 18, 19, 20, 21]), (21, [11, 13, 14, 15, 16, 17, 18, 19]), (20, [7, 10, 11, 13, 14, 15, 16, 17]), (19, [7, 10, 11, 13, 14, 15]), (18, [7, 9, 10, 11, 13]), (17, [7, 9, 10, 11, 13, 100]), (16, [7, 9, 10, 11, 13]), (15, [7, 9, 10, 11, 13]), (11, [7, 9, 10, 11, 12]), (14, [7, 9, 10, 11, 12]), (13, [7, 9, 10, 11, 12, 78]), (12, [7, 9, 10, 11, 12]), (10, [7, 9, 10, 11, 12, 60]), (9, [7, 9, 10, 11, 12]), (8, [7, 9, 10, 11]), (7, [7, 9, 10]), (6, [1, 3, 7, 9]), (4, [1, 3, 7, 8]), (5, [1, 3, 7, 8]), (3, [1, 3, 7, 8, 27]), (2, [1, 3, 7, 8]), (1, [1, 3, 7]), (0, [1, 2, 3])]⟩), (13, ⟨[(10, 83)], [5], [(12, [12]), (11, [12]), (10, [17, 19, 21, 23, 83]), (9, [17, 18, 19, 20, 21, 22, 23, 24]), (8, [13, 16, 17, 18, 19, 20, 21, 22]), (7, [13, 15, 16, 17, 18, 19, 20]), (6, [13, 14, 15, 16, 17, 18]), (5, [13, 14, 15, 16]), (4, [13, 14, 15, 16, 43]), (3, [13, 14, 15, 16]), (2, [2, 3, 4, 6, 7, 13, 14]), (1, [2, 3, 4, 6, 7, 13]), (0, [2, 3, 4, 5, 6, 7])]⟩), (14, ⟨[], [], [(41, [6]), (40, [20, 22]), (39, [7, 8, 20]), (38, [7, 8, 14, 155, 156, 157]), (37, [6]), (36, [7, 8, 14, 155, 156, 157, 167]), (35, [7, 8, 14, 18, 155, 156, 157]), (34, [7, 8, 14, 16, 155, 156, 157]), (33, [7, 8, 14, 155, 156, 157, 158]), (32, [7, 8, 14, 155, 156, 157]), (31, [7, 8, 14]), (30, [6]), (29, [3, 7, 8, 140]), (28, [6]), (27, [3, 7, 8, 128]), (26, [3, 7, 8, 9, 10, 11, 12, 13]), (25, [3, 7, 8, 9, 10, 11]), (7, [3, 7, 8, 9]), (9, [3, 7, 8, 9]), (11, [3, 7, 8, 9]), (13, [3, 7, 8, 9]), (16, [3, 7, 8, 9]), (15, [3, 7, 8, 9]), (18, [3, 7, 8, 9]), (20, [3, 7, 8, 9]), (22, [3, 7, 8, 9]), (24, [3, 7, 8, 9]), (5, [3, 7, 8, 9]), (23, [3, 7, 8, 9, 90]), (21, [3, 7, 8, 9, 28, 84]), (19, [3, 7, 8, 9, 28, 71]), (17, [3, 7, 8, 9, 28, 65]), (14, [3, 7, 8, 9, 28, 55]), (12, [3, 7, 8, 9, 28, 43]), (10, [3, 7, 8, 9, 28, 38]), (8, [3, 7, 8, 9, 28, 33]), (6, [3, 7, 8, 9, 28, 30]), (4, [3, 7, 8, 9, 28]), (3, [1, 3, 7, 8, 9]), (2, [1, 3, 7, 8]), (1, [1, 3, 7]), (0, [1, 2, 3])]⟩), (15, ⟨[(9, 65), (15, 105)], [], [(21, [0]), (20, [13, 14, 15]), (19, [13, 14, 15]), (18, [13]), (17, [80, 81, 82]), (16, [0]), (15, [80, 81, 82, 105]), (14, [10, 11, 12, 80, 81, 82]), (13, [10, 80, 81, 82]), (12, [80, 81, 82, 83]), (11, [80, 81, 82]), (10, [0]), (9, [65]), (8, [3, 4, 5, 8]), (7, [3, 4, 5]), (6, [30, 31, 32]), (5, [0]), (4, [30, 31, 32, 41]), (3, [2, 30, 31, 32]), (2, [30, 31, 32, 33]), (1, [30, 31, 32]), (0, [])]⟩), (16, ⟨[(2, 16)], [], [(6, [2, 3, 4]), (5, [2, 3, 4]), (4, [6, 7, 23]), (3, [6, 7, 8]), (2, [0, 16]), (1, [0, 5]), (0, [0])]⟩), (17, ⟨[], [], [(4, [2, 3, 4]), (3, [2, 3, 4]), (2, [5, 6, 20]), (1, [0, 5, 6, 7]), (0, [0])]⟩), (18, ⟨[(8, 28)], [8], [(18, [6, 7]), (9, [6, 7]), (13, [6, 7]), (12, [11, 39]), (11, [11]), (17, [6, 7]), (16, [12, 55]), (15, [12, 13]), (14, [1, 5, 41]), (10, [0, 1, 5, 27, 32]), (8, [0, 1, 5, 27, 28]), (7, [0, 1, 5, 27, 28]), (6, [0, 1, 5, 27]), (5, [6, 7]), (4, [6, 7]), (3, [8, 9, 23]), (2, [0, 1, 5, 8, 9, 20]), (1, [0, 1, 5, 8, 9, 10]), (0, [0, 1, 5])]⟩), (19, ⟨[(6, 34), (16, 86)], [17], [(23, [6, 7]), (22, [6, 7]), (21, [16, 108]), (20, [16]), (19, [6, 7]), (18, [1, 5, 101]), (17, [1, 5, 15]), (16, [1, 5, 86]), (5, [6, 7]), (7, [6, 7]), (9, [6, 7]), (11, [6, 7]), (13, [6, 7]), (15, [6, 7]), (14, [0, 1, 5, 67]), (12, [0, 1, 5, 8, 12, 13, 58]), (10, [0, 1, 5, 8, 12, 13, 45]), (8, [0, 1, 5, 8, 10, 12, 13, 42]), (6, [0, 1, 5, 8, 9, 10, 11, 12, 13, 34]), (4, [0, 1, 5, 8, 9, 10, 11, 12, 13, 31]), (3, [0, 1, 5, 8, 9, 10, 11, 12, 13]), (2, [0, 1, 5, 8, 9, 10, 11]), (1, [0, 1, 5, 8]), (0, [0, 1, 5])]⟩), (20, ⟨[], [], [(12, [2]), (3, [2]), (5, [2]), (7, [2]), (9, [2]), (11, [2]), (10, [31]), (8, [3, 4, 5, 28]), (6, [0, 3, 4, 5, 25]), (4, [0, 3, 4, 5, 15]), (2, [0, 3, 4, 5, 12]), (1, [0, 3, 4, 5]), (0, [0])]⟩), (21, ⟨[], [], [(13, [2]), (12, [2]), (11, [47]), (10, [2]), (9, [0, 3, 4, 5, 34]), (8, [2]), (7, [0, 3, 4, 5, 32]), (6, [2]), (5, [0, 3, 4, 5, 8, 31]), (4, [2]), (3, [0, 3, 4, 5, 8, 22]), (2, [0, 3, 4, 5, 8]), (1, [0, 3, 4, 5]), (0, [0])]⟩), (22, ⟨[], [], [(1, [4]), (0, [0, 1])]⟩), (23, ⟨[(1, 2)], [], [(1, [2]), (0, [1])]⟩), (24, ⟨[], [], [(3, [2]), (2, [2]), (1, [0, 4]), (0, [0])]⟩), (25, ⟨[(4, 13), (10, 5), (13, 5)], [4], [(16, [4]), (15, [4]), (14, [48]), (5, [5]), (7, [5]), (10, [5]), (9, [7]), (13, [5]), (12, [2, 8, 9]), (11, [1, 2, 5, 31]), (8, [1, 2, 5, 12, 21]), (6, [1, 2, 5, 12, 16]), (4, [1, 2, 5, 12, 13]), (3, [1, 2, 5, 12, 13]), (2, [1, 2, 5, 12]), (1, [1, 2, 5]), (0, [1, 2])]⟩), (26, ⟨[(4, 24), (8, 40), (16, 77)], [], [(18, [4]), (17, [4]), (16, [77]), (15, [2, 5, 11, 12]), (14, [4]), (13, [1, 2, 5, 59]), (9, [1, 2, 5, 8]), (12, [4]), (11, [1, 2, 5, 8, 10, 56]), (10, [1, 2, 5, 8, 10]), (8, [1, 2, 5, 8, 40]), (7, [1, 2, 5, 8]), (6, [4]), (5, [7]), (4, [1, 2, 5, 24]), (3, [4]), (2, [1, 2, 5, 17]), (1, [1, 2, 5]), (0, [1, 2])]⟩), (27, ⟨[], [], [(9, [4]), (8, [0, 1, 12, 13]), (7, [4]), (6, [0, 1, 12, 13, 24]), (5, [0, 1, 5, 12, 13]), (4, [0, 1, 12, 13, 14]), (3, [0, 1, 12, 13]), (2, [4]), (1, [0, 1, 10]), (0, [0, 1])]⟩), (28, ⟨[], [5, 8, 13], [(20, [4]), (19, [1, 7, 70, 71]), (18, [1, 7, 70, 71]), (17, [1, 7, 10, 70, 71]), (16, [1, 7, 70, 71, 72]), (15, [1, 7, 70, 71]), (14, [1, 7]), (13, [0, 1, 5, 6, 7, 9]), (12, [0, 1, 5, 6, 7, 9, 61]), (11, [0, 1, 5, 6, 7, 9]), (10, [0, 1, 5, 6, 7]), (9, [0, 1, 5, 7, 8]), (8, [0, 1, 5, 6, 7, 8]), (7, [0, 1, 5, 6, 7, 38]), (6, [0, 1, 5, 6, 7]), (5, [0, 1, 5, 6, 7]), (4, [0, 1, 5, 6, 7, 21]), (3, [0, 1, 5, 6, 7]), (2, [0, 1, 5, 6]), (1, [0, 1, 5]), (0, [0, 1])]⟩), (29, ⟨[], [], [(5, [6]), (4, [6, 7]), (3, [0, 6, 7, 22]), (2, [0, 6, 7]), (1, [0, 2, 6, 7]), (0, [0, 1, 2, 6])]⟩), (30, ⟨[(1, 20)], [10], [(13, [2, 3]), (12, [2, 3]), (11, [4, 54]), (10, [0, 4]), (9, [0, 4, 48]), (6, [0, 4, 5, 6]), (8, [0, 4, 5, 6]), (7, [0, 4, 5, 6]), (5, [0, 4, 5, 6, 24]), (4, [0, 4, 5, 6]), (3, [0, 4, 5]), (2, [2, 3]), (1, [0, 20]), (0, [0])]⟩), (31, ⟨[], [], [(1, [2]), (0, [0])]⟩), (32, ⟨[(1, 22), (6, 36)], [12], [(29, [8]), (28, [10]), (18, [0, 1, 2, 10, 11, 52, 53]), (17, [0, 1, 2, 10, 11, 52, 53]), (16, [0, 1, 2, 10, 12, 52, 53]), (15, [0, 1, 2, 10, 12, 52, 53]), (14, [0, 1, 2, 10, 11, 12, 52, 53]), (13, [0, 1, 2, 10, 11, 52, 53, 54]), (12, [0, 1, 2, 10, 11, 52, 53]), (27, [0, 2, 10, 11, 77, 78]), (26, [0, 2, 10, 11, 77, 78]), (25, [0, 2, 10, 15, 77, 78]), (24, [0, 2, 10, 15, 77, 78]), (23, [0, 2, 10, 11, 15, 77, 78]), (22, [0, 2, 10, 11, 14, 77, 78]), (21, [0, 2, 10, 11, 77, 78, 79]), (20, [0, 2, 10, 11, 77, 78]), (19, [0, 2, 3, 10, 11]), (11, [0, 1, 2, 3, 10, 11, 51]), (10, [0, 1, 2, 3, 10, 11]), (9, [0, 1, 2, 3, 10]), (8, [0, 1, 2, 3, 10]), (5, [8]), (7, [0, 1, 2, 3]), (6, [0, 1, 2, 3, 9, 36]), (4, [0, 1, 2, 3, 9, 28]), (3, [0, 1, 2, 3, 9]), (2, [8]), (1, [0, 1, 2, 3, 22]), (0, [0, 1, 2, 3])]⟩), (33, ⟨[], [], [(13, [4, 5]), (3, [4, 5]), (5, [4, 5]), (12, [4, 5]), (9, [4, 5]), (11, [4, 5]), (10, [2, 50]), (8, [1, 2, 6, 37]), (7, [1, 2, 6, 7]), (6, [1, 2, 30]), (4, [1, 2, 9, 19]), (2, [1, 2, 9, 10]), (1, [1, 2, 9]), (0, [1, 2])]⟩), (34, ⟨[], [], [(10, [2]), (9, [0, 3, 9, 10]), (8, [0, 3, 9, 10]), (7, [0, 3, 5, 9, 10]), (6, [0, 3, 4, 5, 9, 10, 15]), (5, [0, 3, 4, 5, 9, 10]), (4, [0, 3, 4, 9, 10]), (3, [0, 3, 9, 10, 11]), (2, [0, 3, 9, 10]), (1, [0, 3]), (0, [0])]⟩), (35, ⟨[(1, 13)], [], [(8, [4, 5]), (7, [4, 5]), (6, [6, 24]), (5, [6, 7]), (4, [4, 5]), (3, [1, 2, 16]), (2, [4, 5]), (1, [1, 2, 13]), (0, [1, 2])]⟩), (36, ⟨[], [], [(6, [4, 5]), (5, [4, 5]), (4, [1, 2, 16]), (3, [4, 5]), (2, [1, 2, 6, 11]), (1, [1, 2, 6]), (0, [1, 2])]⟩), (37, ⟨[], [], [(2, [4]), (1, [6]), (0, [1, 2])]⟩), (38, ⟨[(1, 14), (5, 37), (14, 71)], [], [(16, [4]), (15, [4]), (14, [71]), (13, [2, 7, 8]), (12, [1, 2, 7, 8]), (11, [1, 2, 7, 8, 53]), (10, [1, 2, 7, 8]), (9, [4]), (8, [1, 2, 49]), (7, [1, 2, 6]), (6, [4]), (5, [1, 2, 37]), (4, [4]), (3, [1, 2, 17]), (2, [4]), (1, [1, 2, 14]), (0, [1, 2])]⟩), (39, ⟨[], [], [(8, [0]), (7, [0]), (6, [3, 4, 5, 6, 57]), (5, [1, 2, 3, 4, 5, 6]), (4, [1, 2, 3, 4]), (3, [1, 2]), (2, [1, 2]), (1, [1]), (0, [])]⟩), (40, ⟨[(1, 18)], [14], [(20, [4, 5]), (19, [7]), (18, [2, 7]), (17, [2, 7, 67]), (16, [2, 7, 9, 64, 65]), (15, [2, 7, 9, 64]), (14, [2, 7, 9, 10]), (13, [2, 6, 7, 9, 10, 59]), (12, [2, 6, 7, 9, 10]), (11, [4, 5]), (10, [2, 6, 7, 9, 53]), (9, [2, 6, 7, 9]), (8, [4, 5]), (7, [1, 2, 6, 7, 8, 45]), (6, [1, 2, 6, 7, 8]), (5, [1, 2, 6]), (4, [4, 5]), (3, [1, 2, 33]), (2, [4, 5]), (1, [1, 2, 18]), (0, [1, 2])]⟩), (41, ⟨[(1, 17)], [7, 13, 15], [(23, [4, 5]), (20, [4, 5]), (22, [4, 5]), (21, [2, 78]), (19, [2, 9, 67, 68]), (18, [2, 9, 67]), (17, [4, 5]), (16, [2, 9, 63]), (15, [2, 9]), (14, [1, 2, 7, 9, 56]), (13, [1, 2, 7, 9]), (12, [1, 2, 7, 9, 51]), (11, [1, 2, 7, 9]), (10, [4, 5]), (9, [1, 2, 7, 8, 47]), (8, [1, 2, 7, 8]), (7, [1, 2, 6]), (6, [1, 2, 6, 35]), (5, [1, 2, 6]), (4, [4, 5]), (3, [1, 2, 32]), (2, [4, 5]), (1, [1, 2, 17]), (0, [1, 2])]⟩), (42, ⟨[], [], [(7, [2]), (6, [3, 6, 7, 8]), (5, [3, 6, 7, 8]), (4, [3, 5, 6, 7, 8]), (3, [3, 6, 7, 8, 9]), (2, [3, 6, 7, 8]), (1, [0, 3]), (0, [0])]⟩), (43, ⟨[], [], [(11, [10]), (10, [10, 11]), (5, [4, 5, 10, 11]), (4, [5, 10, 11]), (7, [4, 5, 10, 11]), (9, [4, 5, 10, 11]), (8, [4, 5, 10, 11, 29]), (6, [4, 5, 10, 11, 20, 27]), (3, [3, 4, 5, 10, 11, 20, 21]), (2, [3, 4, 5, 10, 11, 20]), (1, [3, 4, 5, 10, 11]), (0, [1, 2, 3, 4, 5, 10])]⟩), (44, ⟨[], [], [(4, [4]), (3, [4]), (2, [0, 4, 5, 14]), (1, [0, 4, 5, 6]), (0, [0, 1, 4])]⟩), (45, ⟨[], [3, 7], [(11, [4]), (10, [4, 6]), (9, [1, 4, 6, 47]), (8, [1, 4, 6]), (7, [1, 4, 6, 7]), (6, [1, 4, 6, 7, 37]), (5, [1, 4, 6, 7]), (4, [1, 2, 4, 6]), (3, [1, 2, 4, 5]), (2, [1, 2, 4, 5, 13]), (1, [1, 2, 4, 5]), (0, [1, 2, 4])]⟩), (46, ⟨[], [], [(1, [4, 5, 6]), (0, [0, 1])]⟩), (47, ⟨[], [], [(6, [2, 3, 4]), (3, [0, 5]), (5, [2, 3, 4]), (4, [0, 5, 15]), (2, [0, 5, 9]), (1, [0, 5]), (0, [0])]⟩), (48, ⟨[(2, 14)], [], [(4, [4, 5]), (3, [4, 5]), (2, [4, 14]), (1, [0, 1, 4]), (0, [0, 1])]⟩), (49, ⟨[(1, 13)], [5], [(18, [2]), (17, [4, 6, 38, 39]), (16, [4, 6, 38, 39]), (15, [4, 6, 7, 38, 39]), (14, [4, 6, 38, 39, 40]), (13, [4, 6, 38, 39]), (12, [4, 5, 6]), (11, [3, 4, 5]), (10, [3, 4, 5, 32]), (9, [3, 4, 5, 31]), (8, [3, 4, 5, 27]), (7, [3, 4, 5]), (6, [3, 4]), (5, [0, 3]), (4, [0, 3, 15]), (3, [0, 3]), (2, [2]), (1, [0, 13]), (0, [0])]⟩), (50, ⟨[(4, 26), (10, 57)], [], [(13, [2, 3, 4]), (3, [0, 5]), (12, [2, 3, 4]), (8, [0, 5, 6, 7]), (11, [2, 3, 4]), (10, [0, 5, 6, 7, 57]), (9, [0, 5, 6, 7, 8]), (7, [0, 5, 6, 7, 38]), (6, [0, 5, 6, 7]), (5, [0, 5, 6]), (4, [0, 5, 26]), (2, [0, 5, 13]), (1, [0, 5]), (0, [0])]⟩), (51, ⟨[], [], [(1, [2]), (0, [0])]⟩), (52, ⟨[(1, 10)], [5, 9], [(12, [2]), (11, [4]), (10, [0, 4, 31]), (9, [0, 4]), (8, [0, 4, 22]), (7, [0, 4]), (6, [0, 3]), (5, [0, 3]), (4, [0, 3, 12]), (3, [0, 3]), (2, [2]), (1, [0, 10]), (0, [0])]⟩), (53, ⟨[], [], [(4, [2]), (3, [5, 6, 7]), (2, [3, 4, 5, 6]), (1, [3, 4, 5]), (0, [0])]⟩), (54, ⟨[(2, 2)], [], [(2, [2]), (1, [4]), (0, [0])]⟩), (55, ⟨[(2, 2)], [], [(2, [2]), (1, [4]), (0, [0])]⟩), (56, ⟨[], [], [(7, [4]), (6, [0, 1, 7, 8]), (5, [4]), (4, [0, 1, 5, 7, 8, 16]), (3, [0, 1, 5, 7, 8]), (2, [0, 1, 7, 8, 9]), (1, [0, 1, 7, 8]), (0, [0, 1])]⟩), (57, ⟨[(3, 4)], [], [(11, [4]), (10, [2, 25, 26, 27]), (9, [4]), (8, [2, 25, 26, 27, 43]), (7, [2, 10, 25, 26, 27]), (6, [2, 8, 25, 26, 27]), (5, [2, 25, 26, 27, 28]), (4, [2, 25, 26, 27]), (3, [4]), (2, [6]), (1, [1, 2, 13]), (0, [1, 2])]⟩), (58, ⟨[(1, 19), (12, 54), (16, 68)], [6, 8], [(20, [4, 5]), (19, [4, 5]), (18, [6, 7, 69]), (17, [4, 5]), (16, [6, 7, 8, 68]), (15, [6, 7, 8]), (14, [2, 6, 8, 9]), (11, [1, 2, 6, 9, 10, 11]), (13, [4, 5]), (12, [1, 2, 6, 9, 10, 11, 54]), (10, [1, 2, 6, 9, 10, 11, 42]), (9, [1, 2, 6, 9, 10, 11]), (8, [1, 2, 6, 9, 10]), (7, [1, 2, 6, 7, 8, 33]), (6, [1, 2, 6, 7, 8]), (5, [1, 2, 6, 7, 8, 25]), (4, [1, 2, 6, 7, 8]), (3, [1, 2, 6, 7]), (2, [4, 5]), (1, [1, 2, 19]), (0, [1, 2])]⟩), (59, ⟨[], [], [(3, [6]), (2, [6]), (1, [0, 1, 2, 9]), (0, [0, 1, 2])]⟩), (60, ⟨[], [], [(1, [4]), (0, [0, 1, 4])]⟩), (61, ⟨[], [], [(6, [10]), (5, [12, 13]), (4, [12, 13, 65]), (3, [1, 5, 12, 13]), (2, [1, 2, 3, 5, 11, 12]), (1, [1, 2, 3, 4, 5, 11]), (0, [1, 2, 3, 4, 5])]⟩), (62, ⟨[], [], [(1, [6]), (0, [0, 1, 2])]⟩), (63, ⟨[], [], [(10, [0, 1, 5]), (9, [0, 1, 5, 6]), (8, [4]), (7, [0, 1, 5, 6, 24]), (6, [0, 1, 5, 6]), (5, [0, 1, 5]), (4, [4]), (3, [0, 1, 15]), (2, [4]), (1, [0, 1, 9]), (0, [0, 1])]⟩), (64, ⟨[], [2], [(4, []), (3, [0, 1, 21]), (2, [0, 1]), (1, [0, 1, 7]), (0, [0, 1])]⟩), (65, ⟨[], [], [(1, [4]), (0, [0, 1])]⟩), (66, ⟨[], [], [(3, [4, 5]), (2, [1]), (1, [0, 1]), (0, [0, 1])]⟩), (67, ⟨[(1, 10)], [], [(2, [2, 3]), (3, [2, 3]), (1, [0, 10]), (0, [0])]⟩), (68, ⟨[], [], [(1, [2]), (0, [0])]⟩), (69, ⟨[], [], [(7, [2, 3]), (6, [0, 6, 7, 8]), (5, [2, 3]), (4, [0, 6, 7, 8, 13]), (3, [0, 5, 6, 7, 8]), (2, [0, 6, 7, 8, 9]), (1, [0, 6, 7, 8]), (0, [0])]⟩), (70, ⟨[(2, 14)], [], [(4, [4]), (3, [4]), (2, [5, 14]), (1, [0, 1, 5]), (0, [0, 1])]⟩), (71, ⟨[(5, 21)], [], [(10, [2, 3]), (9, [4, 7, 8, 9]), (8, [4, 7, 8, 9]), (7, [2, 3]), (6, [6, 7, 8, 9, 23]), (5, [4, 6, 7, 8, 9, 21]), (4, [4, 6, 7, 8, 9]), (3, [4, 7, 8, 9, 10]), (2, [4, 7, 8, 9]), (1, [0, 4]), (0, [0])]⟩), (72, ⟨[], [], [(7, [2]), (6, [5, 6, 7]), (5, [2]), (4, [5, 6, 7, 13]), (3, [4, 5, 6, 7]), (2, [5, 6, 7, 8]), (1, [5, 6, 7]), (0, [0])]⟩), (73, ⟨[], [], [(7, [4, 5]), (6, [6, 8]), (5, [1, 6, 8, 39]), (4, [1, 2, 6, 8]), (3, [4, 5]), (2, [1, 2, 6, 32]), (1, [1, 2, 6, 7]), (0, [1, 2])]⟩), (74, ⟨[], [], [(2, [2]), (1, [1, 3]), (0, [1])]⟩), (75, ⟨[], [18], [(21, [6, 7]), (20, [5, 11]), (19, [5, 11, 80]), (18, [5, 11]), (17, [0, 1, 5, 8, 11, 69]), (16, [0, 1, 5, 8, 11]), (10, [6, 7]), (15, [6, 7]), (14, [5, 10]), (13, [5, 10, 58]), (12, [5, 10]), (11, [0, 1, 5, 8, 47]), (9, [0, 1, 5, 8, 39, 40]), (8, [0, 1, 5, 8, 39]), (7, [0, 1, 5, 8]), (6, [6, 7]), (5, [0, 1, 5, 31]), (4, [6, 7]), (3, [0, 1, 5, 25]), (2, [6, 7]), (1, [0, 1, 5, 22]), (0, [0, 1, 5])]⟩), (76, ⟨[], [], [(1, [10]), (0, [0, 1, 2, 3, 4, 10])]⟩), (77, ⟨[(2, 4)], [], [(2, [4]), (1, [1, 5, 6]), (0, [1, 2])]⟩), (78, ⟨[(1, 2)], [], [(1, [2]), (0, [0])]⟩), (79, ⟨[], [], [(3, [4]), (2, [4]), (1, [1, 7]), (0, [1, 2])]⟩), (80, ⟨[], [], [(6, [6]), (3, [6]), (5, [6]), (4, [1, 2, 13]), (2, [1, 2, 3, 8, 9]), (1, [1, 2, 3, 8]), (0, [1, 2, 3])]⟩), (81, ⟨[(1, 2)], [], [(1, [2]), (0, [0])]⟩), (82, ⟨[], [], [(7, [2]), (4, [0, 3, 4]), (6, [0, 3, 4]), (5, [0, 3, 4, 17]), (3, [0, 3, 4, 8]), (2, [0, 3, 4]), (1, [0, 3]), (0, [0])]⟩), (83, ⟨[], [], [(4, [4]), (3, [4]), (2, [0, 4, 5, 14]), (1, [0, 4, 5, 6]), (0, [0, 1, 4])]⟩), (84, ⟨[], [], [(1, [4, 5]), (0, [0, 1, 4])]⟩), (85, ⟨[], [], [(7, [2]), (6, [2]), (5, [1, 2, 3, 5, 20]), (4, [1, 2, 3, 4, 5]), (3, [2]), (2, [1, 2, 3, 12]), (1, [1, 2, 3, 4]), (0, [1, 2])]⟩), (86, ⟨[], [], [(1, [4]), (0, [0, 3, 4])]⟩), (87, ⟨[], [], [(9, [2]), (4, [2]), (6, [2]), (8, [2]), (7, [2, 3, 4, 25]), (5, [2, 3, 4, 16, 21]), (3, [2, 3, 4, 16, 17]), (2, [2, 3, 4, 16]), (1, [1, 2, 3, 4]), (0, [1, 2])]⟩), (88, ⟨[], [], [(4, [4, 5, 6]), (3, [4, 5, 6]), (2, [0, 1, 7, 12]), (1, [0, 1, 7]), (0, [0, 1])]⟩), (89, ⟨[(6, 6)], [], [(6, [6]), (3, [0, 1, 2, 7]), (5, [6]), (4, [0, 1, 2, 7, 18]), (2, [0, 1, 2, 7, 11]), (1, [0, 1, 2, 7]), (0, [0, 1, 2])]⟩), (90, ⟨[], [], [(1, [2]), (0, [0])]⟩), (91, ⟨[(1, 2)], [], [(1, [2]), (0, [0])]⟩), (92, ⟨[], [], [(1, [4]), (0, [0, 1])]⟩), (93, ⟨[(4, 15), (11, 37)], [12], [(15, [2, 3]), (14, [2, 3]), (13, [4, 47]), (12, [0, 4]), (11, [0, 4, 37]), (5, [0, 4, 5, 6]), (10, [0, 4, 5, 6]), (9, [0, 4, 5, 6]), (8, [2, 3]), (7, [0, 4, 5, 6, 7, 22]), (6, [0, 4, 5, 6, 7]), (4, [0, 4, 5, 6, 15]), (3, [0, 4, 5, 6]), (2, [0, 4, 5]), (1, [0, 4]), (0, [0])]⟩), (94, ⟨[(1, 22)], [], [(3, [4]), (2, [4]), (1, [0, 1, 22]), (0, [0, 1])]⟩), (95, ⟨[(5, 30)], [], [(9, [2, 3]), (4, [0, 4, 5]), (8, [0, 4, 5]), (7, [0, 4, 5, 36]), (6, [2, 3]), (5, [0, 4, 5, 30]), (3, [0, 4, 5, 9]), (2, [0, 4, 5]), (1, [0, 4]), (0, [0])]⟩), (96, ⟨[], [], [(2, [3]), (1, [0, 1, 3, 4]), (0, [0, 1, 3])]⟩), (97, ⟨[(1, 19)], [], [(9, [8]), (8, [0, 3, 21, 22]), (7, [8]), (6, [0, 3, 21, 22, 42]), (5, [0, 3, 9, 21, 22]), (4, [0, 3, 21, 22, 23]), (3, [0, 3, 21, 22]), (2, [8]), (1, [0, 3, 19]), (0, [0, 1, 2, 3])]⟩), (98, ⟨[(1, 6)], [], [(1, [6]), (0, [2])]⟩), (99, ⟨[], [], [(4, [2]), (3, [2, 4]), (2, [2, 4, 6]), (1, [2, 4]), (0, [0, 2])]⟩), (101, ⟨[], [], [(1, []), (2, [19]), (0, [0, 6])]⟩), (102, ⟨[], [], [(2, []), (1, [0, 4]), (0, [0, 4])]⟩), (103, ⟨[(2, 16), (8, 36), (21, 93), (30, 132)], [17], [(35, [4]), (29, [4]), (28, [4]), (27, [8, 12, 114]), (26, [8, 12]), (34, [4]), (33, [4]), (32, [8, 13, 139]), (31, [8, 13]), (30, [0, 1, 5, 6, 7, 8, 9, 10, 132]), (25, [0, 1, 5, 6, 7, 8, 9, 10, 107]), (24, [0, 1, 5, 6, 7, 8, 9, 10]), (23, [0, 1, 5, 6, 7, 8, 9, 10]), (22, [4]), (21, [0, 1, 5, 6, 7, 8, 9, 10, 93]), (20, [0, 1, 5, 6, 7, 8, 9, 10]), (19, [4]), (18, [0, 1, 5, 6, 7, 8, 9, 10, 11, 73]), (17, [0, 1, 5, 6, 7, 8, 9, 10, 11]), (16, [0, 1, 5, 6, 7, 8, 9, 10, 64]), (15, [0, 1, 5, 6, 7, 8, 9, 10, 59]), (14, [0, 1, 5, 6, 7, 8, 9, 10]), (13, [0, 1, 5, 6, 7, 8, 9]), (12, [0, 1, 5, 6, 7, 8]), (11, [0, 1, 5, 6, 7]), (10, [0, 1, 5, 6]), (3, [4]), (5, [4]), (7, [4]), (9, [4]), (8, [0, 1, 5, 36]), (6, [0, 1, 5, 31]), (4, [0, 1, 5, 24]), (2, [0, 1, 5, 16]), (1, [0, 1, 5]), (0, [0, 1])]⟩), (104, ⟨[(14, 57), (19, 75), (24, 98)], [], [(26, [2, 3]), (25, [2, 3]), (24, [5, 10, 11, 12, 98]), (23, [5, 10, 11, 12]), (22, [2, 3]), (21, [0, 5, 10, 11, 77]), (20, [2, 3]), (19, [0, 5, 8, 10, 11, 75]), (18, [0, 5, 8, 10, 11]), (17, [2, 3]), (16, [0, 5, 8, 10, 59]), (15, [2, 3]), (14, [0, 5, 8, 10, 57]), (13, [0, 5, 8, 9, 10]), (12, [2, 3]), (11, [0, 5, 8, 9, 45]), (10, [0, 4, 5, 8, 9]), (9, [0, 4, 5, 6, 8]), (8, [2, 3]), (7, [0, 7]), (6, [0, 4, 5, 6, 23]), (5, [0, 4, 5, 6]), (4, [0, 4, 5]), (3, [2, 3]), (2, [0, 4, 16]), (1, [0, 4]), (0, [0])]⟩), (105, ⟨[], [8], [(27, [4]), (26, [1, 8, 63, 64, 65]), (25, [1, 8, 63, 64, 65]), (24, [1, 8, 10, 63, 64, 65]), (23, [1, 8, 10, 63, 64, 65]), (22, [1, 8, 63, 64, 65, 66]), (21, [1, 8, 63, 64, 65]), (20, [0, 1, 8]), (19, [0, 1, 8]), (18, [0, 1, 5, 8]), (17, [0, 1, 5, 39, 40, 41]), (16, [0, 1, 5, 39, 40, 41]), (15, [0, 1, 5, 7, 39, 40, 41]), (14, [0, 1, 5, 7, 39, 40, 41, 49]), (13, [0, 1, 5, 7, 39, 40, 41]), (12, [0, 1, 5, 39, 40, 41, 42]), (11, [0, 1, 5, 39, 40, 41]), (10, [0, 1, 5]), (9, [0, 1, 5]), (8, [0, 1, 5, 29]), (7, [0, 1, 5, 22]), (6, [0, 1, 5]), (3, [4]), (5, [4]), (4, [0, 1, 15]), (2, [0, 1, 12, 13]), (1, [0, 1, 12]), (0, [0, 1])]⟩), (106, ⟨[], [], [(10, [6, 7]), (9, [6, 7]), (8, [5, 8, 10, 12, 34]), (7, [5, 8, 10, 12]), (6, [6, 7]), (5, [0, 1, 5, 8, 10, 27]), (4, [0, 1, 5, 8, 10, 11]), (3, [6, 7]), (2, [0, 1, 5, 8, 20]), (1, [0, 1, 5, 8, 9]), (0, [0, 1, 5])]⟩), (107, ⟨[(1, 2)], [], [(1, [2]), (0, [0])]⟩), (108, ⟨[(1, 20)], [], [(3, [2]), (2, [2]), (1, [20]), (0, [1])]⟩), (109, ⟨[(1, 6)], [], [(1, [6]), (0, [0, 1, 2])]⟩), (110, ⟨[(2, 50)], [], [(4, [2]), (3, [2]), (2, [50]), (1, [1, 3, 4]), (0, [1])]⟩), (111, ⟨[(8, 6), (13, 14)], [3, 11], [(19, [4]), (9, [4]), (14, [4]), (18, [4]), (17, [4]), (16, [22]), (15, [0, 19]), (13, [0, 5, 14]), (12, [0, 5, 14]), (11, [0, 5, 14]), (10, [0, 5, 14]), (8, [0, 5, 6]), (7, [0, 5, 6]), (6, [0, 5, 6]), (5, [0, 5, 6]), (4, [0, 5, 6]), (3, [0, 5, 6]), (2, [0, 5, 6]), (1, [0, 5]), (0, [0, 1])]⟩), (112, ⟨[], [], [(8, [6, 7]), (6, [0, 1, 2, 8, 9]), (7, [0, 1, 2, 8, 9]), (5, [0, 1, 2, 8, 9, 28]), (4, [0, 1, 2, 8, 9]), (3, [0, 1, 2, 8]), (2, [6, 7]), (1, [0, 1, 2, 23]), (0, [0, 1, 2])]⟩), (113, ⟨[], [], [(1, [2]), (0, [0])]⟩), (114, ⟨[], [], [(14, [4, 5]), (5, [0, 1, 4, 6, 7, 8]), (9, [0, 1, 4, 6, 7, 8, 10, 11]), (13, [0, 1, 4, 6, 7, 8, 10, 11]), (12, [0, 1, 4, 6, 8, 10, 11]), (11, [0, 1, 4, 6, 7, 8, 10, 11, 12, 58]), (10, [0, 1, 4, 6, 7, 8, 10, 11, 12, 13]), (8, [0, 1, 4, 6, 7, 8, 10, 11, 33]), (7, [0, 1, 4, 6, 7, 8, 10, 11]), (6, [0, 1, 4, 6, 7, 8, 9, 10]), (4, [0, 1, 4, 6, 7, 8, 17]), (3, [0, 1, 4, 6, 7, 8]), (2, [0, 1, 4, 6, 7]), (1, [0, 1, 4, 6]), (0, [0, 1, 4])]⟩), (115, ⟨[], [], [(7, [2]), (6, [2]), (5, [0, 2, 3, 5, 26]), (4, [0, 2, 3, 4, 5]), (3, [2]), (2, [0, 2, 3, 12]), (1, [0, 2, 3, 4]), (0, [0, 2])]⟩), (116, ⟨[], [], [(1, [4]), (0, [0, 3, 4])]⟩), (117, ⟨[], [], [(14, [4, 5]), (13, [0, 1, 4, 5, 6, 7, 8, 24, 25]), (12, [0, 1, 4, 5, 6, 7, 8, 24, 25]), (11, [0, 1, 4, 5, 6, 7, 8, 13, 24, 25, 86]), (10, [0, 1, 4, 5, 6, 7, 8, 13, 14, 24, 25]), (9, [0, 1, 4, 5, 6, 7, 8, 9, 12, 24, 25, 62]), (8, [0, 1, 4, 5, 6, 7, 8, 9, 10, 11, 12, 24, 25]), (7, [0, 1, 4, 5, 6, 7, 8, 9, 10, 11, 24, 25]), (6, [0, 1, 4, 5, 6, 7, 8, 9, 24, 25]), (5, [0, 1, 4, 5, 6, 7, 8, 24, 25, 26]), (4, [0, 1, 4, 5, 6, 7, 8, 24, 25]), (3, [0, 1, 4, 5, 6, 7, 8]), (2, [0, 1, 4, 5, 6, 7]), (1, [0, 1, 4, 5, 6]), (0, [0, 1, 4, 5])]⟩), (118, ⟨[], [], [(5, [4, 5]), (1, [2, 3, 4, 5, 6, 8, 9, 10, 11, 12, 13, 14, 15, 16, 17, 18, 19, 20, 21, 22, 23, 24, 25, 26, 27, 28]), (0, [2, 3, 4, 5, 6, 9, 10, 11, 12, 13, 14, 15, 16, 17, 18, 19, 20, 21, 22, 23, 24, 25, 26, 27, 28])]⟩), (119, ⟨[], [], [(1, [2]), (0, [])]⟩), (120, ⟨[], [], [(1, [4]), (0, [1, 2, 3])]⟩), (121, ⟨[], [], [(1, [2]), (0, [0, 2])]⟩), (122, ⟨[], [], [(1, [2]), (0, [0, 2])]⟩), (123, ⟨[], [], [(1, [4]), (0, [0, 1, 4])]⟩), (124, ⟨[], [], [(1, [4]), (0, [0, 1, 4])]⟩), (125, ⟨[(1, 2)], [], [(1, [2]), (0, [0])]⟩), (126, ⟨[], [], [(3, [2]), (2, [2]), (1, [0, 4]), (0, [0])]⟩), (127, ⟨[], [], [(6, [6]), (5, [6]), (4, [1, 2, 7, 10, 19]), (3, [1, 2, 7, 8, 10]), (2, [1, 2, 10, 11, 12]), (1, [1, 2, 10]), (0, [0, 1, 2])]⟩), (128, ⟨[(1, 35)], [], [(3, [4]), (2, [4]), (1, [0, 1, 35]), (0, [0, 1])]⟩), (131, ⟨[], [], [(1, [4]), (0, [0, 1])]⟩), (133, ⟨[], [], [(1, [2]), (0, [0])]⟩), (134, ⟨[(8, 39), (16, 77)], [], [(18, [4]), (17, [4]), (16, [0, 1, 5, 6, 7, 8, 10, 77]), (15, [0, 1, 5, 6, 7, 8, 10]), (14, [0, 1, 5, 6, 7, 8, 10]), (13, [0, 1, 5, 6, 7, 8, 10]), (12, [0, 1, 5, 6, 7, 8, 10]), (11, [0, 1, 5, 6, 7, 8, 10, 44]), (10, [0, 1, 5, 6, 7, 8, 10]), (9, [4]), (8, [0, 1, 5, 6, 7, 8, 39]), (6, [0, 1, 5, 6, 7, 8, 9]), (7, [0, 1, 5, 6, 7, 8, 9]), (5, [0, 1, 5, 6, 7, 8, 9, 20]), (4, [0, 1, 5, 6, 7, 8, 9]), (3, [0, 1, 5, 6, 7, 8]), (2, [0, 1, 5, 6, 7]), (1, [0, 1, 5, 6]), (0, [0, 1])]⟩), (135, ⟨[], [], [(8, [6, 7]), (7, [9]), (6, [9, 55]), (5, [0, 1, 9]), (4, [0, 1, 2, 9]), (3, [0, 1, 2, 8]), (2, [6, 7]), (1, [0, 1, 2, 26]), (0, [0, 1, 2])]⟩), (136, ⟨[(1, 12), (4, 39), (6, 62)], [], [(8, [2, 3]), (7, [2, 3]), (6, [2, 4, 62]), (5, [2, 3]), (4, [1, 2, 4, 39]), (3, [1, 2, 4]), (2, [2, 3]), (1, [1, 2, 12]), (0, [1, 2])]⟩), (137, ⟨[(1, 11)], [], [(6, [4]), (5, [5]), (4, [5, 25]), (3, [0, 1, 5]), (2, [4]), (1, [0, 1, 11]), (0, [0, 1])]⟩), (138, ⟨[(1, 2)], [], [(1, [2]), (0, [0])]⟩), (139, ⟨[(1, 2)], [], [(1, [2]), (0, [0])]⟩), (140, ⟨[], [], [(7, [2]), (5, [0, 4, 5]), (6, [0, 4, 5]), (4, [0, 4, 5, 15]), (3, [0, 4, 5]), (2, [0, 3, 4]), (1, [0, 3]), (0, [0])]⟩), (141, ⟨[], [4], [(9, [6, 7]), (8, [1, 8]), (7, [6, 7]), (6, [1, 9]), (5, [1, 8, 9, 19]), (4, [1, 2, 8, 9]), (3, [1, 2, 3, 8, 9, 15]), (2, [1, 2, 3, 8, 9]), (1, [1, 2, 3, 8]), (0, [1, 2, 3])]⟩), (142, ⟨[], [], [(6, [2]), (5, [2]), (4, [3, 14]), (3, [2]), (2, [3, 12]), (1, [3]), (0, [0])]⟩), (143, ⟨[(1, 27)], [], [(12, [6, 7]), (11, [1, 2, 6, 11]), (10, [0, 1, 2, 6, 11, 76]), (9, [0, 1, 2, 6, 8, 11]), (8, [6, 7]), (7, [0, 1, 2, 6, 8, 9, 65]), (6, [0, 1, 2, 6, 8, 9, 10]), (5, [6, 7]), (4, [0, 1, 2, 6, 8, 53]), (3, [0, 1, 2, 6, 8]), (2, [6, 7]), (1, [0, 1, 2, 6, 27]), (0, [0, 1, 2, 6])]⟩), (144, ⟨[(2, 4), (4, 4), (5, 4)], [], [(5, [4]), (4, [4]), (3, [2, 3, 19]), (2, [4]), (1, [2, 3, 9]), (0, [2, 3])]⟩), (145, ⟨[(7, 49)], [], [(10, [6, 7]), (5, [0, 1, 2, 6, 8, 9, 10]), (9, [0, 1, 2, 6, 8, 9, 10]), (8, [0, 1, 2, 6, 8, 10]), (7, [0, 1, 2, 6, 8, 9, 10, 11, 49]), (6, [0, 1, 2, 6, 8, 9, 10, 11, 12]), (4, [0, 1, 2, 6, 8, 9, 10, 16]), (3, [0, 1, 2, 6, 8, 9, 10]), (2, [0, 1, 2, 6, 8, 9]), (1, [0, 1, 2, 6, 8]), (0, [0, 1, 2, 6])]⟩), (146, ⟨[], [], [(1, [2]), (0, [0])]⟩), (147, ⟨[], [], [(3, [2]), (2, [4]), (1, [3]), (0, [0])]⟩), (148, ⟨[], [], [(4, [2, 3]), (3, [0, 4]), (2, [0, 4, 9]), (1, [0, 4]), (0, [0])]⟩), (149, ⟨[(5, 31)], [], [(11, [10, 11]), (10, [0, 1, 2, 3, 4, 10, 12, 13, 14, 22]), (9, [0, 1, 2, 3, 4, 10, 12, 13, 14, 22]), (8, [10, 11]), (7, [0, 1, 2, 3, 4, 10, 12, 13, 14, 15, 22, 49]), (6, [0, 1, 2, 3, 4, 10, 12, 13, 14, 15, 16, 22]), (5, [0, 1, 2, 3, 4, 10, 12, 13, 14, 22, 31]), (4, [0, 1, 2, 3, 4, 10, 12, 13, 14, 22, 23]), (3, [0, 1, 2, 3, 4, 10, 12, 13, 14, 22]), (2, [0, 1, 2, 3, 4, 10, 12, 13, 14]), (1, [0, 1, 2, 3, 4, 10, 12]), (0, [0, 1, 2, 3, 4, 10])]⟩), (150, ⟨[], [], [(1, [4]), (0, [2, 3])]⟩), (151, ⟨[], [], [(1, [2]), (0, [1])]⟩), (153, ⟨[], [], [(13, [2, 3]), (9, [4, 6, 7, 8]), (12, [4, 6, 7, 8]), (11, [4, 6, 7, 8]), (10, [4, 6, 7, 8, 30]), (8, [4, 6, 7, 8, 25]), (7, [4, 6, 7, 8]), (6, [0, 4, 6, 7]), (4, [0, 4, 5]), (5, [0, 4, 5]), (3, [0, 4, 5, 12]), (2, [0, 4, 5]), (1, [0, 4]), (0, [0])]⟩), (154, ⟨[], [], [(4, [4]), (3, [5]), (2, [5, 12]), (1, [0, 1, 5]), (0, [0, 1])]⟩), (155, ⟨[(1, 2)], [], [(1, [2]), (0, [0])]⟩), (156, ⟨[], [], [(1, [0]), (0, [0])]⟩), (157, ⟨[], [], [(4, [4]), (3, [5]), (2, [5, 12]), (1, [0, 1, 5]), (0, [0, 1])]⟩), (158, ⟨[], [], [(3, [2]), (2, [2]), (1, [4]), (0, [0])]⟩), (159, ⟨[], [], [(7, [2, 3]), (6, [5, 6]), (5, [5, 6]), (4, [5, 6, 19]), (3, [5, 6]), (2, [4, 5]), (1, [0, 4]), (0, [0])]⟩), (160, ⟨[(1, 20)], [], [(3, [2]), (2, [2]), (1, [20]), (0, [1])]⟩), (161, ⟨[], [], [(4, [2]), (3, [2]), (2, [3, 7]), (1, [3]), (0, [0])]⟩), (162, ⟨[], [3], [(12, [4, 5]), (8, [0, 1, 4, 6, 7]), (11, [4, 5]), (10, [0, 1, 4, 6, 7, 8, 34]), (9, [0, 1, 4, 6, 7, 8, 9]), (7, [0, 1, 4, 6, 7, 24]), (6, [0, 1, 4, 6, 7]), (5, [4, 5]), (4, [0, 1, 4, 6, 18]), (3, [0, 1, 4, 6]), (2, [0, 1, 4, 6, 16]), (1, [0, 1, 4, 6]), (0, [0, 1, 4])]⟩), (163, ⟨[(1, 18)], [], [(12, [2, 3, 4, 5]), (11, [9, 11, 12]), (10, [9, 11, 12, 58]), (9, [9, 11, 12]), (8, [7, 9, 11, 12]), (7, [7, 9, 10]), (6, [7, 8, 9]), (5, [7, 8]), (4, [6, 7]), (3, [6]), (2, [2, 3, 4, 5]), (1, [0, 18]), (0, [0])]⟩), (164, ⟨[], [], [(10, [8, 9]), (9, [1, 2, 8, 14]), (8, [1, 2, 3, 8, 14, 66]), (7, [0, 1, 2, 3, 8, 14]), (6, [8, 9]), (5, [0, 1, 2, 3, 8, 12, 51]), (4, [0, 1, 2, 3, 8, 12, 13]), (3, [8, 9]), (2, [0, 1, 2, 3, 8, 35]), (1, [0, 1, 2, 3, 8, 10, 11]), (0, [0, 1, 2, 3, 8])]⟩), (165, ⟨[], [], [(13, [4]), (12, [4]), (11, [19]), (10, [4]), (9, [0, 1, 16]), (8, [4]), (7, [0, 1, 13]), (6, [4]), (5, [4]), (4, [12]), (3, [0, 1, 6, 11]), (2, [0, 1, 5, 6]), (1, [0, 1, 5]), (0, [0, 1])]⟩), (166, ⟨[], [], [(8, [2]), (7, [3, 6, 7, 8]), (6, [2]), (5, [3, 5, 6, 7, 8, 14]), (4, [3, 5, 6, 7, 8]), (3, [3, 6, 7, 8, 9]), (2, [3, 6, 7, 8]), (1, [0, 3]), (0, [0])]⟩), (167, ⟨[], [], [(13, [4]), (12, [4]), (11, [19]), (10, [4]), (9, [0, 1, 16]), (8, [4]), (7, [0, 1, 13]), (6, [4]), (5, [4]), (4, [12]), (3, [0, 1, 6, 11]), (2, [0, 1, 5, 6]), (1, [0, 1, 5]), (0, [0, 1])]⟩), (168, ⟨[], [], [(7, [0, 3, 10, 11, 12]), (6, [0, 3, 10, 11, 12, 33]), (5, [0, 3, 6, 7, 10, 11, 12]), (4, [0, 3, 4, 6, 7, 10, 11, 12]), (3, [0, 3, 4, 5, 10, 11, 12]), (2, [0, 3, 10, 11, 12, 13]), (1, [0, 3, 10, 11, 12]), (0, [0, 1, 3])]⟩), (169, ⟨[], [], [(7, [2]), (6, [3, 6, 7, 8]), (5, [3, 6, 7, 8]), (4, [3, 5, 6, 7, 8]), (3, [3, 6, 7, 8, 9]), (2, [3, 6, 7, 8]), (1, [0, 3]), (0, [0])]⟩), (170, ⟨[], [], [(1, [4, 5]), (0, [0, 1, 4])]⟩), (171, ⟨[], [], [(1, [6]), (0, [1, 3])]⟩), (172, ⟨[], [], [(1, [4]), (0, [1, 2])]⟩), (173, ⟨[], [], [(1, [6]), (0, [2, 3])]⟩), (174, ⟨[], [], [(1, [4]), (0, [0, 1])]⟩), (175, ⟨[], [], [(2, [6]), (1, [3, 7]), (0, [1, 3])]⟩), (176, ⟨[], [], [(2, [6]), (1, [3, 7]), (0, [1, 3])]⟩), (177, ⟨[], [], [(3, [2, 3]), (2, [0, 4, 5]), (1, [0, 4]), (0, [0])]⟩), (178, ⟨[(1, 2)], [], [(1, [2]), (0, [0])]⟩), (179, ⟨[(1, 2)], [], [(1, [2]), (0, [0])]⟩), (180, ⟨[], [], [(14, [4, 5]), (13, [0, 1, 4, 5, 6, 7, 8, 24, 25]), (12, [0, 1, 4, 5, 6, 7, 8, 24, 25]), (11, [0, 1, 4, 5, 6, 7, 8, 13, 24, 25, 86]), (10, [0, 1, 4, 5, 6, 7, 8, 13, 14, 24, 25]), (9, [0, 1, 4, 5, 6, 7, 8, 9, 12, 24, 25, 62]), (8, [0, 1, 4, 5, 6, 7, 8, 9, 10, 11, 12, 24, 25]), (7, [0, 1, 4, 5, 6, 7, 8, 9, 10, 11, 24, 25]), (6, [0, 1, 4, 5, 6, 7, 8, 9, 24, 25]), (5, [0, 1, 4, 5, 6, 7, 8, 24, 25, 26]), (4, [0, 1, 4, 5, 6, 7, 8, 24, 25]), (3, [0, 1, 4, 5, 6, 7, 8]), (2, [0, 1, 4, 5, 6, 7]), (1, [0, 1, 4, 5, 6]), (0, [0, 1, 4, 5])]⟩), (181, ⟨[], [], [(1, [2]), (0, [0])]⟩), (182, ⟨[(5, 31)], [], [(11, [10, 11]), (10, [0, 1, 2, 3, 4, 10, 12, 13, 14, 22]), (9, [0, 1, 2, 3, 4, 10, 12, 13, 14, 22]), (8, [10, 11]), (7, [0, 1, 2, 3, 4, 10, 12, 13, 14, 15, 22, 49]), (6, [0, 1, 2, 3, 4, 10, 12, 13, 14, 15, 16, 22]), (5, [0, 1, 2, 3, 4, 10, 12, 13, 14, 22, 31]), (4, [0, 1, 2, 3, 4, 10, 12, 13, 14, 22, 23]), (3, [0, 1, 2, 3, 4, 10, 12, 13, 14, 22]), (2, [0, 1, 2, 3, 4, 10, 12, 13, 14]), (1, [0, 1, 2, 3, 4, 10, 12]), (0, [0, 1, 2, 3, 4, 10])]⟩), (200, ⟨[], [], [(1, [8]), (0, [1, 3])]⟩), (201, ⟨[(1, 4)], [], [(1, [4]), (0, [1])]⟩), (202, ⟨[], [], [(1, [2]), (0, [])]⟩), (203, ⟨[], [], [(1, [8]), (0, [1, 2])]⟩), (204, ⟨[(1, 4)], [], [(1, [4]), (0, [1])]⟩), (205, ⟨[], [], [(1, [2]), (0, [])]⟩)]
/-- The functions, each with the tests of its regions and the shapes of its loops. -/
noncomputable def xd (tms : List (Nat × List (Nat × Nat × Tm))) (f : Nat) : Option XDesc :=
  match Ax.look fnList f with
  | some (c, nt, rs) => some (c, nt, rs, ⟨(Ax.look jList f).getD noJ, (Ax.look tms f).getD []⟩)
  | none => none

theorem xd_ok (tms : List (Nat × List (Nat × Nat × Tm))) : DXOk P gl tau (xd tms) := by
  intro f c nt res cx h J args H n R ha hp
  unfold xd at h
  split at h
  · rename_i c' nt' rs' hf
    cases h
    exact fnD_ok f c nt res hf J args H n R ha hp
  · cases h
end Go.Proofs.YtcohbcdhcmajiaaDoor
