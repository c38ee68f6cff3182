/-
  The functions of plain data that the laws of this group reach, as the program has them.
-/
import Derived.Test.YtgehedalhppehaaDoorAx33
import Derived.Test.YtgehedalhppehaaDoorAx36
import Derived.Test.YtgehedalhppehaaDoorAx37
import Derived.Test.YtgehedalhppehaaDoorAx39
import Derived.Test.YtgehedalhppehaaDoorHBuilder
namespace Go.Proofs.YtgehedalhppehaaDoor
open Go.Ax
set_option linter.all false
set_option maxRecDepth 100000
noncomputable def F_internal_stringslite_HasSuffix : List Dat → Option (List Dat) := fun ds_0 =>
  onS ds_0 fun s_0 ds_1 =>
  onS ds_1 fun suffix_0 ds_2 =>
  Option.bind (bif (decide ((((suffix_0).length : Nat) : Int) ≤ (((s_0).length : Nat) : Int))) then (bif (decide ((0 ≤ (i64 ((((s_0).length : Nat) : Int) - (((suffix_0).length : Nat) : Int)))) ∧ ((i64 ((((s_0).length : Nat) : Int) - (((suffix_0).length : Nat) : Int))) ≤ (((s_0).length : Nat) : Int)))) then (bif ((List.take ((s_0).length - ((i64 ((((s_0).length : Nat) : Int) - (((suffix_0).length : Nat) : Int)))).toNat) (List.drop ((i64 ((((s_0).length : Nat) : Int) - (((suffix_0).length : Nat) : Int)))).toNat s_0)) == suffix_0) then (some true) else
    (some false)) else none) else
   (some false)) fun b_0 =>
  some [(.b b_0)]
noncomputable def F_internal_stringslite_TrimSuffix : List Dat → Option (List Dat) := fun ds_0 =>
  onS ds_0 fun s_0 ds_1 =>
  onS ds_1 fun suffix_0 ds_2 =>
  Option.bind (F_internal_stringslite_HasSuffix [(.s s_0), (.s suffix_0)]) fun r_0 =>
  onB r_0 fun b_0 ds_3 =>
  bif b_0 then (bif (decide ((0 ≤ (i64 ((((s_0).length : Nat) : Int) - (((suffix_0).length : Nat) : Int)))) ∧ ((i64 ((((s_0).length : Nat) : Int) - (((suffix_0).length : Nat) : Int))) ≤ (((s_0).length : Nat) : Int)))) then (some [(.s (List.take ((i64 ((((s_0).length : Nat) : Int) - (((suffix_0).length : Nat) : Int)))).toNat (List.drop 0 s_0)))]) else none) else
  (some [(.s s_0)])
noncomputable def F_strings_TrimSuffix : List Dat → Option (List Dat) := fun ds_0 =>
  onS ds_0 fun s_0 ds_1 =>
  onS ds_1 fun suffix_0 ds_2 =>
  Option.bind (F_internal_stringslite_TrimSuffix [(.s s_0), (.s suffix_0)]) fun r_0 =>
  onS r_0 fun s_1 ds_3 =>
  some [(.s s_1)]
noncomputable def F_unicode_utf8_decodeRuneInStringSlow : List Dat → Option (List Dat) := fun ds_0 =>
  onS ds_0 fun s_0 ds_1 =>
  bif (decide ((((s_0).length : Nat) : Int) < 1)) then (some [(.i 65533), (.i 0)]) else
  (bif (decide (((0 : Int) ≤ 0) ∧ (0 < (((s_0).length : Nat) : Int)))) then (bif (decide ((0 ≤ ((((List.getD s_0 0 0)).toNat : Nat) : Int)) ∧ (((((List.getD s_0 0 0)).toNat : Nat) : Int) < 256))) then (Option.bind (asI .u8 ([(Ax.AV.int .u8 (Ax.I.lit 240)), (Ax.AV.int .u8 (Ax.I.lit 240)), (Ax.AV.int .u8 (Ax.I.lit 240)), (Ax.AV.int .u8 (Ax.I.lit 240)), (Ax.AV.int .u8 (Ax.I.lit 240)), (Ax.AV.int .u8 (Ax.I.lit 240)), (Ax.AV.int .u8 (Ax.I.lit 240)), (Ax.AV.int .u8 (Ax.I.lit 240)), (Ax.AV.int .u8 (Ax.I.lit 240)), (Ax.AV.int .u8 (Ax.I.lit 240)), (Ax.AV.int .u8 (Ax.I.lit 240)), (Ax.AV.int .u8 (Ax.I.lit 240)), (Ax.AV.int .u8 (Ax.I.lit 240)), (Ax.AV.int .u8 (Ax.I.lit 240)), (Ax.AV.int .u8 (Ax.I.lit 240)), (Ax.AV.int .u8 (Ax.I.lit 240)), (Ax.AV.int .u8 (Ax.I.lit 240)), (Ax.AV.int .u8 (Ax.I.lit 240)), (Ax.AV.int .u8 (Ax.I.lit 240)), (Ax.AV.int .u8 (Ax.I.lit 240)), (Ax.AV.int .u8 (Ax.I.lit 240)), (Ax.AV.int .u8 (Ax.I.lit 240)), (Ax.AV.int .u8 (Ax.I.lit 240)), (Ax.AV.int .u8 (Ax.I.lit 240)), (Ax.AV.int .u8 (Ax.I.lit 240)), (Ax.AV.int .u8 (Ax.I.lit 240)), (Ax.AV.int .u8 (Ax.I.lit 240)), (Ax.AV.int .u8 (Ax.I.lit 240)), (Ax.AV.int .u8 (Ax.I.lit 240)), (Ax.AV.int .u8 (Ax.I.lit 240)), (Ax.AV.int .u8 (Ax.I.lit 240)), (Ax.AV.int .u8 (Ax.I.lit 240)), (Ax.AV.int .u8 (Ax.I.lit 240)), (Ax.AV.int .u8 (Ax.I.lit 240)), (Ax.AV.int .u8 (Ax.I.lit 240)), (Ax.AV.int .u8 (Ax.I.lit 240)), (Ax.AV.int .u8 (Ax.I.lit 240)), (Ax.AV.int .u8 (Ax.I.lit 240)), (Ax.AV.int .u8 (Ax.I.lit 240)), (Ax.AV.int .u8 (Ax.I.lit 240)), (Ax.AV.int .u8 (Ax.I.lit 240)), (Ax.AV.int .u8 (Ax.I.lit 240)), (Ax.AV.int .u8 (Ax.I.lit 240)), (Ax.AV.int .u8 (Ax.I.lit 240)), (Ax.AV.int .u8 (Ax.I.lit 240)), (Ax.AV.int .u8 (Ax.I.lit 240)), (Ax.AV.int .u8 (Ax.I.lit 240)), (Ax.AV.int .u8 (Ax.I.lit 240)), (Ax.AV.int .u8 (Ax.I.lit 240)), (Ax.AV.int .u8 (Ax.I.lit 240)), (Ax.AV.int .u8 (Ax.I.lit 240)), (Ax.AV.int .u8 (Ax.I.lit 240)), (Ax.AV.int .u8 (Ax.I.lit 240)), (Ax.AV.int .u8 (Ax.I.lit 240)), (Ax.AV.int .u8 (Ax.I.lit 240)), (Ax.AV.int .u8 (Ax.I.lit 240)), (Ax.AV.int .u8 (Ax.I.lit 240)), (Ax.AV.int .u8 (Ax.I.lit 240)), (Ax.AV.int .u8 (Ax.I.lit 240)), (Ax.AV.int .u8 (Ax.I.lit 240)), (Ax.AV.int .u8 (Ax.I.lit 240)), (Ax.AV.int .u8 (Ax.I.lit 240)), (Ax.AV.int .u8 (Ax.I.lit 240)), (Ax.AV.int .u8 (Ax.I.lit 240)), (Ax.AV.int .u8 (Ax.I.lit 240)), (Ax.AV.int .u8 (Ax.I.lit 240)), (Ax.AV.int .u8 (Ax.I.lit 240)), (Ax.AV.int .u8 (Ax.I.lit 240)), (Ax.AV.int .u8 (Ax.I.lit 240)), (Ax.AV.int .u8 (Ax.I.lit 240)), (Ax.AV.int .u8 (Ax.I.lit 240)), (Ax.AV.int .u8 (Ax.I.lit 240)), (Ax.AV.int .u8 (Ax.I.lit 240)), (Ax.AV.int .u8 (Ax.I.lit 240)), (Ax.AV.int .u8 (Ax.I.lit 240)), (Ax.AV.int .u8 (Ax.I.lit 240)), (Ax.AV.int .u8 (Ax.I.lit 240)), (Ax.AV.int .u8 (Ax.I.lit 240)), (Ax.AV.int .u8 (Ax.I.lit 240)), (Ax.AV.int .u8 (Ax.I.lit 240)), (Ax.AV.int .u8 (Ax.I.lit 240)), (Ax.AV.int .u8 (Ax.I.lit 240)), (Ax.AV.int .u8 (Ax.I.lit 240)), (Ax.AV.int .u8 (Ax.I.lit 240)), (Ax.AV.int .u8 (Ax.I.lit 240)), (Ax.AV.int .u8 (Ax.I.lit 240)), (Ax.AV.int .u8 (Ax.I.lit 240)), (Ax.AV.int .u8 (Ax.I.lit 240)), (Ax.AV.int .u8 (Ax.I.lit 240)), (Ax.AV.int .u8 (Ax.I.lit 240)), (Ax.AV.int .u8 (Ax.I.lit 240)), (Ax.AV.int .u8 (Ax.I.lit 240)), (Ax.AV.int .u8 (Ax.I.lit 240)), (Ax.AV.int .u8 (Ax.I.lit 240)), (Ax.AV.int .u8 (Ax.I.lit 240)), (Ax.AV.int .u8 (Ax.I.lit 240)), (Ax.AV.int .u8 (Ax.I.lit 240)), (Ax.AV.int .u8 (Ax.I.lit 240)), (Ax.AV.int .u8 (Ax.I.lit 240)), (Ax.AV.int .u8 (Ax.I.lit 240)), (Ax.AV.int .u8 (Ax.I.lit 240)), (Ax.AV.int .u8 (Ax.I.lit 240)), (Ax.AV.int .u8 (Ax.I.lit 240)), (Ax.AV.int .u8 (Ax.I.lit 240)), (Ax.AV.int .u8 (Ax.I.lit 240)), (Ax.AV.int .u8 (Ax.I.lit 240)), (Ax.AV.int .u8 (Ax.I.lit 240)), (Ax.AV.int .u8 (Ax.I.lit 240)), (Ax.AV.int .u8 (Ax.I.lit 240)), (Ax.AV.int .u8 (Ax.I.lit 240)), (Ax.AV.int .u8 (Ax.I.lit 240)), (Ax.AV.int .u8 (Ax.I.lit 240)), (Ax.AV.int .u8 (Ax.I.lit 240)), (Ax.AV.int .u8 (Ax.I.lit 240)), (Ax.AV.int .u8 (Ax.I.lit 240)), (Ax.AV.int .u8 (Ax.I.lit 240)), (Ax.AV.int .u8 (Ax.I.lit 240)), (Ax.AV.int .u8 (Ax.I.lit 240)), (Ax.AV.int .u8 (Ax.I.lit 240)), (Ax.AV.int .u8 (Ax.I.lit 240)), (Ax.AV.int .u8 (Ax.I.lit 240)), (Ax.AV.int .u8 (Ax.I.lit 240)), (Ax.AV.int .u8 (Ax.I.lit 240)), (Ax.AV.int .u8 (Ax.I.lit 240)), (Ax.AV.int .u8 (Ax.I.lit 240)), (Ax.AV.int .u8 (Ax.I.lit 240)), (Ax.AV.int .u8 (Ax.I.lit 240)), (Ax.AV.int .u8 (Ax.I.lit 240)), (Ax.AV.int .u8 (Ax.I.lit 241)), (Ax.AV.int .u8 (Ax.I.lit 241)), (Ax.AV.int .u8 (Ax.I.lit 241)), (Ax.AV.int .u8 (Ax.I.lit 241)), (Ax.AV.int .u8 (Ax.I.lit 241)), (Ax.AV.int .u8 (Ax.I.lit 241)), (Ax.AV.int .u8 (Ax.I.lit 241)), (Ax.AV.int .u8 (Ax.I.lit 241)), (Ax.AV.int .u8 (Ax.I.lit 241)), (Ax.AV.int .u8 (Ax.I.lit 241)), (Ax.AV.int .u8 (Ax.I.lit 241)), (Ax.AV.int .u8 (Ax.I.lit 241)), (Ax.AV.int .u8 (Ax.I.lit 241)), (Ax.AV.int .u8 (Ax.I.lit 241)), (Ax.AV.int .u8 (Ax.I.lit 241)), (Ax.AV.int .u8 (Ax.I.lit 241)), (Ax.AV.int .u8 (Ax.I.lit 241)), (Ax.AV.int .u8 (Ax.I.lit 241)), (Ax.AV.int .u8 (Ax.I.lit 241)), (Ax.AV.int .u8 (Ax.I.lit 241)), (Ax.AV.int .u8 (Ax.I.lit 241)), (Ax.AV.int .u8 (Ax.I.lit 241)), (Ax.AV.int .u8 (Ax.I.lit 241)), (Ax.AV.int .u8 (Ax.I.lit 241)), (Ax.AV.int .u8 (Ax.I.lit 241)), (Ax.AV.int .u8 (Ax.I.lit 241)), (Ax.AV.int .u8 (Ax.I.lit 241)), (Ax.AV.int .u8 (Ax.I.lit 241)), (Ax.AV.int .u8 (Ax.I.lit 241)), (Ax.AV.int .u8 (Ax.I.lit 241)), (Ax.AV.int .u8 (Ax.I.lit 241)), (Ax.AV.int .u8 (Ax.I.lit 241)), (Ax.AV.int .u8 (Ax.I.lit 241)), (Ax.AV.int .u8 (Ax.I.lit 241)), (Ax.AV.int .u8 (Ax.I.lit 241)), (Ax.AV.int .u8 (Ax.I.lit 241)), (Ax.AV.int .u8 (Ax.I.lit 241)), (Ax.AV.int .u8 (Ax.I.lit 241)), (Ax.AV.int .u8 (Ax.I.lit 241)), (Ax.AV.int .u8 (Ax.I.lit 241)), (Ax.AV.int .u8 (Ax.I.lit 241)), (Ax.AV.int .u8 (Ax.I.lit 241)), (Ax.AV.int .u8 (Ax.I.lit 241)), (Ax.AV.int .u8 (Ax.I.lit 241)), (Ax.AV.int .u8 (Ax.I.lit 241)), (Ax.AV.int .u8 (Ax.I.lit 241)), (Ax.AV.int .u8 (Ax.I.lit 241)), (Ax.AV.int .u8 (Ax.I.lit 241)), (Ax.AV.int .u8 (Ax.I.lit 241)), (Ax.AV.int .u8 (Ax.I.lit 241)), (Ax.AV.int .u8 (Ax.I.lit 241)), (Ax.AV.int .u8 (Ax.I.lit 241)), (Ax.AV.int .u8 (Ax.I.lit 241)), (Ax.AV.int .u8 (Ax.I.lit 241)), (Ax.AV.int .u8 (Ax.I.lit 241)), (Ax.AV.int .u8 (Ax.I.lit 241)), (Ax.AV.int .u8 (Ax.I.lit 241)), (Ax.AV.int .u8 (Ax.I.lit 241)), (Ax.AV.int .u8 (Ax.I.lit 241)), (Ax.AV.int .u8 (Ax.I.lit 241)), (Ax.AV.int .u8 (Ax.I.lit 241)), (Ax.AV.int .u8 (Ax.I.lit 241)), (Ax.AV.int .u8 (Ax.I.lit 241)), (Ax.AV.int .u8 (Ax.I.lit 241)), (Ax.AV.int .u8 (Ax.I.lit 241)), (Ax.AV.int .u8 (Ax.I.lit 241)), (Ax.AV.int .u8 (Ax.I.lit 2)), (Ax.AV.int .u8 (Ax.I.lit 2)), (Ax.AV.int .u8 (Ax.I.lit 2)), (Ax.AV.int .u8 (Ax.I.lit 2)), (Ax.AV.int .u8 (Ax.I.lit 2)), (Ax.AV.int .u8 (Ax.I.lit 2)), (Ax.AV.int .u8 (Ax.I.lit 2)), (Ax.AV.int .u8 (Ax.I.lit 2)), (Ax.AV.int .u8 (Ax.I.lit 2)), (Ax.AV.int .u8 (Ax.I.lit 2)), (Ax.AV.int .u8 (Ax.I.lit 2)), (Ax.AV.int .u8 (Ax.I.lit 2)), (Ax.AV.int .u8 (Ax.I.lit 2)), (Ax.AV.int .u8 (Ax.I.lit 2)), (Ax.AV.int .u8 (Ax.I.lit 2)), (Ax.AV.int .u8 (Ax.I.lit 2)), (Ax.AV.int .u8 (Ax.I.lit 2)), (Ax.AV.int .u8 (Ax.I.lit 2)), (Ax.AV.int .u8 (Ax.I.lit 2)), (Ax.AV.int .u8 (Ax.I.lit 2)), (Ax.AV.int .u8 (Ax.I.lit 2)), (Ax.AV.int .u8 (Ax.I.lit 2)), (Ax.AV.int .u8 (Ax.I.lit 2)), (Ax.AV.int .u8 (Ax.I.lit 2)), (Ax.AV.int .u8 (Ax.I.lit 2)), (Ax.AV.int .u8 (Ax.I.lit 2)), (Ax.AV.int .u8 (Ax.I.lit 2)), (Ax.AV.int .u8 (Ax.I.lit 2)), (Ax.AV.int .u8 (Ax.I.lit 2)), (Ax.AV.int .u8 (Ax.I.lit 2)), (Ax.AV.int .u8 (Ax.I.lit 19)), (Ax.AV.int .u8 (Ax.I.lit 3)), (Ax.AV.int .u8 (Ax.I.lit 3)), (Ax.AV.int .u8 (Ax.I.lit 3)), (Ax.AV.int .u8 (Ax.I.lit 3)), (Ax.AV.int .u8 (Ax.I.lit 3)), (Ax.AV.int .u8 (Ax.I.lit 3)), (Ax.AV.int .u8 (Ax.I.lit 3)), (Ax.AV.int .u8 (Ax.I.lit 3)), (Ax.AV.int .u8 (Ax.I.lit 3)), (Ax.AV.int .u8 (Ax.I.lit 3)), (Ax.AV.int .u8 (Ax.I.lit 3)), (Ax.AV.int .u8 (Ax.I.lit 3)), (Ax.AV.int .u8 (Ax.I.lit 35)), (Ax.AV.int .u8 (Ax.I.lit 3)), (Ax.AV.int .u8 (Ax.I.lit 3)), (Ax.AV.int .u8 (Ax.I.lit 52)), (Ax.AV.int .u8 (Ax.I.lit 4)), (Ax.AV.int .u8 (Ax.I.lit 4)), (Ax.AV.int .u8 (Ax.I.lit 4)), (Ax.AV.int .u8 (Ax.I.lit 68)), (Ax.AV.int .u8 (Ax.I.lit 241)), (Ax.AV.int .u8 (Ax.I.lit 241)), (Ax.AV.int .u8 (Ax.I.lit 241)), (Ax.AV.int .u8 (Ax.I.lit 241)), (Ax.AV.int .u8 (Ax.I.lit 241)), (Ax.AV.int .u8 (Ax.I.lit 241)), (Ax.AV.int .u8 (Ax.I.lit 241)), (Ax.AV.int .u8 (Ax.I.lit 241)), (Ax.AV.int .u8 (Ax.I.lit 241)), (Ax.AV.int .u8 (Ax.I.lit 241)), (Ax.AV.int .u8 (Ax.I.lit 241))])[(((((List.getD s_0 0 0)).toNat : Nat) : Int)).toNat]?) fun x_0 =>
   bif (decide (240 ≤ x_0)) then (bif (decide (((0 : Int) ≤ 0) ∧ (0 < (((s_0).length : Nat) : Int)))) then (some [(.i (arith .or .i32 (arith .andNot .i32 (i32 ((((List.getD s_0 0 0)).toNat : Nat) : Int)) (arith .shr .i32 (arith .shl .i32 (i32 x_0) 31) 31)) (arith .and .i32 65533 (arith .shr .i32 (arith .shl .i32 (i32 x_0) 31) 31)))), (.i 1)]) else none) else
   (bif (decide ((0 ≤ (arith .shr .u8 x_0 4)) ∧ ((arith .shr .u8 x_0 4) < 16))) then (Option.bind (asI .u8 ((List.drop (((arith .shr .u8 x_0 4)).toNat * 2) [(Ax.AV.int .u8 (Ax.I.lit 128)), (Ax.AV.int .u8 (Ax.I.lit 191)), (Ax.AV.int .u8 (Ax.I.lit 160)), (Ax.AV.int .u8 (Ax.I.lit 191)), (Ax.AV.int .u8 (Ax.I.lit 128)), (Ax.AV.int .u8 (Ax.I.lit 159)), (Ax.AV.int .u8 (Ax.I.lit 144)), (Ax.AV.int .u8 (Ax.I.lit 191)), (Ax.AV.int .u8 (Ax.I.lit 128)), (Ax.AV.int .u8 (Ax.I.lit 143)), (Ax.AV.int .u8 (Ax.I.lit 0)), (Ax.AV.int .u8 (Ax.I.lit 0)), (Ax.AV.int .u8 (Ax.I.lit 0)), (Ax.AV.int .u8 (Ax.I.lit 0)), (Ax.AV.int .u8 (Ax.I.lit 0)), (Ax.AV.int .u8 (Ax.I.lit 0)), (Ax.AV.int .u8 (Ax.I.lit 0)), (Ax.AV.int .u8 (Ax.I.lit 0)), (Ax.AV.int .u8 (Ax.I.lit 0)), (Ax.AV.int .u8 (Ax.I.lit 0)), (Ax.AV.int .u8 (Ax.I.lit 0)), (Ax.AV.int .u8 (Ax.I.lit 0)), (Ax.AV.int .u8 (Ax.I.lit 0)), (Ax.AV.int .u8 (Ax.I.lit 0)), (Ax.AV.int .u8 (Ax.I.lit 0)), (Ax.AV.int .u8 (Ax.I.lit 0)), (Ax.AV.int .u8 (Ax.I.lit 0)), (Ax.AV.int .u8 (Ax.I.lit 0)), (Ax.AV.int .u8 (Ax.I.lit 0)), (Ax.AV.int .u8 (Ax.I.lit 0)), (Ax.AV.int .u8 (Ax.I.lit 0)), (Ax.AV.int .u8 (Ax.I.lit 0))]))[0]?) fun x_1 =>
    Option.bind (asI .u8 ((List.drop 1 (List.drop (((arith .shr .u8 x_0 4)).toNat * 2) [(Ax.AV.int .u8 (Ax.I.lit 128)), (Ax.AV.int .u8 (Ax.I.lit 191)), (Ax.AV.int .u8 (Ax.I.lit 160)), (Ax.AV.int .u8 (Ax.I.lit 191)), (Ax.AV.int .u8 (Ax.I.lit 128)), (Ax.AV.int .u8 (Ax.I.lit 159)), (Ax.AV.int .u8 (Ax.I.lit 144)), (Ax.AV.int .u8 (Ax.I.lit 191)), (Ax.AV.int .u8 (Ax.I.lit 128)), (Ax.AV.int .u8 (Ax.I.lit 143)), (Ax.AV.int .u8 (Ax.I.lit 0)), (Ax.AV.int .u8 (Ax.I.lit 0)), (Ax.AV.int .u8 (Ax.I.lit 0)), (Ax.AV.int .u8 (Ax.I.lit 0)), (Ax.AV.int .u8 (Ax.I.lit 0)), (Ax.AV.int .u8 (Ax.I.lit 0)), (Ax.AV.int .u8 (Ax.I.lit 0)), (Ax.AV.int .u8 (Ax.I.lit 0)), (Ax.AV.int .u8 (Ax.I.lit 0)), (Ax.AV.int .u8 (Ax.I.lit 0)), (Ax.AV.int .u8 (Ax.I.lit 0)), (Ax.AV.int .u8 (Ax.I.lit 0)), (Ax.AV.int .u8 (Ax.I.lit 0)), (Ax.AV.int .u8 (Ax.I.lit 0)), (Ax.AV.int .u8 (Ax.I.lit 0)), (Ax.AV.int .u8 (Ax.I.lit 0)), (Ax.AV.int .u8 (Ax.I.lit 0)), (Ax.AV.int .u8 (Ax.I.lit 0)), (Ax.AV.int .u8 (Ax.I.lit 0)), (Ax.AV.int .u8 (Ax.I.lit 0)), (Ax.AV.int .u8 (Ax.I.lit 0)), (Ax.AV.int .u8 (Ax.I.lit 0))])))[0]?) fun x_2 =>
    bif (decide ((((s_0).length : Nat) : Int) < (i64 (arith .and .u8 x_0 7)))) then (some [(.i 65533), (.i 1)]) else
    (bif (decide (((0 : Int) ≤ 1) ∧ (1 < (((s_0).length : Nat) : Int)))) then (Option.bind (bif (decide (((((List.getD s_0 1 0)).toNat : Nat) : Int) < x_1)) then (some true) else
      (bif (decide (x_2 < ((((List.getD s_0 1 0)).toNat : Nat) : Int))) then (some true) else
       (some false))) fun b_0 =>
     bif b_0 then (some [(.i 65533), (.i 1)]) else
     (bif (decide ((i64 (arith .and .u8 x_0 7)) ≤ 2)) then (some [(.i (arith .or .i32 (arith .shl .i32 (i32 (arith .and .u8 ((((List.getD s_0 0 0)).toNat : Nat) : Int) 31)) 6) (i32 (arith .and .u8 ((((List.getD s_0 1 0)).toNat : Nat) : Int) 63)))), (.i 2)]) else
      (bif (decide (((0 : Int) ≤ 2) ∧ (2 < (((s_0).length : Nat) : Int)))) then (Option.bind (bif (decide (((((List.getD s_0 2 0)).toNat : Nat) : Int) < 128)) then (some true) else
        (bif (decide (191 < ((((List.getD s_0 2 0)).toNat : Nat) : Int))) then (some true) else
         (some false))) fun b_1 =>
       bif b_1 then (some [(.i 65533), (.i 1)]) else
       (bif (decide ((i64 (arith .and .u8 x_0 7)) ≤ 3)) then (some [(.i (arith .or .i32 (arith .or .i32 (arith .shl .i32 (i32 (arith .and .u8 ((((List.getD s_0 0 0)).toNat : Nat) : Int) 15)) 12) (arith .shl .i32 (i32 (arith .and .u8 ((((List.getD s_0 1 0)).toNat : Nat) : Int) 63)) 6)) (i32 (arith .and .u8 ((((List.getD s_0 2 0)).toNat : Nat) : Int) 63)))), (.i 3)]) else
        (bif (decide (((0 : Int) ≤ 3) ∧ (3 < (((s_0).length : Nat) : Int)))) then (Option.bind (bif (decide (((((List.getD s_0 3 0)).toNat : Nat) : Int) < 128)) then (some true) else
          (bif (decide (191 < ((((List.getD s_0 3 0)).toNat : Nat) : Int))) then (some true) else
           (some false))) fun b_2 =>
         bif b_2 then (some [(.i 65533), (.i 1)]) else
         (some [(.i (arith .or .i32 (arith .or .i32 (arith .or .i32 (arith .shl .i32 (i32 (arith .and .u8 ((((List.getD s_0 0 0)).toNat : Nat) : Int) 7)) 18) (arith .shl .i32 (i32 (arith .and .u8 ((((List.getD s_0 1 0)).toNat : Nat) : Int) 63)) 12)) (arith .shl .i32 (i32 (arith .and .u8 ((((List.getD s_0 2 0)).toNat : Nat) : Int) 63)) 6)) (i32 (arith .and .u8 ((((List.getD s_0 3 0)).toNat : Nat) : Int) 63)))), (.i 4)])) else none))) else none))) else none)) else none)) else none) else none)
noncomputable def F_unicode_utf8_DecodeRuneInString : List Dat → Option (List Dat) := fun ds_0 =>
  onS ds_0 fun s_0 ds_1 =>
  Option.bind (bif (!(s_0 == ([] : List UInt8))) then (bif (decide (((0 : Int) ≤ 0) ∧ (0 < (((s_0).length : Nat) : Int)))) then (bif (decide (((((List.getD s_0 0 0)).toNat : Nat) : Int) < 128)) then (some true) else
    (some false)) else none) else
   (some false)) fun b_0 =>
  bif b_0 then (bif (decide (((0 : Int) ≤ 0) ∧ (0 < (((s_0).length : Nat) : Int)))) then (some [(.i (i32 ((((List.getD s_0 0 0)).toNat : Nat) : Int))), (.i 1)]) else none) else
  (Option.bind (F_unicode_utf8_decodeRuneInStringSlow [(.s s_0)]) fun r_0 =>
   onI r_0 fun i_0 ds_2 =>
   onI ds_2 fun i_1 ds_3 =>
   some [(.i i_0), (.i i_1)])
noncomputable def F_strings_genSplit_L0 : List Dat → Option (List Dat ⊕ List Dat) := fun ds_6 =>
  onS ds_6 fun s_1 ds_7 =>
  onS ds_7 fun sep_1 ds_8 =>
  onI ds_8 fun sepSave_1 ds_9 =>
  onI ds_9 fun n_1 ds_10 =>
  onN ds_10 fun an_0 ds_11 =>
  onN ds_11 fun ac_0 ds_12 =>
  onI ds_12 fun i_1 ds_13 =>
  onL ds_13 fun cells_0 ds_14 =>
  bif (decide (i_1 < n_1)) then (Option.bind (Ax.strIndex [(.s s_1), (.s sep_1)]) fun r_1 =>
   onI r_1 fun i_2 ds_15 =>
   bif (decide (i_2 < 0)) then (Option.map .inr (bif (decide ((0 ≤ i_1) ∧ (i_1 < ((an_0 : Nat) : Int)))) then (bif (decide (((i_1).toNat + 1) ≤ (cells_0).length)) then (bif (decide (([(Ax.AV.str (Ax.S.sym s_1))]).length = 1)) then (bif (decide (an_0 ≤ ac_0)) then (bif (decide ((0 ≤ (i64 (i_1 + 1))) ∧ ((i64 (i_1 + 1)) ≤ ((ac_0 : Nat) : Int)))) then (bif (decide (0 < ac_0)) then (bif (decide ((0 + (((i64 (i_1 + 1))).toNat * 1)) ≤ ((Ax.write cells_0 (i_1).toNat [(Ax.AV.str (Ax.S.sym s_1))])).length)) then (bif (List.all (List.take (((i64 (i_1 + 1))).toNat * 1) (List.drop 0 (Ax.write cells_0 (i_1).toNat [(Ax.AV.str (Ax.S.sym s_1))]))) (Ax.closedN 20)) then (some [(.n ((i64 (i_1 + 1))).toNat), (.l (List.take (((i64 (i_1 + 1))).toNat * 1) (List.drop 0 (Ax.write cells_0 (i_1).toNat [(Ax.AV.str (Ax.S.sym s_1))]))))]) else
       (none)) else
      (none)) else
     (some [(.n 0), (.l [])])) else none) else none) else none) else none) else none)) else
   (bif (decide ((0 ≤ (i64 (i_2 + sepSave_1))) ∧ ((i64 (i_2 + sepSave_1)) ≤ (((s_1).length : Nat) : Int)))) then (bif (decide ((0 ≤ i_1) ∧ (i_1 < ((an_0 : Nat) : Int)))) then (bif (decide (((i_1).toNat + 1) ≤ (cells_0).length)) then (bif (decide (([(Ax.AV.str (Ax.S.sym (List.take ((i64 (i_2 + sepSave_1))).toNat (List.drop 0 s_1))))]).length = 1)) then (bif (decide ((0 ≤ (i64 (i_2 + (((sep_1).length : Nat) : Int)))) ∧ ((i64 (i_2 + (((sep_1).length : Nat) : Int))) ≤ (((s_1).length : Nat) : Int)))) then (bif (List.all (Ax.write cells_0 (i_1).toNat [(Ax.AV.str (Ax.S.sym (List.take ((i64 (i_2 + sepSave_1))).toNat (List.drop 0 s_1))))]) (Ax.closedN 20)) then (some (.inl [(.s (List.take ((s_1).length - ((i64 (i_2 + (((sep_1).length : Nat) : Int)))).toNat) (List.drop ((i64 (i_2 + (((sep_1).length : Nat) : Int)))).toNat s_1))), (.s sep_1), (.i sepSave_1), (.i n_1), (.n an_0), (.n ac_0), (.i (i64 (i_1 + 1))), (.l (Ax.write cells_0 (i_1).toNat [(Ax.AV.str (Ax.S.sym (List.take ((i64 (i_2 + sepSave_1))).toNat (List.drop 0 s_1))))]))])) else
    (none)) else none) else none) else none) else none) else none)) else
  (Option.map .inr (bif (decide ((0 ≤ i_1) ∧ (i_1 < ((an_0 : Nat) : Int)))) then (bif (decide (((i_1).toNat + 1) ≤ (cells_0).length)) then (bif (decide (([(Ax.AV.str (Ax.S.sym s_1))]).length = 1)) then (bif (decide (an_0 ≤ ac_0)) then (bif (decide ((0 ≤ (i64 (i_1 + 1))) ∧ ((i64 (i_1 + 1)) ≤ ((ac_0 : Nat) : Int)))) then (bif (decide (0 < ac_0)) then (bif (decide ((0 + (((i64 (i_1 + 1))).toNat * 1)) ≤ ((Ax.write cells_0 (i_1).toNat [(Ax.AV.str (Ax.S.sym s_1))])).length)) then (bif (List.all (List.take (((i64 (i_1 + 1))).toNat * 1) (List.drop 0 (Ax.write cells_0 (i_1).toNat [(Ax.AV.str (Ax.S.sym s_1))]))) (Ax.closedN 20)) then (some [(.n ((i64 (i_1 + 1))).toNat), (.l (List.take (((i64 (i_1 + 1))).toNat * 1) (List.drop 0 (Ax.write cells_0 (i_1).toNat [(Ax.AV.str (Ax.S.sym s_1))]))))]) else
      (none)) else
     (none)) else
    (some [(.n 0), (.l [])])) else none) else none) else none) else none) else none))
noncomputable def F_strings_genSplit_L1 : List Dat → Option (List Dat ⊕ List Dat) := fun ds_16 =>
  onS ds_16 fun s_2 ds_17 =>
  onS ds_17 fun s_3 ds_18 =>
  onI ds_18 fun i_3 ds_19 =>
  onI ds_19 fun i_4 ds_20 =>
  onN ds_20 fun n_2 ds_21 =>
  onN ds_21 fun n_3 ds_22 =>
  onI ds_22 fun i_5 ds_23 =>
  onL ds_23 fun l_0 ds_24 =>
  bif (decide (i_5 < i_4)) then (Option.bind (Ax.strIndex [(.s s_2), (.s s_3)]) fun r_2 =>
   onI r_2 fun i_6 ds_25 =>
   bif (decide (i_6 < 0)) then (Option.map .inr (bif (decide ((0 ≤ i_5) ∧ (i_5 < ((n_2 : Nat) : Int)))) then (bif (decide (((i_5).toNat + 1) ≤ (l_0).length)) then (bif (decide (([(Ax.AV.str (Ax.S.sym s_2))]).length = 1)) then (bif (decide (n_2 ≤ n_3)) then (bif (decide ((0 ≤ (i64 (i_5 + 1))) ∧ ((i64 (i_5 + 1)) ≤ ((n_3 : Nat) : Int)))) then (bif (decide (0 < n_3)) then (bif (decide ((0 + (((i64 (i_5 + 1))).toNat * 1)) ≤ ((Ax.write l_0 (i_5).toNat [(Ax.AV.str (Ax.S.sym s_2))])).length)) then (bif (List.all (List.take (((i64 (i_5 + 1))).toNat * 1) (List.drop 0 (Ax.write l_0 (i_5).toNat [(Ax.AV.str (Ax.S.sym s_2))]))) (Ax.closedN 20)) then (some [(.n ((i64 (i_5 + 1))).toNat), (.l (List.take (((i64 (i_5 + 1))).toNat * 1) (List.drop 0 (Ax.write l_0 (i_5).toNat [(Ax.AV.str (Ax.S.sym s_2))]))))]) else
       (none)) else
      (none)) else
     (some [(.n 0), (.l [])])) else none) else none) else none) else none) else none)) else
   (bif (decide ((0 ≤ (i64 (i_6 + i_3))) ∧ ((i64 (i_6 + i_3)) ≤ (((s_2).length : Nat) : Int)))) then (bif (decide ((0 ≤ i_5) ∧ (i_5 < ((n_2 : Nat) : Int)))) then (bif (decide (((i_5).toNat + 1) ≤ (l_0).length)) then (bif (decide (([(Ax.AV.str (Ax.S.sym (List.take ((i64 (i_6 + i_3))).toNat (List.drop 0 s_2))))]).length = 1)) then (bif (decide ((0 ≤ (i64 (i_6 + (((s_3).length : Nat) : Int)))) ∧ ((i64 (i_6 + (((s_3).length : Nat) : Int))) ≤ (((s_2).length : Nat) : Int)))) then (bif (List.all (Ax.write l_0 (i_5).toNat [(Ax.AV.str (Ax.S.sym (List.take ((i64 (i_6 + i_3))).toNat (List.drop 0 s_2))))]) (Ax.closedN 20)) then (some (.inl [(.s (List.take ((s_2).length - ((i64 (i_6 + (((s_3).length : Nat) : Int)))).toNat) (List.drop ((i64 (i_6 + (((s_3).length : Nat) : Int)))).toNat s_2))), (.s s_3), (.i i_3), (.i i_4), (.n n_2), (.n n_3), (.i (i64 (i_5 + 1))), (.l (Ax.write l_0 (i_5).toNat [(Ax.AV.str (Ax.S.sym (List.take ((i64 (i_6 + i_3))).toNat (List.drop 0 s_2))))]))])) else
    (none)) else none) else none) else none) else none) else none)) else
  (Option.map .inr (bif (decide ((0 ≤ i_5) ∧ (i_5 < ((n_2 : Nat) : Int)))) then (bif (decide (((i_5).toNat + 1) ≤ (l_0).length)) then (bif (decide (([(Ax.AV.str (Ax.S.sym s_2))]).length = 1)) then (bif (decide (n_2 ≤ n_3)) then (bif (decide ((0 ≤ (i64 (i_5 + 1))) ∧ ((i64 (i_5 + 1)) ≤ ((n_3 : Nat) : Int)))) then (bif (decide (0 < n_3)) then (bif (decide ((0 + (((i64 (i_5 + 1))).toNat * 1)) ≤ ((Ax.write l_0 (i_5).toNat [(Ax.AV.str (Ax.S.sym s_2))])).length)) then (bif (List.all (List.take (((i64 (i_5 + 1))).toNat * 1) (List.drop 0 (Ax.write l_0 (i_5).toNat [(Ax.AV.str (Ax.S.sym s_2))]))) (Ax.closedN 20)) then (some [(.n ((i64 (i_5 + 1))).toNat), (.l (List.take (((i64 (i_5 + 1))).toNat * 1) (List.drop 0 (Ax.write l_0 (i_5).toNat [(Ax.AV.str (Ax.S.sym s_2))]))))]) else
      (none)) else
     (none)) else
    (some [(.n 0), (.l [])])) else none) else none) else none) else none) else none))
noncomputable def F_strings_genSplit : List Dat → Option (List Dat) := fun ds_0 =>
  onS ds_0 fun s_0 ds_1 =>
  onS ds_1 fun sep_0 ds_2 =>
  onI ds_2 fun sepSave_0 ds_3 =>
  onI ds_3 fun n_0 ds_4 =>
  bif (decide (n_0 = 0)) then (some [(.n 0), (.l [])]) else
  (bif (sep_0 == ([] : List UInt8)) then (none) else
   (bif (decide (n_0 < 0)) then (Option.bind (Ax.strCount1 [(.s s_0), (.s sep_0)]) fun r_0 =>
     onI r_0 fun i_0 ds_5 =>
     bif (decide ((0 ≤ (if (i64 ((((s_0).length : Nat) : Int) + 1)) < (i64 (i_0 + 1)) then (i64 ((((s_0).length : Nat) : Int) + 1)) else (i64 (i_0 + 1)))) ∧ ((if (i64 ((((s_0).length : Nat) : Int) + 1)) < (i64 (i_0 + 1)) then (i64 ((((s_0).length : Nat) : Int) + 1)) else (i64 (i_0 + 1))) ≤ 9223372036854775807))) then (bif (decide ((0 ≤ (if (i64 ((((s_0).length : Nat) : Int) + 1)) < (i64 (i_0 + 1)) then (i64 ((((s_0).length : Nat) : Int) + 1)) else (i64 (i_0 + 1)))) ∧ ((if (i64 ((((s_0).length : Nat) : Int) + 1)) < (i64 (i_0 + 1)) then (i64 ((((s_0).length : Nat) : Int) + 1)) else (i64 (i_0 + 1))) ≤ ((((if (i64 ((((s_0).length : Nat) : Int) + 1)) < (i64 (i_0 + 1)) then (i64 ((((s_0).length : Nat) : Int) + 1)) else (i64 (i_0 + 1)))).toNat : Nat) : Int)))) then (bif (decide ((((if (i64 ((((s_0).length : Nat) : Int) + 1)) < (i64 (i_0 + 1)) then (i64 ((((s_0).length : Nat) : Int) + 1)) else (i64 (i_0 + 1)))).toNat * 16) ≤ 140737488355328)) then (bif (List.all (Ax.listC ((if (i64 ((((s_0).length : Nat) : Int) + 1)) < (i64 (i_0 + 1)) then (i64 ((((s_0).length : Nat) : Int) + 1)) else (i64 (i_0 + 1)))).toNat [(Ax.AV.str (Ax.S.lit ([] : List UInt8)))]) (Ax.closedN 20)) then (iter F_strings_genSplit_L0 [(.s s_0), (.s sep_0), (.i sepSave_0), (.i (i64 ((if (i64 ((((s_0).length : Nat) : Int) + 1)) < (i64 (i_0 + 1)) then (i64 ((((s_0).length : Nat) : Int) + 1)) else (i64 (i_0 + 1))) - 1))), (.n ((if (i64 ((((s_0).length : Nat) : Int) + 1)) < (i64 (i_0 + 1)) then (i64 ((((s_0).length : Nat) : Int) + 1)) else (i64 (i_0 + 1)))).toNat), (.n ((if (i64 ((((s_0).length : Nat) : Int) + 1)) < (i64 (i_0 + 1)) then (i64 ((((s_0).length : Nat) : Int) + 1)) else (i64 (i_0 + 1)))).toNat), (.i 0), (.l (Ax.listC ((if (i64 ((((s_0).length : Nat) : Int) + 1)) < (i64 (i_0 + 1)) then (i64 ((((s_0).length : Nat) : Int) + 1)) else (i64 (i_0 + 1)))).toNat [(Ax.AV.str (Ax.S.lit ([] : List UInt8)))]))]) else
     (none)) else none) else none) else none) else
    (bif (decide ((0 ≤ (if (i64 ((((s_0).length : Nat) : Int) + 1)) < n_0 then (i64 ((((s_0).length : Nat) : Int) + 1)) else n_0)) ∧ ((if (i64 ((((s_0).length : Nat) : Int) + 1)) < n_0 then (i64 ((((s_0).length : Nat) : Int) + 1)) else n_0) ≤ 9223372036854775807))) then (bif (decide ((0 ≤ (if (i64 ((((s_0).length : Nat) : Int) + 1)) < n_0 then (i64 ((((s_0).length : Nat) : Int) + 1)) else n_0)) ∧ ((if (i64 ((((s_0).length : Nat) : Int) + 1)) < n_0 then (i64 ((((s_0).length : Nat) : Int) + 1)) else n_0) ≤ ((((if (i64 ((((s_0).length : Nat) : Int) + 1)) < n_0 then (i64 ((((s_0).length : Nat) : Int) + 1)) else n_0)).toNat : Nat) : Int)))) then (bif (decide ((((if (i64 ((((s_0).length : Nat) : Int) + 1)) < n_0 then (i64 ((((s_0).length : Nat) : Int) + 1)) else n_0)).toNat * 16) ≤ 140737488355328)) then (bif (List.all (Ax.listC ((if (i64 ((((s_0).length : Nat) : Int) + 1)) < n_0 then (i64 ((((s_0).length : Nat) : Int) + 1)) else n_0)).toNat [(Ax.AV.str (Ax.S.lit ([] : List UInt8)))]) (Ax.closedN 20)) then (iter F_strings_genSplit_L1 [(.s s_0), (.s sep_0), (.i sepSave_0), (.i (i64 ((if (i64 ((((s_0).length : Nat) : Int) + 1)) < n_0 then (i64 ((((s_0).length : Nat) : Int) + 1)) else n_0) - 1))), (.n ((if (i64 ((((s_0).length : Nat) : Int) + 1)) < n_0 then (i64 ((((s_0).length : Nat) : Int) + 1)) else n_0)).toNat), (.n ((if (i64 ((((s_0).length : Nat) : Int) + 1)) < n_0 then (i64 ((((s_0).length : Nat) : Int) + 1)) else n_0)).toNat), (.i 0), (.l (Ax.listC ((if (i64 ((((s_0).length : Nat) : Int) + 1)) < n_0 then (i64 ((((s_0).length : Nat) : Int) + 1)) else n_0)).toNat [(Ax.AV.str (Ax.S.lit ([] : List UInt8)))]))]) else
     (none)) else none) else none) else none)))
noncomputable def F_strings_Split : List Dat → Option (List Dat) := fun ds_0 =>
  onS ds_0 fun s_0 ds_1 =>
  onS ds_1 fun sep_0 ds_2 =>
  Option.bind (F_strings_genSplit [(.s s_0), (.s sep_0), (.i 0), (.i (-1))]) fun r_0 =>
  onN r_0 fun n_0 ds_3 =>
  onL ds_3 fun l_0 ds_4 =>
  some [(.n n_0), (.l l_0)]
noncomputable def F_lexeme_Lines_L0 : List Dat → Option (List Dat ⊕ List Dat) := fun ds_5 =>
  onN ds_5 fun linesn_0 ds_6 =>
  onL ds_6 fun linesl_0 ds_7 =>
  onN ds_7 fun vn_0 ds_8 =>
  onL ds_8 fun vl_0 ds_9 =>
  onI ds_9 fun v_0 ds_10 =>
  onI ds_10 fun v_1 ds_11 =>
  bif (decide (v_1 < v_0)) then (bif (decide ((0 ≤ v_1) ∧ (v_1 < ((vn_0 : Nat) : Int)))) then (Option.bind (asS (vl_0)[(v_1).toNat]?) fun s_1 =>
   bif (decide (300 < (((s_1).length : Nat) : Int))) then (Option.map .inr (some [(.n 0), (.l []), (.i (i64 (v_1 + 1))), (.i 6)])) else
   (some (.inl [(.n linesn_0), (.l linesl_0), (.n vn_0), (.l vl_0), (.i v_0), (.i (i64 (v_1 + 1)))]))) else none) else
  (Option.map .inr (some [(.n linesn_0), (.l linesl_0), (.i 0), (.i 0)]))
noncomputable def F_lexeme_Lines : List Dat → Option (List Dat) := fun ds_0 =>
  onS ds_0 fun text_0 ds_1 =>
  bif (decide (8388608 < (((text_0).length : Nat) : Int))) then (some [(.n 0), (.l []), (.i 1), (.i 6)]) else
  (Option.bind (F_strings_TrimSuffix [(.s text_0), (.s ([10] : List UInt8))]) fun r_0 =>
   onS r_0 fun s_0 ds_2 =>
   Option.bind (F_strings_Split [(.s s_0), (.s ([10] : List UInt8))]) fun r_1 =>
   onN r_1 fun n_0 ds_3 =>
   onL ds_3 fun l_0 ds_4 =>
   iter F_lexeme_Lines_L0 [(.n n_0), (.l l_0), (.n n_0), (.l l_0), (.i ((n_0 : Nat) : Int)), (.i 0)])
noncomputable def F_slices_Equalstring_string__L0 : List Dat → Option (List Dat ⊕ List Dat) := fun ds_5 =>
  onN ds_5 fun s1n_1 ds_6 =>
  onL ds_6 fun s1l_1 ds_7 =>
  onN ds_7 fun s2n_1 ds_8 =>
  onL ds_8 fun s2l_1 ds_9 =>
  onI ds_9 fun v_0 ds_10 =>
  onI ds_10 fun v_1 ds_11 =>
  bif (decide (v_1 < v_0)) then (bif (decide ((0 ≤ v_1) ∧ (v_1 < ((s1n_1 : Nat) : Int)))) then (Option.bind (asS (s1l_1)[(v_1).toNat]?) fun s_0 =>
   bif (decide ((0 ≤ v_1) ∧ (v_1 < ((s2n_1 : Nat) : Int)))) then (Option.bind (asS (s2l_1)[(v_1).toNat]?) fun s_1 =>
   bif (!(s_0 == s_1)) then (Option.map .inr (some [(.b false)])) else
   (some (.inl [(.n s1n_1), (.l s1l_1), (.n s2n_1), (.l s2l_1), (.i v_0), (.i (i64 (v_1 + 1)))]))) else none) else none) else
  (Option.map .inr (some [(.b true)]))
noncomputable def F_slices_Equalstring_string_ : List Dat → Option (List Dat) := fun ds_0 =>
  onN ds_0 fun s1n_0 ds_1 =>
  onL ds_1 fun s1l_0 ds_2 =>
  onN ds_2 fun s2n_0 ds_3 =>
  onL ds_3 fun s2l_0 ds_4 =>
  bif (!decide (((s1n_0 : Nat) : Int) = ((s2n_0 : Nat) : Int))) then (some [(.b false)]) else
  (iter F_slices_Equalstring_string__L0 [(.n s1n_0), (.l s1l_0), (.n s2n_0), (.l s2l_0), (.i ((s1n_0 : Nat) : Int)), (.i 0)])
noncomputable def F_lexeme_Fields_L0 : List Dat → Option (List Dat ⊕ List Dat) := fun ds_2 =>
  onS ds_2 fun line_1 ds_3 =>
  onB ds_3 fun quoted_0 ds_4 =>
  onI ds_4 fun v_0 ds_5 =>
  onI ds_5 fun v_1 ds_6 =>
  onN ds_6 fun c_0 ds_7 =>
  onN ds_7 fun c_1 ds_8 =>
  onB ds_8 fun c_2 ds_9 =>
  onL ds_9 fun cells_0 ds_10 =>
  onL ds_10 fun cells_1 ds_11 =>
  bif (decide (v_1 < v_0)) then (bif (decide ((0 ≤ v_1) ∧ (v_1 < (((line_1).length : Nat) : Int)))) then (Option.bind (bif (decide (((((List.getD line_1 (v_1).toNat 0)).toNat : Nat) : Int) = 35)) then (some (!quoted_0)) else
    (some false)) fun b_0 =>
   bif b_0 then (Option.map .inr (bif quoted_0 then (some [(.n 0), (.l []), (.i 5)]) else
     (bif c_2 then (bif (decide ((cells_1).length = c_1)) then (Option.bind (bytesOf cells_1) fun s_0 =>
       bif (decide ((cells_0).length = c_0)) then (bif (decide (((c_0 + 1) * 16) ≤ 140737488355328)) then (bif (decide ((0 + ((c_0 + 1) * 1)) ≤ ((cells_0 ++ [(Ax.AV.str (Ax.S.sym s_0))])).length)) then (bif (List.all (List.take ((c_0 + 1) * 1) (List.drop 0 (cells_0 ++ [(Ax.AV.str (Ax.S.sym s_0))]))) (Ax.closedN 20)) then (some [(.n (c_0 + 1)), (.l (List.take ((c_0 + 1) * 1) (List.drop 0 (cells_0 ++ [(Ax.AV.str (Ax.S.sym s_0))])))), (.i 0)]) else
        (none)) else
       (none)) else none) else none) else none) else
      (bif (decide ((cells_0).length = (c_0 * 1))) then (bif (List.all cells_0 (Ax.closedN 20)) then (some [(.n c_0), (.l cells_0), (.i 0)]) else
        (none)) else
       (none))))) else
   (bif (decide (((((List.getD line_1 (v_1).toNat 0)).toNat : Nat) : Int) = 34)) then (bif (List.all cells_0 (Ax.closedN 20)) then (bif (List.all cells_1 (Ax.closedN 20)) then (some (.inl [(.s line_1), (.b (!quoted_0)), (.i v_0), (.i (i64 (v_1 + 1))), (.n c_0), (.n c_1), (.b true), (.l cells_0), (.l cells_1)])) else
      (none)) else
     (none)) else
    (bif (decide (((((List.getD line_1 (v_1).toNat 0)).toNat : Nat) : Int) = 9)) then (bif quoted_0 then (Option.map .inr (some [(.n 0), (.l []), (.i 5)])) else
      (bif c_2 then (bif (decide ((cells_1).length = c_1)) then (Option.bind (bytesOf cells_1) fun s_1 =>
        bif (decide ((cells_0).length = c_0)) then (bif (decide (((c_0 + 1) * 16) ≤ 140737488355328)) then (bif (List.all (cells_0 ++ [(Ax.AV.str (Ax.S.sym s_1))]) (Ax.closedN 20)) then (some (.inl [(.s line_1), (.b quoted_0), (.i v_0), (.i (i64 (v_1 + 1))), (.n (c_0 + 1)), (.n 0), (.b false), (.l (cells_0 ++ [(Ax.AV.str (Ax.S.sym s_1))])), (.l [])])) else
        (none)) else none) else none) else none) else
       (bif (List.all cells_0 (Ax.closedN 20)) then (some (.inl [(.s line_1), (.b quoted_0), (.i v_0), (.i (i64 (v_1 + 1))), (.n c_0), (.n 0), (.b false), (.l cells_0), (.l [])])) else
        (none)))) else
     (Option.bind (bif (decide (((((List.getD line_1 (v_1).toNat 0)).toNat : Nat) : Int) = 32)) then (some (!quoted_0)) else
       (some false)) fun b_1 =>
      bif b_1 then (bif c_2 then (bif (decide ((cells_1).length = c_1)) then (Option.bind (bytesOf cells_1) fun s_2 =>
        bif (decide ((cells_0).length = c_0)) then (bif (decide (((c_0 + 1) * 16) ≤ 140737488355328)) then (bif (List.all (cells_0 ++ [(Ax.AV.str (Ax.S.sym s_2))]) (Ax.closedN 20)) then (some (.inl [(.s line_1), (.b quoted_0), (.i v_0), (.i (i64 (v_1 + 1))), (.n (c_0 + 1)), (.n 0), (.b false), (.l (cells_0 ++ [(Ax.AV.str (Ax.S.sym s_2))])), (.l [])])) else
        (none)) else none) else none) else none) else
       (bif (List.all cells_0 (Ax.closedN 20)) then (some (.inl [(.s line_1), (.b quoted_0), (.i v_0), (.i (i64 (v_1 + 1))), (.n c_0), (.n 0), (.b false), (.l cells_0), (.l [])])) else
        (none))) else
      (Option.bind (bif (decide (((((List.getD line_1 (v_1).toNat 0)).toNat : Nat) : Int) < 32)) then (some true) else
        (bif (decide (126 < ((((List.getD line_1 (v_1).toNat 0)).toNat : Nat) : Int))) then (some true) else
         (some false))) fun b_2 =>
       bif b_2 then (Option.map .inr (some [(.n 0), (.l []), (.i 5)])) else
       (bif (decide ((cells_1).length = c_1)) then (bif (decide (((c_1 + 1) * 1) ≤ 140737488355328)) then (bif (List.all cells_0 (Ax.closedN 20)) then (bif (List.all (cells_1 ++ [(Ax.AV.int .u8 (Ax.I.sym ((((List.getD line_1 (v_1).toNat 0)).toNat : Nat) : Int)))]) (Ax.closedN 20)) then (some (.inl [(.s line_1), (.b quoted_0), (.i v_0), (.i (i64 (v_1 + 1))), (.n c_0), (.n (c_1 + 1)), (.b true), (.l cells_0), (.l (cells_1 ++ [(Ax.AV.int .u8 (Ax.I.sym ((((List.getD line_1 (v_1).toNat 0)).toNat : Nat) : Int)))]))])) else
         (none)) else
        (none)) else none) else none)))))) else none) else
  (Option.map .inr (bif quoted_0 then (some [(.n 0), (.l []), (.i 5)]) else
    (bif c_2 then (bif (decide ((cells_1).length = c_1)) then (Option.bind (bytesOf cells_1) fun s_3 =>
      bif (decide ((cells_0).length = c_0)) then (bif (decide (((c_0 + 1) * 16) ≤ 140737488355328)) then (bif (decide ((0 + ((c_0 + 1) * 1)) ≤ ((cells_0 ++ [(Ax.AV.str (Ax.S.sym s_3))])).length)) then (bif (List.all (List.take ((c_0 + 1) * 1) (List.drop 0 (cells_0 ++ [(Ax.AV.str (Ax.S.sym s_3))]))) (Ax.closedN 20)) then (some [(.n (c_0 + 1)), (.l (List.take ((c_0 + 1) * 1) (List.drop 0 (cells_0 ++ [(Ax.AV.str (Ax.S.sym s_3))])))), (.i 0)]) else
       (none)) else
      (none)) else none) else none) else none) else
     (bif (decide ((cells_0).length = (c_0 * 1))) then (bif (List.all cells_0 (Ax.closedN 20)) then (some [(.n c_0), (.l cells_0), (.i 0)]) else
       (none)) else
      (none)))))
noncomputable def F_lexeme_Fields : List Dat → Option (List Dat) := fun ds_0 =>
  onS ds_0 fun line_0 ds_1 =>
  bif (decide (300 < (((line_0).length : Nat) : Int))) then (some [(.n 0), (.l []), (.i 6)]) else
  (iter F_lexeme_Fields_L0 [(.s line_0), (.b false), (.i (((line_0).length : Nat) : Int)), (.i 0), (.n 0), (.n 0), (.b false), (.l []), (.l [])])
noncomputable def F_lexeme_writable_L0 : List Dat → Option (List Dat ⊕ List Dat) := fun ds_2 =>
  onS ds_2 fun field_1 ds_3 =>
  onI ds_3 fun v_0 ds_4 =>
  onI ds_4 fun v_1 ds_5 =>
  bif (decide (v_1 < v_0)) then (Option.bind (bif (decide ((0 ≤ v_1) ∧ (v_1 < (((field_1).length : Nat) : Int)))) then (bif (decide (((((List.getD field_1 (v_1).toNat 0)).toNat : Nat) : Int) < 32)) then (some true) else
    (bif (decide ((0 ≤ v_1) ∧ (v_1 < (((field_1).length : Nat) : Int)))) then (bif (decide (126 < ((((List.getD field_1 (v_1).toNat 0)).toNat : Nat) : Int))) then (some true) else
     (bif (decide ((0 ≤ v_1) ∧ (v_1 < (((field_1).length : Nat) : Int)))) then (bif (decide (((((List.getD field_1 (v_1).toNat 0)).toNat : Nat) : Int) = 34)) then (some true) else
      (some false)) else none)) else none)) else none) fun b_0 =>
   bif b_0 then (Option.map .inr (some [(.b false)])) else
   (some (.inl [(.s field_1), (.i v_0), (.i (i64 (v_1 + 1)))]))) else
  (Option.map .inr (some [(.b true)]))
noncomputable def F_lexeme_writable : List Dat → Option (List Dat) := fun ds_0 =>
  onS ds_0 fun field_0 ds_1 =>
  iter F_lexeme_writable_L0 [(.s field_0), (.i (((field_0).length : Nat) : Int)), (.i 0)]
noncomputable def F_lexeme_Join_L0 : List Dat → Option (List Dat ⊕ List Dat) := fun ds_3 =>
  onN ds_3 fun vn_0 ds_4 =>
  onL ds_4 fun vl_0 ds_5 =>
  onI ds_5 fun v_0 ds_6 =>
  onI ds_6 fun v_1 ds_7 =>
  onN ds_7 fun cn_0 ds_8 =>
  onL ds_8 fun cells_0 ds_9 =>
  bif (decide (v_1 < v_0)) then (bif (decide ((0 ≤ v_1) ∧ (v_1 < ((vn_0 : Nat) : Int)))) then (Option.bind (asS (vl_0)[(v_1).toNat]?) fun s_0 =>
   Option.bind (F_lexeme_writable [(.s s_0)]) fun r_0 =>
   onB r_0 fun b_0 ds_10 =>
   bif (!b_0) then (Option.map .inr (some [(.s ([] : List UInt8)), (.i 2)])) else
   (bif (decide (0 < v_1)) then (bif (decide ((cells_0).length = cn_0)) then (bif (decide (((cn_0 + 1) * 1) ≤ 140737488355328)) then (bif (s_0 == ([] : List UInt8)) then (bif (decide ((1 + (s_0).length) ≤ 9223372036854775807)) then (bif (decide ((((([34] : List UInt8) ++ s_0)).length + 1) ≤ 9223372036854775807)) then (bif (decide (((cells_0 ++ [(Ax.AV.int .u8 (Ax.I.lit 32))])).length = (cn_0 + 1))) then (bif (decide ((((cn_0 + 1) + (((([34] : List UInt8) ++ s_0) ++ ([34] : List UInt8))).length) * 1) ≤ 140737488355328)) then (bif (List.all ((cells_0 ++ [(Ax.AV.int .u8 (Ax.I.lit 32))]) ++ (Ax.byteCells ((([34] : List UInt8) ++ s_0) ++ ([34] : List UInt8)))) (Ax.closedN 20)) then (some (.inl [(.n vn_0), (.l vl_0), (.i v_0), (.i (i64 (v_1 + 1))), (.n ((cn_0 + 1) + (((([34] : List UInt8) ++ s_0) ++ ([34] : List UInt8))).length)), (.l ((cells_0 ++ [(Ax.AV.int .u8 (Ax.I.lit 32))]) ++ (Ax.byteCells ((([34] : List UInt8) ++ s_0) ++ ([34] : List UInt8)))))])) else
      (none)) else none) else none) else none) else none) else
     (Option.bind (Ax.strContainsAny [(.s s_0), (.s ([32, 35] : List UInt8))]) fun r_1 =>
      onB r_1 fun b_1 ds_11 =>
      bif b_1 then (bif (decide ((1 + (s_0).length) ≤ 9223372036854775807)) then (bif (decide ((((([34] : List UInt8) ++ s_0)).length + 1) ≤ 9223372036854775807)) then (bif (decide (((cells_0 ++ [(Ax.AV.int .u8 (Ax.I.lit 32))])).length = (cn_0 + 1))) then (bif (decide ((((cn_0 + 1) + (((([34] : List UInt8) ++ s_0) ++ ([34] : List UInt8))).length) * 1) ≤ 140737488355328)) then (bif (List.all ((cells_0 ++ [(Ax.AV.int .u8 (Ax.I.lit 32))]) ++ (Ax.byteCells ((([34] : List UInt8) ++ s_0) ++ ([34] : List UInt8)))) (Ax.closedN 20)) then (some (.inl [(.n vn_0), (.l vl_0), (.i v_0), (.i (i64 (v_1 + 1))), (.n ((cn_0 + 1) + (((([34] : List UInt8) ++ s_0) ++ ([34] : List UInt8))).length)), (.l ((cells_0 ++ [(Ax.AV.int .u8 (Ax.I.lit 32))]) ++ (Ax.byteCells ((([34] : List UInt8) ++ s_0) ++ ([34] : List UInt8)))))])) else
       (none)) else none) else none) else none) else none) else
      (bif (decide (((cells_0 ++ [(Ax.AV.int .u8 (Ax.I.lit 32))])).length = (cn_0 + 1))) then (bif (decide ((((cn_0 + 1) + (s_0).length) * 1) ≤ 140737488355328)) then (bif (List.all ((cells_0 ++ [(Ax.AV.int .u8 (Ax.I.lit 32))]) ++ (Ax.byteCells s_0)) (Ax.closedN 20)) then (some (.inl [(.n vn_0), (.l vl_0), (.i v_0), (.i (i64 (v_1 + 1))), (.n ((cn_0 + 1) + (s_0).length)), (.l ((cells_0 ++ [(Ax.AV.int .u8 (Ax.I.lit 32))]) ++ (Ax.byteCells s_0)))])) else
       (none)) else none) else none))) else none) else none) else
    (bif (s_0 == ([] : List UInt8)) then (bif (decide ((1 + (s_0).length) ≤ 9223372036854775807)) then (bif (decide ((((([34] : List UInt8) ++ s_0)).length + 1) ≤ 9223372036854775807)) then (bif (decide ((cells_0).length = cn_0)) then (bif (decide (((cn_0 + (((([34] : List UInt8) ++ s_0) ++ ([34] : List UInt8))).length) * 1) ≤ 140737488355328)) then (bif (List.all (cells_0 ++ (Ax.byteCells ((([34] : List UInt8) ++ s_0) ++ ([34] : List UInt8)))) (Ax.closedN 20)) then (some (.inl [(.n vn_0), (.l vl_0), (.i v_0), (.i (i64 (v_1 + 1))), (.n (cn_0 + (((([34] : List UInt8) ++ s_0) ++ ([34] : List UInt8))).length)), (.l (cells_0 ++ (Ax.byteCells ((([34] : List UInt8) ++ s_0) ++ ([34] : List UInt8)))))])) else
      (none)) else none) else none) else none) else none) else
     (Option.bind (Ax.strContainsAny [(.s s_0), (.s ([32, 35] : List UInt8))]) fun r_2 =>
      onB r_2 fun b_2 ds_12 =>
      bif b_2 then (bif (decide ((1 + (s_0).length) ≤ 9223372036854775807)) then (bif (decide ((((([34] : List UInt8) ++ s_0)).length + 1) ≤ 9223372036854775807)) then (bif (decide ((cells_0).length = cn_0)) then (bif (decide (((cn_0 + (((([34] : List UInt8) ++ s_0) ++ ([34] : List UInt8))).length) * 1) ≤ 140737488355328)) then (bif (List.all (cells_0 ++ (Ax.byteCells ((([34] : List UInt8) ++ s_0) ++ ([34] : List UInt8)))) (Ax.closedN 20)) then (some (.inl [(.n vn_0), (.l vl_0), (.i v_0), (.i (i64 (v_1 + 1))), (.n (cn_0 + (((([34] : List UInt8) ++ s_0) ++ ([34] : List UInt8))).length)), (.l (cells_0 ++ (Ax.byteCells ((([34] : List UInt8) ++ s_0) ++ ([34] : List UInt8)))))])) else
       (none)) else none) else none) else none) else none) else
      (bif (decide ((cells_0).length = cn_0)) then (bif (decide (((cn_0 + (s_0).length) * 1) ≤ 140737488355328)) then (bif (List.all (cells_0 ++ (Ax.byteCells s_0)) (Ax.closedN 20)) then (some (.inl [(.n vn_0), (.l vl_0), (.i v_0), (.i (i64 (v_1 + 1))), (.n (cn_0 + (s_0).length)), (.l (cells_0 ++ (Ax.byteCells s_0)))])) else
       (none)) else none) else none))))) else none) else
  (Option.map .inr (bif (decide (300 < ((cn_0 : Nat) : Int))) then (some [(.s ([] : List UInt8)), (.i 6)]) else
    (bif (decide ((cells_0).length = cn_0)) then (bif (decide (cn_0 ≤ 9223372036854775807)) then (Option.bind (bytesOf cells_0) fun s_1 =>
     some [(.s s_1), (.i 0)]) else none) else none)))
noncomputable def F_lexeme_Join : List Dat → Option (List Dat) := fun ds_0 =>
  onN ds_0 fun fieldsn_0 ds_1 =>
  onL ds_1 fun fieldsl_0 ds_2 =>
  iter F_lexeme_Join_L0 [(.n fieldsn_0), (.l fieldsl_0), (.i ((fieldsn_0 : Nat) : Int)), (.i 0), (.n 0), (.l [])]
noncomputable def F_law05_works : List Dat → Option (List Dat) := fun _ => some [.b true]
noncomputable def F_ref05_Lines_L0 : List Dat → Option (List Dat ⊕ List Dat) := fun ds_2 =>
  onS ds_2 fun text_1 ds_3 =>
  onN ds_3 fun outn_0 ds_4 =>
  onI ds_4 fun begin_0 ds_5 =>
  onI ds_5 fun i_0 ds_6 =>
  onL ds_6 fun cells_0 ds_7 =>
  bif (decide (i_0 ≤ (((text_1).length : Nat) : Int))) then (Option.bind (bif (decide (i_0 < (((text_1).length : Nat) : Int))) then (bif (decide ((0 ≤ i_0) ∧ (i_0 < (((text_1).length : Nat) : Int)))) then (bif (!decide (((((List.getD text_1 (i_0).toNat 0)).toNat : Nat) : Int) = 10)) then (some true) else
     (bif (decide (i_0 = (((text_1).length : Nat) : Int))) then (bif (decide (begin_0 = i_0)) then (bif (decide (0 < i_0)) then (some true) else
        (some false)) else
       (some false)) else
      (some false))) else none) else
    (bif (decide (i_0 = (((text_1).length : Nat) : Int))) then (bif (decide (begin_0 = i_0)) then (bif (decide (0 < i_0)) then (some true) else
       (some false)) else
      (some false)) else
     (some false))) fun b_0 =>
   bif b_0 then (bif (List.all cells_0 (Ax.closedN 20)) then (some (.inl [(.s text_1), (.n outn_0), (.i begin_0), (.i (i64 (i_0 + 1))), (.l cells_0)])) else
    (none)) else
   (bif (decide (300 < (i64 (i_0 - begin_0)))) then (Option.map .inr (some [(.n 0), (.l []), (.i (i64 (((outn_0 : Nat) : Int) + 1))), (.i 6)])) else
    (bif (decide ((0 ≤ i_0) ∧ (i_0 ≤ (((text_1).length : Nat) : Int)))) then (bif (decide ((0 ≤ begin_0) ∧ (begin_0 ≤ (((i_0).toNat : Nat) : Int)))) then (bif (decide ((cells_0).length = outn_0)) then (bif (decide (((outn_0 + 1) * 16) ≤ 140737488355328)) then (bif (List.all (cells_0 ++ [(Ax.AV.str (Ax.S.sym (List.take ((i_0).toNat - (begin_0).toNat) (List.drop (begin_0).toNat text_1))))]) (Ax.closedN 20)) then (some (.inl [(.s text_1), (.n (outn_0 + 1)), (.i (i64 (i_0 + 1))), (.i (i64 (i_0 + 1))), (.l (cells_0 ++ [(Ax.AV.str (Ax.S.sym (List.take ((i_0).toNat - (begin_0).toNat) (List.drop (begin_0).toNat text_1))))]))])) else
     (none)) else none) else none) else none) else none))) else
  (Option.map .inr (bif (decide ((cells_0).length = (outn_0 * 1))) then (bif (List.all cells_0 (Ax.closedN 20)) then (some [(.n outn_0), (.l cells_0), (.i 0), (.i 0)]) else
     (none)) else
    (none)))
noncomputable def F_ref05_Lines : List Dat → Option (List Dat) := fun ds_0 =>
  onS ds_0 fun text_0 ds_1 =>
  bif (decide (8388608 < (((text_0).length : Nat) : Int))) then (some [(.n 0), (.l []), (.i 1), (.i 6)]) else
  (iter F_ref05_Lines_L0 [(.s text_0), (.n 0), (.i 0), (.i 0), (.l [])])
noncomputable def F_law05_LexemeLines : List Dat → Option (List Dat) := fun ds_0 =>
  onS ds_0 fun text_0 ds_1 =>
  bif (decide (3000 < (((text_0).length : Nat) : Int))) then (Option.bind (F_law05_works []) fun r_0 =>
   onB r_0 fun b_0 ds_2 =>
   some [(.b b_0)]) else
  (Option.bind (F_lexeme_Lines [(.s text_0)]) fun r_1 =>
   onN r_1 fun n_0 ds_3 =>
   onL ds_3 fun l_0 ds_4 =>
   onI ds_4 fun i_0 ds_5 =>
   onI ds_5 fun i_1 ds_6 =>
   Option.bind (F_ref05_Lines [(.s text_0)]) fun r_2 =>
   onN r_2 fun n_1 ds_7 =>
   onL ds_7 fun l_1 ds_8 =>
   onI ds_8 fun i_2 ds_9 =>
   onI ds_9 fun i_3 ds_10 =>
   Option.bind (F_slices_Equalstring_string_ [(.n n_0), (.l l_0), (.n n_1), (.l l_1)]) fun r_3 =>
   onB r_3 fun b_1 ds_11 =>
   bif b_1 then (bif (decide (i_0 = i_2)) then (bif (decide (i_1 = i_3)) then (Option.bind (F_law05_works []) fun r_4 =>
      onB r_4 fun b_2 ds_12 =>
      some [(.b b_2)]) else
     (some [(.b false)])) else
    (some [(.b false)])) else
   (some [(.b false)]))
noncomputable def F_ref05_plain : List Dat → Option (List Dat) := fun ds_0 =>
  onI ds_0 fun c_0 ds_1 =>
  Option.bind (bif (decide (33 ≤ c_0)) then (bif (decide (c_0 ≤ 126)) then (bif (!decide (c_0 = 35)) then (bif (!decide (c_0 = 34)) then (some true) else
      (some false)) else
     (some false)) else
    (some false)) else
   (some false)) fun b_0 =>
  some [(.b b_0)]
noncomputable def F_ref05_quoted_L0 : List Dat → Option (List Dat ⊕ List Dat) := fun ds_3 =>
  onS ds_3 fun line_1 ds_4 =>
  onI ds_4 fun i_1 ds_5 =>
  onI ds_5 fun j_0 ds_6 =>
  Option.bind (bif (decide (j_0 < (((line_1).length : Nat) : Int))) then (bif (decide ((0 ≤ j_0) ∧ (j_0 < (((line_1).length : Nat) : Int)))) then (bif (decide (32 ≤ ((((List.getD line_1 (j_0).toNat 0)).toNat : Nat) : Int))) then (bif (decide ((0 ≤ j_0) ∧ (j_0 < (((line_1).length : Nat) : Int)))) then (bif (decide (((((List.getD line_1 (j_0).toNat 0)).toNat : Nat) : Int) ≤ 126)) then (some true) else
     (some false)) else none) else
    (some false)) else none) else
   (some false)) fun b_0 =>
  bif b_0 then (bif (decide ((0 ≤ j_0) ∧ (j_0 < (((line_1).length : Nat) : Int)))) then (bif (decide (((((List.getD line_1 (j_0).toNat 0)).toNat : Nat) : Int) = 34)) then (bif (decide ((0 ≤ j_0) ∧ (j_0 ≤ (((line_1).length : Nat) : Int)))) then (bif (decide ((0 ≤ i_1) ∧ (i_1 ≤ (((j_0).toNat : Nat) : Int)))) then (Option.map .inr (some [(.s (List.take ((j_0).toNat - (i_1).toNat) (List.drop (i_1).toNat line_1))), (.i (i64 (j_0 + 1))), (.b true)])) else none) else none) else
   (some (.inl [(.s line_1), (.i i_1), (.i (i64 (j_0 + 1)))]))) else none) else
  (Option.map .inr (some [(.s ([] : List UInt8)), (.i 0), (.b false)]))
noncomputable def F_ref05_quoted : List Dat → Option (List Dat) := fun ds_0 =>
  onS ds_0 fun line_0 ds_1 =>
  onI ds_1 fun i_0 ds_2 =>
  iter F_ref05_quoted_L0 [(.s line_0), (.i i_0), (.i i_0)]
noncomputable def F_ref05_field_L0 : List Dat → Option (List Dat ⊕ List Dat) := fun ds_3 =>
  onS ds_3 fun line_1 ds_4 =>
  onI ds_4 fun i_1 ds_5 =>
  onS ds_5 fun s_0 ds_6 =>
  bif (decide (i_1 < (((line_1).length : Nat) : Int))) then (bif (decide ((0 ≤ i_1) ∧ (i_1 < (((line_1).length : Nat) : Int)))) then (Option.bind (F_ref05_plain [(.i ((((List.getD line_1 (i_1).toNat 0)).toNat : Nat) : Int))]) fun r_0 =>
   onB r_0 fun b_0 ds_7 =>
   bif b_0 then (bif (decide ((0 ≤ i_1) ∧ (i_1 < (((line_1).length : Nat) : Int)))) then (Option.bind (F_ref05_plain [(.i ((((List.getD line_1 (i_1).toNat 0)).toNat : Nat) : Int))]) fun r_1 =>
    onB r_1 fun b_1 ds_8 =>
    bif b_1 then (bif (decide ((0 ≤ (i64 (i_1 + 1))) ∧ ((i64 (i_1 + 1)) ≤ (((line_1).length : Nat) : Int)))) then (bif (decide ((0 ≤ i_1) ∧ (i_1 ≤ ((((i64 (i_1 + 1))).toNat : Nat) : Int)))) then (bif (decide (((s_0).length + ((List.take (((i64 (i_1 + 1))).toNat - (i_1).toNat) (List.drop (i_1).toNat line_1))).length) ≤ 9223372036854775807)) then (some (.inl [(.s line_1), (.i (i64 (i_1 + 1))), (.s (s_0 ++ (List.take (((i64 (i_1 + 1))).toNat - (i_1).toNat) (List.drop (i_1).toNat line_1))))])) else none) else none) else none) else
    (Option.bind (F_ref05_quoted [(.s line_1), (.i (i64 (i_1 + 1)))]) fun r_2 =>
     onS r_2 fun s_1 ds_9 =>
     onI ds_9 fun i_2 ds_10 =>
     onB ds_10 fun b_2 ds_11 =>
     bif (!b_2) then (Option.map .inr (some [(.s ([] : List UInt8)), (.i 0), (.b false)])) else
     (bif (decide (((s_0).length + (s_1).length) ≤ 9223372036854775807)) then (some (.inl [(.s line_1), (.i i_2), (.s (s_0 ++ s_1))])) else none))) else none) else
   (bif (decide ((0 ≤ i_1) ∧ (i_1 < (((line_1).length : Nat) : Int)))) then (bif (decide (((((List.getD line_1 (i_1).toNat 0)).toNat : Nat) : Int) = 34)) then (bif (decide ((0 ≤ i_1) ∧ (i_1 < (((line_1).length : Nat) : Int)))) then (Option.bind (F_ref05_plain [(.i ((((List.getD line_1 (i_1).toNat 0)).toNat : Nat) : Int))]) fun r_3 =>
     onB r_3 fun b_3 ds_12 =>
     bif b_3 then (bif (decide ((0 ≤ (i64 (i_1 + 1))) ∧ ((i64 (i_1 + 1)) ≤ (((line_1).length : Nat) : Int)))) then (bif (decide ((0 ≤ i_1) ∧ (i_1 ≤ ((((i64 (i_1 + 1))).toNat : Nat) : Int)))) then (bif (decide (((s_0).length + ((List.take (((i64 (i_1 + 1))).toNat - (i_1).toNat) (List.drop (i_1).toNat line_1))).length) ≤ 9223372036854775807)) then (some (.inl [(.s line_1), (.i (i64 (i_1 + 1))), (.s (s_0 ++ (List.take (((i64 (i_1 + 1))).toNat - (i_1).toNat) (List.drop (i_1).toNat line_1))))])) else none) else none) else none) else
     (Option.bind (F_ref05_quoted [(.s line_1), (.i (i64 (i_1 + 1)))]) fun r_4 =>
      onS r_4 fun s_2 ds_13 =>
      onI ds_13 fun i_3 ds_14 =>
      onB ds_14 fun b_4 ds_15 =>
      bif (!b_4) then (Option.map .inr (some [(.s ([] : List UInt8)), (.i 0), (.b false)])) else
      (bif (decide (((s_0).length + (s_2).length) ≤ 9223372036854775807)) then (some (.inl [(.s line_1), (.i i_3), (.s (s_0 ++ s_2))])) else none))) else none) else
    (Option.map .inr (some [(.s s_0), (.i i_1), (.b true)]))) else none)) else none) else
  (Option.map .inr (some [(.s s_0), (.i i_1), (.b true)]))
noncomputable def F_ref05_field : List Dat → Option (List Dat) := fun ds_0 =>
  onS ds_0 fun line_0 ds_1 =>
  onI ds_1 fun i_0 ds_2 =>
  iter F_ref05_field_L0 [(.s line_0), (.i i_0), (.s ([] : List UInt8))]
noncomputable def F_ref05_Fields_L0 : List Dat → Option (List Dat ⊕ List Dat) := fun ds_2 =>
  onS ds_2 fun line_1 ds_3 =>
  onN ds_3 fun outn_0 ds_4 =>
  onI ds_4 fun i_0 ds_5 =>
  onL ds_5 fun cells_0 ds_6 =>
  Option.bind (bif (decide (i_0 < (((line_1).length : Nat) : Int))) then (bif (decide ((0 ≤ i_0) ∧ (i_0 < (((line_1).length : Nat) : Int)))) then (bif (!decide (((((List.getD line_1 (i_0).toNat 0)).toNat : Nat) : Int) = 35)) then (some true) else
    (some false)) else none) else
   (some false)) fun b_0 =>
  bif b_0 then (Option.bind (bif (decide ((0 ≤ i_0) ∧ (i_0 < (((line_1).length : Nat) : Int)))) then (bif (decide (((((List.getD line_1 (i_0).toNat 0)).toNat : Nat) : Int) = 32)) then (some true) else
    (bif (decide ((0 ≤ i_0) ∧ (i_0 < (((line_1).length : Nat) : Int)))) then (bif (decide (((((List.getD line_1 (i_0).toNat 0)).toNat : Nat) : Int) = 9)) then (some true) else
     (some false)) else none)) else none) fun b_1 =>
   bif b_1 then (bif (List.all cells_0 (Ax.closedN 20)) then (some (.inl [(.s line_1), (.n outn_0), (.i (i64 (i_0 + 1))), (.l cells_0)])) else
    (none)) else
   (bif (decide ((0 ≤ i_0) ∧ (i_0 < (((line_1).length : Nat) : Int)))) then (Option.bind (F_ref05_plain [(.i ((((List.getD line_1 (i_0).toNat 0)).toNat : Nat) : Int))]) fun r_0 =>
    onB r_0 fun b_2 ds_7 =>
    bif (!b_2) then (bif (decide ((0 ≤ i_0) ∧ (i_0 < (((line_1).length : Nat) : Int)))) then (bif (!decide (((((List.getD line_1 (i_0).toNat 0)).toNat : Nat) : Int) = 34)) then (Option.map .inr (some [(.n 0), (.l []), (.i 5)])) else
     (Option.bind (F_ref05_field [(.s line_1), (.i i_0)]) fun r_1 =>
      onS r_1 fun s_0 ds_8 =>
      onI ds_8 fun i_1 ds_9 =>
      onB ds_9 fun b_3 ds_10 =>
      bif (!b_3) then (Option.map .inr (some [(.n 0), (.l []), (.i 5)])) else
      (bif (decide ((cells_0).length = outn_0)) then (bif (decide (((outn_0 + 1) * 16) ≤ 140737488355328)) then (bif (List.all (cells_0 ++ [(Ax.AV.str (Ax.S.sym s_0))]) (Ax.closedN 20)) then (some (.inl [(.s line_1), (.n (outn_0 + 1)), (.i i_1), (.l (cells_0 ++ [(Ax.AV.str (Ax.S.sym s_0))]))])) else
       (none)) else none) else none))) else none) else
    (Option.bind (F_ref05_field [(.s line_1), (.i i_0)]) fun r_2 =>
     onS r_2 fun s_1 ds_11 =>
     onI ds_11 fun i_2 ds_12 =>
     onB ds_12 fun b_4 ds_13 =>
     bif (!b_4) then (Option.map .inr (some [(.n 0), (.l []), (.i 5)])) else
     (bif (decide ((cells_0).length = outn_0)) then (bif (decide (((outn_0 + 1) * 16) ≤ 140737488355328)) then (bif (List.all (cells_0 ++ [(Ax.AV.str (Ax.S.sym s_1))]) (Ax.closedN 20)) then (some (.inl [(.s line_1), (.n (outn_0 + 1)), (.i i_2), (.l (cells_0 ++ [(Ax.AV.str (Ax.S.sym s_1))]))])) else
      (none)) else none) else none))) else none)) else
  (Option.map .inr (bif (decide ((cells_0).length = (outn_0 * 1))) then (bif (List.all cells_0 (Ax.closedN 20)) then (some [(.n outn_0), (.l cells_0), (.i 0)]) else
     (none)) else
    (none)))
noncomputable def F_ref05_Fields : List Dat → Option (List Dat) := fun ds_0 =>
  onS ds_0 fun line_0 ds_1 =>
  bif (decide (300 < (((line_0).length : Nat) : Int))) then (some [(.n 0), (.l []), (.i 6)]) else
  (iter F_ref05_Fields_L0 [(.s line_0), (.n 0), (.i 0), (.l [])])
noncomputable def F_ref05_bare_L0 : List Dat → Option (List Dat ⊕ List Dat) := fun ds_2 =>
  onS ds_2 fun s_1 ds_3 =>
  onI ds_3 fun i_0 ds_4 =>
  bif (decide (i_0 < (((s_1).length : Nat) : Int))) then (Option.bind (bif (decide ((0 ≤ i_0) ∧ (i_0 < (((s_1).length : Nat) : Int)))) then (bif (decide (((((List.getD s_1 (i_0).toNat 0)).toNat : Nat) : Int) = 32)) then (some true) else
    (bif (decide ((0 ≤ i_0) ∧ (i_0 < (((s_1).length : Nat) : Int)))) then (bif (decide (((((List.getD s_1 (i_0).toNat 0)).toNat : Nat) : Int) = 35)) then (some true) else
     (some false)) else none)) else none) fun b_0 =>
   bif b_0 then (Option.map .inr (some [(.b false)])) else
   (some (.inl [(.s s_1), (.i (i64 (i_0 + 1)))]))) else
  (Option.map .inr (Option.bind (bif (!(s_1 == ([] : List UInt8))) then (some true) else
     (some false)) fun b_1 =>
    some [(.b b_1)]))
noncomputable def F_ref05_bare : List Dat → Option (List Dat) := fun ds_0 =>
  onS ds_0 fun s_0 ds_1 =>
  iter F_ref05_bare_L0 [(.s s_0), (.i 0)]
noncomputable def F_ref05_Join_L1 : List Dat → Option (List Dat ⊕ (List Dat ⊕ List Dat)) := fun ds_8 =>
  onN ds_8 fun fieldsn_2 ds_9 =>
  onL ds_9 fun fieldsl_2 ds_10 =>
  onS ds_10 fun out_1 ds_11 =>
  onI ds_11 fun k_1 ds_12 =>
  onS ds_12 fun s_1 ds_13 =>
  onI ds_13 fun i_0 ds_14 =>
  bif (decide (i_0 < (((s_1).length : Nat) : Int))) then (Option.bind (bif (decide ((0 ≤ i_0) ∧ (i_0 < (((s_1).length : Nat) : Int)))) then (bif (decide (((((List.getD s_1 (i_0).toNat 0)).toNat : Nat) : Int) < 32)) then (some true) else
    (bif (decide ((0 ≤ i_0) ∧ (i_0 < (((s_1).length : Nat) : Int)))) then (bif (decide (126 < ((((List.getD s_1 (i_0).toNat 0)).toNat : Nat) : Int))) then (some true) else
     (bif (decide ((0 ≤ i_0) ∧ (i_0 < (((s_1).length : Nat) : Int)))) then (bif (decide (((((List.getD s_1 (i_0).toNat 0)).toNat : Nat) : Int) = 34)) then (some true) else
      (some false)) else none)) else none)) else none) fun b_0 =>
   bif b_0 then (Option.map .inr (Option.map .inr (some [(.s ([] : List UInt8)), (.i 2)]))) else
   (some (.inl [(.n fieldsn_2), (.l fieldsl_2), (.s out_1), (.i k_1), (.s s_1), (.i (i64 (i_0 + 1)))]))) else
  (Option.map .inr (some (.inl [(.n fieldsn_2), (.l fieldsl_2), (.s out_1), (.i (i64 (k_1 + 1)))])))
noncomputable def F_ref05_Join_L2 : List Dat → Option (List Dat ⊕ List Dat) := fun ds_15 =>
  onN ds_15 fun fieldsn_3 ds_16 =>
  onL ds_16 fun fieldsl_3 ds_17 =>
  onS ds_17 fun out_2 ds_18 =>
  onI ds_18 fun k_2 ds_19 =>
  Option.bind (bif (decide (k_2 < ((fieldsn_3 : Nat) : Int))) then (bif (decide ((((out_2).length : Nat) : Int) ≤ 300)) then (some true) else
    (some false)) else
   (some false)) fun b_1 =>
  bif b_1 then (bif (decide ((0 ≤ k_2) ∧ (k_2 < ((fieldsn_3 : Nat) : Int)))) then (Option.bind (asS (fieldsl_3)[(k_2).toNat]?) fun s_2 =>
   Option.bind (F_ref05_bare [(.s s_2)]) fun r_0 =>
   onB r_0 fun b_2 ds_20 =>
   bif (!b_2) then (bif (decide ((1 + (s_2).length) ≤ 9223372036854775807)) then (bif (decide ((((([34] : List UInt8) ++ s_2)).length + 1) ≤ 9223372036854775807)) then (bif (decide (0 < k_2)) then (bif (decide ((1 + (((([34] : List UInt8) ++ s_2) ++ ([34] : List UInt8))).length) ≤ 9223372036854775807)) then (bif (decide (((out_2).length + ((([32] : List UInt8) ++ ((([34] : List UInt8) ++ s_2) ++ ([34] : List UInt8)))).length) ≤ 9223372036854775807)) then (some (.inl [(.n fieldsn_3), (.l fieldsl_3), (.s (out_2 ++ (([32] : List UInt8) ++ ((([34] : List UInt8) ++ s_2) ++ ([34] : List UInt8))))), (.i (i64 (k_2 + 1)))])) else none) else none) else
    (bif (decide (((out_2).length + (((([34] : List UInt8) ++ s_2) ++ ([34] : List UInt8))).length) ≤ 9223372036854775807)) then (some (.inl [(.n fieldsn_3), (.l fieldsl_3), (.s (out_2 ++ ((([34] : List UInt8) ++ s_2) ++ ([34] : List UInt8)))), (.i (i64 (k_2 + 1)))])) else none)) else none) else none) else
   (bif (decide (0 < k_2)) then (bif (decide ((1 + (s_2).length) ≤ 9223372036854775807)) then (bif (decide (((out_2).length + ((([32] : List UInt8) ++ s_2)).length) ≤ 9223372036854775807)) then (some (.inl [(.n fieldsn_3), (.l fieldsl_3), (.s (out_2 ++ (([32] : List UInt8) ++ s_2))), (.i (i64 (k_2 + 1)))])) else none) else none) else
    (bif (decide (((out_2).length + (s_2).length) ≤ 9223372036854775807)) then (some (.inl [(.n fieldsn_3), (.l fieldsl_3), (.s (out_2 ++ s_2)), (.i (i64 (k_2 + 1)))])) else none))) else none) else
  (Option.map .inr (bif (decide (300 < (((out_2).length : Nat) : Int))) then (some [(.s ([] : List UInt8)), (.i 6)]) else
    (some [(.s out_2), (.i 0)])))
noncomputable def F_ref05_Join_L0 : List Dat → Option (List Dat ⊕ List Dat) := fun ds_3 =>
  onN ds_3 fun fieldsn_1 ds_4 =>
  onL ds_4 fun fieldsl_1 ds_5 =>
  onS ds_5 fun out_0 ds_6 =>
  onI ds_6 fun k_0 ds_7 =>
  bif (decide (k_0 < ((fieldsn_1 : Nat) : Int))) then (bif (decide ((0 ≤ k_0) ∧ (k_0 < ((fieldsn_1 : Nat) : Int)))) then (Option.bind (asS (fieldsl_1)[(k_0).toNat]?) fun s_0 =>
   iter F_ref05_Join_L1 [(.n fieldsn_1), (.l fieldsl_1), (.s out_0), (.i k_0), (.s s_0), (.i 0)]) else none) else
  (Option.map .inr (iter F_ref05_Join_L2 [(.n fieldsn_1), (.l fieldsl_1), (.s out_0), (.i 0)]))
noncomputable def F_ref05_Join : List Dat → Option (List Dat) := fun ds_0 =>
  onN ds_0 fun fieldsn_0 ds_1 =>
  onL ds_1 fun fieldsl_0 ds_2 =>
  iter F_ref05_Join_L0 [(.n fieldsn_0), (.l fieldsl_0), (.s ([] : List UInt8)), (.i 0)]
noncomputable def F_law05_LexemeFields_L0 (line_0 : List UInt8) (fieldsn_0 : Nat) (fieldsl_0 : List AV) : List Dat → Option (List Dat ⊕ List Dat) := fun ds_6 =>
  onN ds_6 fun sn_0 ds_7 =>
  onL ds_7 fun sl_0 ds_8 =>
  onI ds_8 fun v_0 ds_9 =>
  onI ds_9 fun v_1 ds_10 =>
  bif (decide (v_1 < v_0)) then (bif (decide ((0 ≤ v_1) ∧ (v_1 < ((sn_0 : Nat) : Int)))) then (Option.bind (asS (sl_0)[(v_1).toNat]?) fun s_0 =>
   Option.bind (bif (decide (400 < (((s_0).length : Nat) : Int))) then (some true) else
    (some false)) fun b_2 =>
   bif b_2 then (Option.map .inr (bif (decide (0 ≤ v_1)) then (Option.bind (F_law05_works []) fun r_2 =>
      onB r_2 fun b_3 ds_11 =>
      some [(.b b_3)]) else
     (Option.bind (F_lexeme_Fields [(.s line_0)]) fun r_3 =>
      onN r_3 fun n_0 ds_12 =>
      onL ds_12 fun l_0 ds_13 =>
      onI ds_13 fun i_0 ds_14 =>
      Option.bind (F_ref05_Fields [(.s line_0)]) fun r_4 =>
      onN r_4 fun n_1 ds_15 =>
      onL ds_15 fun l_1 ds_16 =>
      onI ds_16 fun i_1 ds_17 =>
      Option.bind (F_lexeme_Join [(.n fieldsn_0), (.l fieldsl_0)]) fun r_5 =>
      onS r_5 fun s_1 ds_18 =>
      onI ds_18 fun i_2 ds_19 =>
      Option.bind (F_ref05_Join [(.n fieldsn_0), (.l fieldsl_0)]) fun r_6 =>
      onS r_6 fun s_2 ds_20 =>
      onI ds_20 fun i_3 ds_21 =>
      Option.bind (F_slices_Equalstring_string_ [(.n n_0), (.l l_0), (.n n_1), (.l l_1)]) fun r_7 =>
      onB r_7 fun b_4 ds_22 =>
      bif b_4 then (bif (decide (i_0 = i_1)) then (bif (s_1 == s_2) then (bif (decide (i_2 = i_3)) then (Option.bind (F_law05_works []) fun r_8 =>
          onB r_8 fun b_5 ds_23 =>
          some [(.b b_5)]) else
         (some [(.b false)])) else
        (some [(.b false)])) else
       (some [(.b false)])) else
      (some [(.b false)])))) else
   (some (.inl [(.n sn_0), (.l sl_0), (.i v_0), (.i (i64 (v_1 + 1)))]))) else none) else
  (Option.map .inr (Option.bind (F_lexeme_Fields [(.s line_0)]) fun r_9 =>
    onN r_9 fun n_2 ds_24 =>
    onL ds_24 fun l_2 ds_25 =>
    onI ds_25 fun i_4 ds_26 =>
    Option.bind (F_ref05_Fields [(.s line_0)]) fun r_10 =>
    onN r_10 fun n_3 ds_27 =>
    onL ds_27 fun l_3 ds_28 =>
    onI ds_28 fun i_5 ds_29 =>
    Option.bind (F_lexeme_Join [(.n fieldsn_0), (.l fieldsl_0)]) fun r_11 =>
    onS r_11 fun s_3 ds_30 =>
    onI ds_30 fun i_6 ds_31 =>
    Option.bind (F_ref05_Join [(.n fieldsn_0), (.l fieldsl_0)]) fun r_12 =>
    onS r_12 fun s_4 ds_32 =>
    onI ds_32 fun i_7 ds_33 =>
    Option.bind (F_slices_Equalstring_string_ [(.n n_2), (.l l_2), (.n n_3), (.l l_3)]) fun r_13 =>
    onB r_13 fun b_6 ds_34 =>
    bif b_6 then (bif (decide (i_4 = i_5)) then (bif (s_3 == s_4) then (bif (decide (i_6 = i_7)) then (Option.bind (F_law05_works []) fun r_14 =>
        onB r_14 fun b_7 ds_35 =>
        some [(.b b_7)]) else
       (some [(.b false)])) else
      (some [(.b false)])) else
     (some [(.b false)])) else
    (some [(.b false)])))
noncomputable def F_law05_LexemeFields : List Dat → Option (List Dat) := fun ds_0 =>
  onS ds_0 fun line_0 ds_1 =>
  onN ds_1 fun fieldsn_0 ds_2 =>
  onL ds_2 fun fieldsl_0 ds_3 =>
  bif (decide (1000 < (((line_0).length : Nat) : Int))) then (Option.bind (F_law05_works []) fun r_0 =>
   onB r_0 fun b_0 ds_4 =>
   some [(.b b_0)]) else
  (bif (decide (50 < ((fieldsn_0 : Nat) : Int))) then (Option.bind (F_law05_works []) fun r_1 =>
    onB r_1 fun b_1 ds_5 =>
    some [(.b b_1)]) else
   (iter (F_law05_LexemeFields_L0 line_0 fieldsn_0 fieldsl_0) [(.n fieldsn_0), (.l fieldsl_0), (.i ((fieldsn_0 : Nat) : Int)), (.i 0)]))
noncomputable def F__law05_Draft__Made_L1 : List Dat → Option (List Dat ⊕ (List Dat ⊕ List Dat)) := fun ds_10 =>
  onN ds_10 fun outn_1 ds_11 =>
  onS ds_11 fun s_0 ds_12 =>
  onN ds_12 fun vn_1 ds_13 =>
  onL ds_13 fun vl_1 ds_14 =>
  onI ds_14 fun v_2 ds_15 =>
  onI ds_15 fun v_3 ds_16 =>
  onN ds_16 fun vn_2 ds_17 =>
  onL ds_17 fun vl_2 ds_18 =>
  onI ds_18 fun v_4 ds_19 =>
  onI ds_19 fun v_5 ds_20 =>
  onL ds_20 fun cells_1 ds_21 =>
  bif (decide (v_5 < v_4)) then (bif (decide ((0 ≤ v_5) ∧ (v_5 < ((vn_2 : Nat) : Int)))) then (Option.bind (asI .u8 (vl_2)[(v_5).toNat]?) fun x_0 =>
   bif (decide ((0 ≤ (Int.tmod (i64 x_0) 20)) ∧ ((Int.tmod (i64 x_0) 20) ≤ 20))) then (bif (decide (((0 : Int) ≤ 1) ∧ (1 ≤ ((((List.take (20 - ((Int.tmod (i64 x_0) 20)).toNat) (List.drop ((Int.tmod (i64 x_0) 20)).toNat ([97, 90, 48, 57, 32, 35, 45, 43, 47, 37, 58, 62, 61, 60, 46, 95, 39, 92, 126, 33] : List UInt8)))).length : Nat) : Int)))) then (bif (decide (((s_0).length + ((List.take 1 (List.drop 0 (List.take (20 - ((Int.tmod (i64 x_0) 20)).toNat) (List.drop ((Int.tmod (i64 x_0) 20)).toNat ([97, 90, 48, 57, 32, 35, 45, 43, 47, 37, 58, 62, 61, 60, 46, 95, 39, 92, 126, 33] : List UInt8)))))).length) ≤ 9223372036854775807)) then (bif (List.all cells_1 (Ax.closedN 20)) then (some (.inl [(.n outn_1), (.s (s_0 ++ (List.take 1 (List.drop 0 (List.take (20 - ((Int.tmod (i64 x_0) 20)).toNat) (List.drop ((Int.tmod (i64 x_0) 20)).toNat ([97, 90, 48, 57, 32, 35, 45, 43, 47, 37, 58, 62, 61, 60, 46, 95, 39, 92, 126, 33] : List UInt8))))))), (.n vn_1), (.l vl_1), (.i v_2), (.i v_3), (.n vn_2), (.l vl_2), (.i v_4), (.i (i64 (v_5 + 1))), (.l cells_1)])) else
   (none)) else none) else none) else none) else none) else
  (Option.map .inr (bif (decide ((cells_1).length = outn_1)) then (bif (decide (((outn_1 + 1) * 16) ≤ 140737488355328)) then (bif (List.all (cells_1 ++ [(Ax.AV.str (Ax.S.sym s_0))]) (Ax.closedN 20)) then (some (.inl [(.n (outn_1 + 1)), (.n vn_1), (.l vl_1), (.i v_2), (.i (i64 (v_3 + 1))), (.l (cells_1 ++ [(Ax.AV.str (Ax.S.sym s_0))]))])) else
    (none)) else none) else none))
noncomputable def F__law05_Draft__Made_L0 : List Dat → Option (List Dat ⊕ List Dat) := fun ds_3 =>
  onN ds_3 fun outn_0 ds_4 =>
  onN ds_4 fun vn_0 ds_5 =>
  onL ds_5 fun vl_0 ds_6 =>
  onI ds_6 fun v_0 ds_7 =>
  onI ds_7 fun v_1 ds_8 =>
  onL ds_8 fun cells_0 ds_9 =>
  bif (decide (v_1 < v_0)) then (bif (decide ((0 ≤ v_1) ∧ (v_1 < ((vn_0 : Nat) : Int)))) then (Option.bind (asL (vl_0)[(v_1).toNat]?) fun p_0 =>
   bif (decide ((0 ≤ (if 12 < (((p_0).1 : Nat) : Int) then 12 else (((p_0).1 : Nat) : Int))) ∧ ((if 12 < (((p_0).1 : Nat) : Int) then 12 else (((p_0).1 : Nat) : Int)) ≤ (((p_0).1 : Nat) : Int)))) then (bif (decide ((0 + ((if 12 < (((p_0).1 : Nat) : Int) then 12 else (((p_0).1 : Nat) : Int))).toNat) ≤ ((p_0).2).length)) then (bif (List.all cells_0 (Ax.closedN 20)) then (iter F__law05_Draft__Made_L1 [(.n outn_0), (.s ([] : List UInt8)), (.n vn_0), (.l vl_0), (.i v_0), (.i v_1), (.n ((if 12 < (((p_0).1 : Nat) : Int) then 12 else (((p_0).1 : Nat) : Int))).toNat), (.l (List.take ((if 12 < (((p_0).1 : Nat) : Int) then 12 else (((p_0).1 : Nat) : Int))).toNat (List.drop 0 (p_0).2))), (.i ((((if 12 < (((p_0).1 : Nat) : Int) then 12 else (((p_0).1 : Nat) : Int))).toNat : Nat) : Int)), (.i 0), (.l cells_0)]) else
   (none)) else none) else none) else none) else
  (Option.map .inr (bif (decide ((cells_0).length = (outn_0 * 1))) then (bif (List.all cells_0 (Ax.closedN 20)) then (some [(.n outn_0), (.l cells_0)]) else
     (none)) else
    (none)))
noncomputable def F__law05_Draft__Made : List Dat → Option (List Dat) := fun ds_0 =>
  onN ds_0 fun dn_0 ds_1 =>
  onL ds_1 fun dl_0 ds_2 =>
  bif (decide ((0 ≤ (if 12 < ((dn_0 : Nat) : Int) then 12 else ((dn_0 : Nat) : Int))) ∧ ((if 12 < ((dn_0 : Nat) : Int) then 12 else ((dn_0 : Nat) : Int)) ≤ ((dn_0 : Nat) : Int)))) then (bif (decide ((0 + ((if 12 < ((dn_0 : Nat) : Int) then 12 else ((dn_0 : Nat) : Int))).toNat) ≤ (dl_0).length)) then (iter F__law05_Draft__Made_L0 [(.n 0), (.n ((if 12 < ((dn_0 : Nat) : Int) then 12 else ((dn_0 : Nat) : Int))).toNat), (.l (List.take ((if 12 < ((dn_0 : Nat) : Int) then 12 else ((dn_0 : Nat) : Int))).toNat (List.drop 0 dl_0))), (.i ((((if 12 < ((dn_0 : Nat) : Int) then 12 else ((dn_0 : Nat) : Int))).toNat : Nat) : Int)), (.i 0), (.l [])]) else none) else none
noncomputable def F_strings_Contains : List Dat → Option (List Dat) := fun ds_0 =>
  onS ds_0 fun s_0 ds_1 =>
  onS ds_1 fun substr_0 ds_2 =>
  Option.bind (Ax.strIndex [(.s s_0), (.s substr_0)]) fun r_0 =>
  onI r_0 fun i_0 ds_3 =>
  bif (decide (0 ≤ i_0)) then (some [(.b true)]) else
  (some [(.b false)])
noncomputable def F_law05_LexemeBack_L0 : List Dat → Option (List Dat ⊕ List Dat) := fun ds_28 =>
  onN ds_28 fun vn_0 ds_29 =>
  onL ds_29 fun vl_0 ds_30 =>
  onI ds_30 fun v_0 ds_31 =>
  onI ds_31 fun v_1 ds_32 =>
  bif (decide (v_1 < v_0)) then (bif (decide ((0 ≤ v_1) ∧ (v_1 < ((vn_0 : Nat) : Int)))) then (Option.bind (asS (vl_0)[(v_1).toNat]?) fun s_1 =>
   bif (!(s_1 == ([] : List UInt8))) then (Option.bind (F_strings_Contains [(.s s_1), (.s ([32] : List UInt8))]) fun r_12 =>
    onB r_12 fun b_5 ds_33 =>
    bif (!b_5) then (Option.bind (F_strings_Contains [(.s s_1), (.s ([35] : List UInt8))]) fun r_13 =>
     onB r_13 fun b_6 ds_34 =>
     bif (decide (1 ≤ ([(Ax.AV.str (Ax.S.sym s_1))]).length)) then (Option.bind (F_lexeme_Join [(.n 1), (.l [(Ax.AV.str (Ax.S.sym s_1))])]) fun r_14 =>
      onS r_14 fun s_2 ds_35 =>
      onI ds_35 fun i_6 ds_36 =>
      Option.bind (bif (!decide (i_6 = 0)) then (some true) else
       (bif (!b_6) then (bif (!(s_2 == s_1)) then (some true) else
         (bif (!(!b_6)) then (bif (decide ((1 + (s_1).length) ≤ 9223372036854775807)) then (bif (decide ((((([34] : List UInt8) ++ s_1)).length + 1) ≤ 9223372036854775807)) then (bif (!(s_2 == ((([34] : List UInt8) ++ s_1) ++ ([34] : List UInt8)))) then (some true) else
           (some false)) else none) else none) else
          (some false))) else
        (bif (!(!b_6)) then (bif (decide ((1 + (s_1).length) ≤ 9223372036854775807)) then (bif (decide ((((([34] : List UInt8) ++ s_1)).length + 1) ≤ 9223372036854775807)) then (bif (!(s_2 == ((([34] : List UInt8) ++ s_1) ++ ([34] : List UInt8)))) then (some true) else
          (some false)) else none) else none) else
         (some false)))) fun b_7 =>
      bif b_7 then (Option.map .inr (some [(.b false)])) else
      (some (.inl [(.n vn_0), (.l vl_0), (.i v_0), (.i (i64 (v_1 + 1)))]))) else
     (none)) else
    (bif (decide (1 ≤ ([(Ax.AV.str (Ax.S.sym s_1))]).length)) then (Option.bind (F_lexeme_Join [(.n 1), (.l [(Ax.AV.str (Ax.S.sym s_1))])]) fun r_15 =>
      onS r_15 fun s_3 ds_37 =>
      onI ds_37 fun i_7 ds_38 =>
      Option.bind (bif (!decide (i_7 = 0)) then (some true) else
       (bif (decide ((1 + (s_1).length) ≤ 9223372036854775807)) then (bif (decide ((((([34] : List UInt8) ++ s_1)).length + 1) ≤ 9223372036854775807)) then (bif (!(s_3 == ((([34] : List UInt8) ++ s_1) ++ ([34] : List UInt8)))) then (some true) else
        (some false)) else none) else none)) fun b_8 =>
      bif b_8 then (Option.map .inr (some [(.b false)])) else
      (some (.inl [(.n vn_0), (.l vl_0), (.i v_0), (.i (i64 (v_1 + 1)))]))) else
     (none))) else
   (bif (decide (1 ≤ ([(Ax.AV.str (Ax.S.sym s_1))]).length)) then (Option.bind (F_lexeme_Join [(.n 1), (.l [(Ax.AV.str (Ax.S.sym s_1))])]) fun r_16 =>
     onS r_16 fun s_4 ds_39 =>
     onI ds_39 fun i_8 ds_40 =>
     Option.bind (bif (!decide (i_8 = 0)) then (some true) else
      (bif (decide ((1 + (s_1).length) ≤ 9223372036854775807)) then (bif (decide ((((([34] : List UInt8) ++ s_1)).length + 1) ≤ 9223372036854775807)) then (bif (!(s_4 == ((([34] : List UInt8) ++ s_1) ++ ([34] : List UInt8)))) then (some true) else
       (some false)) else none) else none)) fun b_9 =>
     bif b_9 then (Option.map .inr (some [(.b false)])) else
     (some (.inl [(.n vn_0), (.l vl_0), (.i v_0), (.i (i64 (v_1 + 1)))]))) else
    (none))) else none) else
  (Option.map .inr (Option.bind (F_law05_works []) fun r_17 =>
    onB r_17 fun b_10 ds_41 =>
    some [(.b b_10)]))
noncomputable def F_law05_LexemeBack : List Dat → Option (List Dat) := fun ds_0 =>
  onN ds_0 fun dn_0 ds_1 =>
  onL ds_1 fun dl_0 ds_2 =>
  onS ds_2 fun comment_0 ds_3 =>
  Option.bind (F__law05_Draft__Made [(.n dn_0), (.l dl_0)]) fun r_0 =>
  onN r_0 fun n_0 ds_4 =>
  onL ds_4 fun l_0 ds_5 =>
  bif (decide ((0 ≤ (if 40 < (((comment_0).length : Nat) : Int) then 40 else (((comment_0).length : Nat) : Int))) ∧ ((if 40 < (((comment_0).length : Nat) : Int) then 40 else (((comment_0).length : Nat) : Int)) ≤ (((comment_0).length : Nat) : Int)))) then (Option.bind (F_lexeme_Join [(.n n_0), (.l l_0)]) fun r_1 =>
  onS r_1 fun s_0 ds_6 =>
  onI ds_6 fun i_0 ds_7 =>
  bif (!decide (i_0 = 0)) then (some [(.b false)]) else
  (bif (decide ((1 + (s_0).length) ≤ 9223372036854775807)) then (bif (decide ((3 + (s_0).length) ≤ 9223372036854775807)) then (bif (decide ((((([9, 32, 9] : List UInt8) ++ s_0)).length + 2) ≤ 9223372036854775807)) then (bif (decide (((s_0).length + 1) ≤ 9223372036854775807)) then (bif (decide ((((s_0 ++ ([35] : List UInt8))).length + ((List.take ((if 40 < (((comment_0).length : Nat) : Int) then 40 else (((comment_0).length : Nat) : Int))).toNat (List.drop 0 comment_0))).length) ≤ 9223372036854775807)) then (bif (decide (((s_0).length + 3) ≤ 9223372036854775807)) then (bif (decide ((((s_0 ++ ([32, 35, 32] : List UInt8))).length + ((List.take ((if 40 < (((comment_0).length : Nat) : Int) then 40 else (((comment_0).length : Nat) : Int))).toNat (List.drop 0 comment_0))).length) ≤ 9223372036854775807)) then (Option.bind (F_lexeme_Fields [(.s s_0)]) fun r_2 =>
   onN r_2 fun n_1 ds_8 =>
   onL ds_8 fun l_1 ds_9 =>
   onI ds_9 fun i_1 ds_10 =>
   Option.bind (F_slices_Equalstring_string_ [(.n n_1), (.l l_1), (.n n_0), (.l l_0)]) fun r_3 =>
   onB r_3 fun b_0 ds_11 =>
   bif (!b_0) then (some [(.b false)]) else
   (bif (!decide (i_1 = 0)) then (some [(.b false)]) else
    (Option.bind (F_lexeme_Fields [(.s (([32] : List UInt8) ++ s_0))]) fun r_4 =>
     onN r_4 fun n_2 ds_12 =>
     onL ds_12 fun l_2 ds_13 =>
     onI ds_13 fun i_2 ds_14 =>
     Option.bind (F_slices_Equalstring_string_ [(.n n_2), (.l l_2), (.n n_0), (.l l_0)]) fun r_5 =>
     onB r_5 fun b_1 ds_15 =>
     bif (!b_1) then (some [(.b false)]) else
     (bif (!decide (i_2 = 0)) then (some [(.b false)]) else
      (Option.bind (F_lexeme_Fields [(.s ((([9, 32, 9] : List UInt8) ++ s_0) ++ ([32, 32] : List UInt8)))]) fun r_6 =>
       onN r_6 fun n_3 ds_16 =>
       onL ds_16 fun l_3 ds_17 =>
       onI ds_17 fun i_3 ds_18 =>
       Option.bind (F_slices_Equalstring_string_ [(.n n_3), (.l l_3), (.n n_0), (.l l_0)]) fun r_7 =>
       onB r_7 fun b_2 ds_19 =>
       bif (!b_2) then (some [(.b false)]) else
       (bif (!decide (i_3 = 0)) then (some [(.b false)]) else
        (Option.bind (F_lexeme_Fields [(.s ((s_0 ++ ([35] : List UInt8)) ++ (List.take ((if 40 < (((comment_0).length : Nat) : Int) then 40 else (((comment_0).length : Nat) : Int))).toNat (List.drop 0 comment_0))))]) fun r_8 =>
         onN r_8 fun n_4 ds_20 =>
         onL ds_20 fun l_4 ds_21 =>
         onI ds_21 fun i_4 ds_22 =>
         Option.bind (F_slices_Equalstring_string_ [(.n n_4), (.l l_4), (.n n_0), (.l l_0)]) fun r_9 =>
         onB r_9 fun b_3 ds_23 =>
         bif (!b_3) then (some [(.b false)]) else
         (bif (!decide (i_4 = 0)) then (some [(.b false)]) else
          (Option.bind (F_lexeme_Fields [(.s ((s_0 ++ ([32, 35, 32] : List UInt8)) ++ (List.take ((if 40 < (((comment_0).length : Nat) : Int) then 40 else (((comment_0).length : Nat) : Int))).toNat (List.drop 0 comment_0))))]) fun r_10 =>
           onN r_10 fun n_5 ds_24 =>
           onL ds_24 fun l_5 ds_25 =>
           onI ds_25 fun i_5 ds_26 =>
           Option.bind (F_slices_Equalstring_string_ [(.n n_5), (.l l_5), (.n n_0), (.l l_0)]) fun r_11 =>
           onB r_11 fun b_4 ds_27 =>
           bif (!b_4) then (some [(.b false)]) else
           (bif (!decide (i_5 = 0)) then (some [(.b false)]) else
            (iter F_law05_LexemeBack_L0 [(.n n_0), (.l l_0), (.i ((n_0 : Nat) : Int)), (.i 0)]))))))))))) else none) else none) else none) else none) else none) else none) else none)) else none
noncomputable def F_law05_LexemeText_L1 : List Dat → Option (List Dat ⊕ List Dat) := fun ds_17 =>
  onN ds_17 fun ln_0 ds_18 =>
  onL ds_18 fun ll_0 ds_19 =>
  onN ds_19 fun vn_0 ds_20 =>
  onL ds_20 fun vl_0 ds_21 =>
  onI ds_21 fun v_2 ds_22 =>
  onI ds_22 fun v_3 ds_23 =>
  bif (decide (v_3 < v_2)) then (bif (decide ((0 ≤ v_3) ∧ (v_3 < ((vn_0 : Nat) : Int)))) then (Option.bind (asS (vl_0)[(v_3).toNat]?) fun s_3 =>
   Option.bind (F_strings_Contains [(.s s_3), (.s ([10] : List UInt8))]) fun r_6 =>
   onB r_6 fun b_3 ds_24 =>
   bif b_3 then (Option.map .inr (some [(.b false)])) else
   (bif (decide (300 < (((s_3).length : Nat) : Int))) then (Option.map .inr (some [(.b false)])) else
    (some (.inl [(.n ln_0), (.l ll_0), (.n vn_0), (.l vl_0), (.i v_2), (.i (i64 (v_3 + 1)))])))) else none) else
  (Option.map .inr (Option.bind (Ax.strJoin [(.n ln_0), (.l ll_0), (.s ([10] : List UInt8))]) fun r_7 =>
    onS r_7 fun s_4 ds_25 =>
    bif (decide (((s_4).length + 1) ≤ 9223372036854775807)) then (Option.bind (F_lexeme_Lines [(.s (s_4 ++ ([10] : List UInt8)))]) fun r_8 =>
    onN r_8 fun n_2 ds_26 =>
    onL ds_26 fun l_2 ds_27 =>
    onI ds_27 fun i_2 ds_28 =>
    onI ds_28 fun i_3 ds_29 =>
    bif (decide (i_3 = 0)) then (Option.bind (F_slices_Equalstring_string_ [(.n n_2), (.l l_2), (.n ln_0), (.l ll_0)]) fun r_9 =>
     onB r_9 fun b_4 ds_30 =>
     bif b_4 then (Option.bind (F_law05_works []) fun r_10 =>
      onB r_10 fun b_5 ds_31 =>
      some [(.b b_5)]) else
     (some [(.b false)])) else
    (some [(.b false)])) else none))
noncomputable def F_law05_LexemeText_L2 : List Dat → Option (List Dat ⊕ List Dat) := fun ds_34 =>
  onN ds_34 fun n_3 ds_35 =>
  onL ds_35 fun l_3 ds_36 =>
  onN ds_36 fun n_4 ds_37 =>
  onL ds_37 fun l_4 ds_38 =>
  onI ds_38 fun i_4 ds_39 =>
  onI ds_39 fun i_5 ds_40 =>
  bif (decide (i_5 < i_4)) then (bif (decide ((0 ≤ i_5) ∧ (i_5 < ((n_4 : Nat) : Int)))) then (Option.bind (asS (l_4)[(i_5).toNat]?) fun s_7 =>
   Option.bind (F_strings_Contains [(.s s_7), (.s ([10] : List UInt8))]) fun r_13 =>
   onB r_13 fun b_6 ds_41 =>
   bif b_6 then (Option.map .inr (some [(.b false)])) else
   (bif (decide (300 < (((s_7).length : Nat) : Int))) then (Option.map .inr (some [(.b false)])) else
    (some (.inl [(.n n_3), (.l l_3), (.n n_4), (.l l_4), (.i i_4), (.i (i64 (i_5 + 1)))])))) else none) else
  (Option.map .inr (Option.bind (Ax.strJoin [(.n n_3), (.l l_3), (.s ([10] : List UInt8))]) fun r_14 =>
    onS r_14 fun s_8 ds_42 =>
    bif (decide (((s_8).length + 1) ≤ 9223372036854775807)) then (Option.bind (F_lexeme_Lines [(.s (s_8 ++ ([10] : List UInt8)))]) fun r_15 =>
    onN r_15 fun n_5 ds_43 =>
    onL ds_43 fun l_5 ds_44 =>
    onI ds_44 fun i_6 ds_45 =>
    onI ds_45 fun i_7 ds_46 =>
    bif (decide (i_7 = 0)) then (Option.bind (F_slices_Equalstring_string_ [(.n n_5), (.l l_5), (.n n_3), (.l l_3)]) fun r_16 =>
     onB r_16 fun b_7 ds_47 =>
     bif b_7 then (Option.bind (F_law05_works []) fun r_17 =>
      onB r_17 fun b_8 ds_48 =>
      some [(.b b_8)]) else
     (some [(.b false)])) else
    (some [(.b false)])) else none))
noncomputable def F_law05_LexemeText_L0 (text_0 : List UInt8) (n_0 : Nat) (l_0 : List AV) (i_0 : Int) (i_1 : Int) : List Dat → Option (List Dat ⊕ List Dat) := fun ds_9 =>
  onN ds_9 fun sn_0 ds_10 =>
  onL ds_10 fun sl_0 ds_11 =>
  onI ds_11 fun v_0 ds_12 =>
  onI ds_12 fun v_1 ds_13 =>
  bif (decide (v_1 < v_0)) then (bif (decide ((0 ≤ v_1) ∧ (v_1 < ((sn_0 : Nat) : Int)))) then (Option.bind (asS (sl_0)[(v_1).toNat]?) fun s_0 =>
   Option.bind (bif (decide (300 < (((s_0).length : Nat) : Int))) then (some true) else
    (some false)) fun b_1 =>
   bif b_1 then (Option.map .inr (bif (decide (0 ≤ v_1)) then (bif (decide (((n_0 : Nat) : Int) = 0)) then (bif (decide (i_0 = (i64 (v_1 + 1)))) then (bif (decide (i_1 = 6)) then (Option.bind (F_law05_works []) fun r_3 =>
         onB r_3 fun b_2 ds_14 =>
         some [(.b b_2)]) else
        (some [(.b false)])) else
       (some [(.b false)])) else
      (some [(.b false)])) else
     (bif (!decide (i_1 = 0)) then (some [(.b false)]) else
      (bif (!decide (i_0 = 0)) then (some [(.b false)]) else
       (bif (decide (((n_0 : Nat) : Int) = 0)) then (some [(.b false)]) else
        (Option.bind (Ax.strJoin [(.n n_0), (.l l_0), (.s ([10] : List UInt8))]) fun r_4 =>
         onS r_4 fun s_1 ds_15 =>
         Option.bind (F_strings_TrimSuffix [(.s text_0), (.s ([10] : List UInt8))]) fun r_5 =>
         onS r_5 fun s_2 ds_16 =>
         bif (!(s_1 == s_2)) then (some [(.b false)]) else
         (iter F_law05_LexemeText_L1 [(.n n_0), (.l l_0), (.n n_0), (.l l_0), (.i ((n_0 : Nat) : Int)), (.i 0)]))))))) else
   (some (.inl [(.n sn_0), (.l sl_0), (.i v_0), (.i (i64 (v_1 + 1)))]))) else none) else
  (Option.map .inr (bif (!decide (i_1 = 0)) then (some [(.b false)]) else
    (bif (!decide (i_0 = 0)) then (some [(.b false)]) else
     (bif (decide (((n_0 : Nat) : Int) = 0)) then (some [(.b false)]) else
      (Option.bind (Ax.strJoin [(.n n_0), (.l l_0), (.s ([10] : List UInt8))]) fun r_11 =>
       onS r_11 fun s_5 ds_32 =>
       Option.bind (F_strings_TrimSuffix [(.s text_0), (.s ([10] : List UInt8))]) fun r_12 =>
       onS r_12 fun s_6 ds_33 =>
       bif (!(s_5 == s_6)) then (some [(.b false)]) else
       (iter F_law05_LexemeText_L2 [(.n n_0), (.l l_0), (.n n_0), (.l l_0), (.i ((n_0 : Nat) : Int)), (.i 0)]))))))
noncomputable def F_law05_LexemeText : List Dat → Option (List Dat) := fun ds_0 =>
  onS ds_0 fun text_0 ds_1 =>
  bif (decide (2000 < (((text_0).length : Nat) : Int))) then (Option.bind (F_law05_works []) fun r_0 =>
   onB r_0 fun b_0 ds_2 =>
   some [(.b b_0)]) else
  (Option.bind (F_lexeme_Lines [(.s text_0)]) fun r_1 =>
   onN r_1 fun n_0 ds_3 =>
   onL ds_3 fun l_0 ds_4 =>
   onI ds_4 fun i_0 ds_5 =>
   onI ds_5 fun i_1 ds_6 =>
   Option.bind (F_strings_Split [(.s text_0), (.s ([10] : List UInt8))]) fun r_2 =>
   onN r_2 fun n_1 ds_7 =>
   onL ds_7 fun l_1 ds_8 =>
   iter (F_law05_LexemeText_L0 text_0 n_0 l_0 i_0 i_1) [(.n n_1), (.l l_1), (.i ((n_1 : Nat) : Int)), (.i 0)])
noncomputable def F_law05_LexemeQuotes_L0 : List Dat → Option (List Dat ⊕ List Dat) := fun ds_7 =>
  onI ds_7 fun vfrom_0 ds_8 =>
  onI ds_8 fun to_1 ds_9 =>
  onN ds_9 fun fieldsn_0 ds_10 =>
  onL ds_10 fun fieldsl_0 ds_11 =>
  onS ds_11 fun line_0 ds_12 =>
  onN ds_12 fun vn_0 ds_13 =>
  onL ds_13 fun vl_0 ds_14 =>
  onI ds_14 fun v_0 ds_15 =>
  onI ds_15 fun v_1 ds_16 =>
  bif (decide (v_1 < v_0)) then (bif (decide ((0 ≤ v_1) ∧ (v_1 < ((vn_0 : Nat) : Int)))) then (Option.bind (asS (vl_0)[(v_1).toNat]?) fun s_0 =>
   bif ((i64 ((((s_0).length : Nat) : Int) + 1)) != 0) then (bif ((i64 ((i64 ((((s_0).length : Nat) : Int) - (Int.tmod (i64 vfrom_0) (i64 ((((s_0).length : Nat) : Int) + 1))))) + 1)) != 0) then (bif (decide (0 < v_1)) then (bif (decide (((line_0).length + 1) ≤ 9223372036854775807)) then (bif (decide ((0 ≤ (Int.tmod (i64 vfrom_0) (i64 ((((s_0).length : Nat) : Int) + 1)))) ∧ ((Int.tmod (i64 vfrom_0) (i64 ((((s_0).length : Nat) : Int) + 1))) ≤ (((s_0).length : Nat) : Int)))) then (bif (decide ((1 + ((List.take ((Int.tmod (i64 vfrom_0) (i64 ((((s_0).length : Nat) : Int) + 1)))).toNat (List.drop 0 s_0))).length) ≤ 9223372036854775807)) then (bif (decide ((((([34] : List UInt8) ++ (List.take ((Int.tmod (i64 vfrom_0) (i64 ((((s_0).length : Nat) : Int) + 1)))).toNat (List.drop 0 s_0)))).length + 2) ≤ 9223372036854775807)) then (bif (decide ((0 ≤ (i64 ((Int.tmod (i64 vfrom_0) (i64 ((((s_0).length : Nat) : Int) + 1))) + (Int.tmod (i64 to_1) (i64 ((i64 ((((s_0).length : Nat) : Int) - (Int.tmod (i64 vfrom_0) (i64 ((((s_0).length : Nat) : Int) + 1))))) + 1)))))) ∧ ((i64 ((Int.tmod (i64 vfrom_0) (i64 ((((s_0).length : Nat) : Int) + 1))) + (Int.tmod (i64 to_1) (i64 ((i64 ((((s_0).length : Nat) : Int) - (Int.tmod (i64 vfrom_0) (i64 ((((s_0).length : Nat) : Int) + 1))))) + 1))))) ≤ (((s_0).length : Nat) : Int)))) then (bif (decide ((0 ≤ (Int.tmod (i64 vfrom_0) (i64 ((((s_0).length : Nat) : Int) + 1)))) ∧ ((Int.tmod (i64 vfrom_0) (i64 ((((s_0).length : Nat) : Int) + 1))) ≤ ((((i64 ((Int.tmod (i64 vfrom_0) (i64 ((((s_0).length : Nat) : Int) + 1))) + (Int.tmod (i64 to_1) (i64 ((i64 ((((s_0).length : Nat) : Int) - (Int.tmod (i64 vfrom_0) (i64 ((((s_0).length : Nat) : Int) + 1))))) + 1)))))).toNat : Nat) : Int)))) then (bif (decide (((((([34] : List UInt8) ++ (List.take ((Int.tmod (i64 vfrom_0) (i64 ((((s_0).length : Nat) : Int) + 1)))).toNat (List.drop 0 s_0))) ++ ([34, 34] : List UInt8))).length + ((List.take (((i64 ((Int.tmod (i64 vfrom_0) (i64 ((((s_0).length : Nat) : Int) + 1))) + (Int.tmod (i64 to_1) (i64 ((i64 ((((s_0).length : Nat) : Int) - (Int.tmod (i64 vfrom_0) (i64 ((((s_0).length : Nat) : Int) + 1))))) + 1)))))).toNat - ((Int.tmod (i64 vfrom_0) (i64 ((((s_0).length : Nat) : Int) + 1)))).toNat) (List.drop ((Int.tmod (i64 vfrom_0) (i64 ((((s_0).length : Nat) : Int) + 1)))).toNat s_0))).length) ≤ 9223372036854775807)) then (bif (decide ((((((([34] : List UInt8) ++ (List.take ((Int.tmod (i64 vfrom_0) (i64 ((((s_0).length : Nat) : Int) + 1)))).toNat (List.drop 0 s_0))) ++ ([34, 34] : List UInt8)) ++ (List.take (((i64 ((Int.tmod (i64 vfrom_0) (i64 ((((s_0).length : Nat) : Int) + 1))) + (Int.tmod (i64 to_1) (i64 ((i64 ((((s_0).length : Nat) : Int) - (Int.tmod (i64 vfrom_0) (i64 ((((s_0).length : Nat) : Int) + 1))))) + 1)))))).toNat - ((Int.tmod (i64 vfrom_0) (i64 ((((s_0).length : Nat) : Int) + 1)))).toNat) (List.drop ((Int.tmod (i64 vfrom_0) (i64 ((((s_0).length : Nat) : Int) + 1)))).toNat s_0)))).length + 2) ≤ 9223372036854775807)) then (bif (decide ((0 ≤ (i64 ((Int.tmod (i64 vfrom_0) (i64 ((((s_0).length : Nat) : Int) + 1))) + (Int.tmod (i64 to_1) (i64 ((i64 ((((s_0).length : Nat) : Int) - (Int.tmod (i64 vfrom_0) (i64 ((((s_0).length : Nat) : Int) + 1))))) + 1)))))) ∧ ((i64 ((Int.tmod (i64 vfrom_0) (i64 ((((s_0).length : Nat) : Int) + 1))) + (Int.tmod (i64 to_1) (i64 ((i64 ((((s_0).length : Nat) : Int) - (Int.tmod (i64 vfrom_0) (i64 ((((s_0).length : Nat) : Int) + 1))))) + 1))))) ≤ (((s_0).length : Nat) : Int)))) then (bif (decide (((((((([34] : List UInt8) ++ (List.take ((Int.tmod (i64 vfrom_0) (i64 ((((s_0).length : Nat) : Int) + 1)))).toNat (List.drop 0 s_0))) ++ ([34, 34] : List UInt8)) ++ (List.take (((i64 ((Int.tmod (i64 vfrom_0) (i64 ((((s_0).length : Nat) : Int) + 1))) + (Int.tmod (i64 to_1) (i64 ((i64 ((((s_0).length : Nat) : Int) - (Int.tmod (i64 vfrom_0) (i64 ((((s_0).length : Nat) : Int) + 1))))) + 1)))))).toNat - ((Int.tmod (i64 vfrom_0) (i64 ((((s_0).length : Nat) : Int) + 1)))).toNat) (List.drop ((Int.tmod (i64 vfrom_0) (i64 ((((s_0).length : Nat) : Int) + 1)))).toNat s_0))) ++ ([34, 34] : List UInt8))).length + ((List.take ((s_0).length - ((i64 ((Int.tmod (i64 vfrom_0) (i64 ((((s_0).length : Nat) : Int) + 1))) + (Int.tmod (i64 to_1) (i64 ((i64 ((((s_0).length : Nat) : Int) - (Int.tmod (i64 vfrom_0) (i64 ((((s_0).length : Nat) : Int) + 1))))) + 1)))))).toNat) (List.drop ((i64 ((Int.tmod (i64 vfrom_0) (i64 ((((s_0).length : Nat) : Int) + 1))) + (Int.tmod (i64 to_1) (i64 ((i64 ((((s_0).length : Nat) : Int) - (Int.tmod (i64 vfrom_0) (i64 ((((s_0).length : Nat) : Int) + 1))))) + 1)))))).toNat s_0))).length) ≤ 9223372036854775807)) then (bif (decide ((((((((([34] : List UInt8) ++ (List.take ((Int.tmod (i64 vfrom_0) (i64 ((((s_0).length : Nat) : Int) + 1)))).toNat (List.drop 0 s_0))) ++ ([34, 34] : List UInt8)) ++ (List.take (((i64 ((Int.tmod (i64 vfrom_0) (i64 ((((s_0).length : Nat) : Int) + 1))) + (Int.tmod (i64 to_1) (i64 ((i64 ((((s_0).length : Nat) : Int) - (Int.tmod (i64 vfrom_0) (i64 ((((s_0).length : Nat) : Int) + 1))))) + 1)))))).toNat - ((Int.tmod (i64 vfrom_0) (i64 ((((s_0).length : Nat) : Int) + 1)))).toNat) (List.drop ((Int.tmod (i64 vfrom_0) (i64 ((((s_0).length : Nat) : Int) + 1)))).toNat s_0))) ++ ([34, 34] : List UInt8)) ++ (List.take ((s_0).length - ((i64 ((Int.tmod (i64 vfrom_0) (i64 ((((s_0).length : Nat) : Int) + 1))) + (Int.tmod (i64 to_1) (i64 ((i64 ((((s_0).length : Nat) : Int) - (Int.tmod (i64 vfrom_0) (i64 ((((s_0).length : Nat) : Int) + 1))))) + 1)))))).toNat) (List.drop ((i64 ((Int.tmod (i64 vfrom_0) (i64 ((((s_0).length : Nat) : Int) + 1))) + (Int.tmod (i64 to_1) (i64 ((i64 ((((s_0).length : Nat) : Int) - (Int.tmod (i64 vfrom_0) (i64 ((((s_0).length : Nat) : Int) + 1))))) + 1)))))).toNat s_0)))).length + 1) ≤ 9223372036854775807)) then (bif (decide ((((line_0 ++ ([9] : List UInt8))).length + (((((((([34] : List UInt8) ++ (List.take ((Int.tmod (i64 vfrom_0) (i64 ((((s_0).length : Nat) : Int) + 1)))).toNat (List.drop 0 s_0))) ++ ([34, 34] : List UInt8)) ++ (List.take (((i64 ((Int.tmod (i64 vfrom_0) (i64 ((((s_0).length : Nat) : Int) + 1))) + (Int.tmod (i64 to_1) (i64 ((i64 ((((s_0).length : Nat) : Int) - (Int.tmod (i64 vfrom_0) (i64 ((((s_0).length : Nat) : Int) + 1))))) + 1)))))).toNat - ((Int.tmod (i64 vfrom_0) (i64 ((((s_0).length : Nat) : Int) + 1)))).toNat) (List.drop ((Int.tmod (i64 vfrom_0) (i64 ((((s_0).length : Nat) : Int) + 1)))).toNat s_0))) ++ ([34, 34] : List UInt8)) ++ (List.take ((s_0).length - ((i64 ((Int.tmod (i64 vfrom_0) (i64 ((((s_0).length : Nat) : Int) + 1))) + (Int.tmod (i64 to_1) (i64 ((i64 ((((s_0).length : Nat) : Int) - (Int.tmod (i64 vfrom_0) (i64 ((((s_0).length : Nat) : Int) + 1))))) + 1)))))).toNat) (List.drop ((i64 ((Int.tmod (i64 vfrom_0) (i64 ((((s_0).length : Nat) : Int) + 1))) + (Int.tmod (i64 to_1) (i64 ((i64 ((((s_0).length : Nat) : Int) - (Int.tmod (i64 vfrom_0) (i64 ((((s_0).length : Nat) : Int) + 1))))) + 1)))))).toNat s_0))) ++ ([34] : List UInt8))).length) ≤ 9223372036854775807)) then (some (.inl [(.i vfrom_0), (.i to_1), (.n fieldsn_0), (.l fieldsl_0), (.s ((line_0 ++ ([9] : List UInt8)) ++ ((((((([34] : List UInt8) ++ (List.take ((Int.tmod (i64 vfrom_0) (i64 ((((s_0).length : Nat) : Int) + 1)))).toNat (List.drop 0 s_0))) ++ ([34, 34] : List UInt8)) ++ (List.take (((i64 ((Int.tmod (i64 vfrom_0) (i64 ((((s_0).length : Nat) : Int) + 1))) + (Int.tmod (i64 to_1) (i64 ((i64 ((((s_0).length : Nat) : Int) - (Int.tmod (i64 vfrom_0) (i64 ((((s_0).length : Nat) : Int) + 1))))) + 1)))))).toNat - ((Int.tmod (i64 vfrom_0) (i64 ((((s_0).length : Nat) : Int) + 1)))).toNat) (List.drop ((Int.tmod (i64 vfrom_0) (i64 ((((s_0).length : Nat) : Int) + 1)))).toNat s_0))) ++ ([34, 34] : List UInt8)) ++ (List.take ((s_0).length - ((i64 ((Int.tmod (i64 vfrom_0) (i64 ((((s_0).length : Nat) : Int) + 1))) + (Int.tmod (i64 to_1) (i64 ((i64 ((((s_0).length : Nat) : Int) - (Int.tmod (i64 vfrom_0) (i64 ((((s_0).length : Nat) : Int) + 1))))) + 1)))))).toNat) (List.drop ((i64 ((Int.tmod (i64 vfrom_0) (i64 ((((s_0).length : Nat) : Int) + 1))) + (Int.tmod (i64 to_1) (i64 ((i64 ((((s_0).length : Nat) : Int) - (Int.tmod (i64 vfrom_0) (i64 ((((s_0).length : Nat) : Int) + 1))))) + 1)))))).toNat s_0))) ++ ([34] : List UInt8)))), (.n vn_0), (.l vl_0), (.i v_0), (.i (i64 (v_1 + 1)))])) else none) else none) else none) else none) else none) else none) else none) else none) else none) else none) else none) else none) else
   (bif (decide ((0 ≤ (Int.tmod (i64 vfrom_0) (i64 ((((s_0).length : Nat) : Int) + 1)))) ∧ ((Int.tmod (i64 vfrom_0) (i64 ((((s_0).length : Nat) : Int) + 1))) ≤ (((s_0).length : Nat) : Int)))) then (bif (decide ((1 + ((List.take ((Int.tmod (i64 vfrom_0) (i64 ((((s_0).length : Nat) : Int) + 1)))).toNat (List.drop 0 s_0))).length) ≤ 9223372036854775807)) then (bif (decide ((((([34] : List UInt8) ++ (List.take ((Int.tmod (i64 vfrom_0) (i64 ((((s_0).length : Nat) : Int) + 1)))).toNat (List.drop 0 s_0)))).length + 2) ≤ 9223372036854775807)) then (bif (decide ((0 ≤ (i64 ((Int.tmod (i64 vfrom_0) (i64 ((((s_0).length : Nat) : Int) + 1))) + (Int.tmod (i64 to_1) (i64 ((i64 ((((s_0).length : Nat) : Int) - (Int.tmod (i64 vfrom_0) (i64 ((((s_0).length : Nat) : Int) + 1))))) + 1)))))) ∧ ((i64 ((Int.tmod (i64 vfrom_0) (i64 ((((s_0).length : Nat) : Int) + 1))) + (Int.tmod (i64 to_1) (i64 ((i64 ((((s_0).length : Nat) : Int) - (Int.tmod (i64 vfrom_0) (i64 ((((s_0).length : Nat) : Int) + 1))))) + 1))))) ≤ (((s_0).length : Nat) : Int)))) then (bif (decide ((0 ≤ (Int.tmod (i64 vfrom_0) (i64 ((((s_0).length : Nat) : Int) + 1)))) ∧ ((Int.tmod (i64 vfrom_0) (i64 ((((s_0).length : Nat) : Int) + 1))) ≤ ((((i64 ((Int.tmod (i64 vfrom_0) (i64 ((((s_0).length : Nat) : Int) + 1))) + (Int.tmod (i64 to_1) (i64 ((i64 ((((s_0).length : Nat) : Int) - (Int.tmod (i64 vfrom_0) (i64 ((((s_0).length : Nat) : Int) + 1))))) + 1)))))).toNat : Nat) : Int)))) then (bif (decide (((((([34] : List UInt8) ++ (List.take ((Int.tmod (i64 vfrom_0) (i64 ((((s_0).length : Nat) : Int) + 1)))).toNat (List.drop 0 s_0))) ++ ([34, 34] : List UInt8))).length + ((List.take (((i64 ((Int.tmod (i64 vfrom_0) (i64 ((((s_0).length : Nat) : Int) + 1))) + (Int.tmod (i64 to_1) (i64 ((i64 ((((s_0).length : Nat) : Int) - (Int.tmod (i64 vfrom_0) (i64 ((((s_0).length : Nat) : Int) + 1))))) + 1)))))).toNat - ((Int.tmod (i64 vfrom_0) (i64 ((((s_0).length : Nat) : Int) + 1)))).toNat) (List.drop ((Int.tmod (i64 vfrom_0) (i64 ((((s_0).length : Nat) : Int) + 1)))).toNat s_0))).length) ≤ 9223372036854775807)) then (bif (decide ((((((([34] : List UInt8) ++ (List.take ((Int.tmod (i64 vfrom_0) (i64 ((((s_0).length : Nat) : Int) + 1)))).toNat (List.drop 0 s_0))) ++ ([34, 34] : List UInt8)) ++ (List.take (((i64 ((Int.tmod (i64 vfrom_0) (i64 ((((s_0).length : Nat) : Int) + 1))) + (Int.tmod (i64 to_1) (i64 ((i64 ((((s_0).length : Nat) : Int) - (Int.tmod (i64 vfrom_0) (i64 ((((s_0).length : Nat) : Int) + 1))))) + 1)))))).toNat - ((Int.tmod (i64 vfrom_0) (i64 ((((s_0).length : Nat) : Int) + 1)))).toNat) (List.drop ((Int.tmod (i64 vfrom_0) (i64 ((((s_0).length : Nat) : Int) + 1)))).toNat s_0)))).length + 2) ≤ 9223372036854775807)) then (bif (decide ((0 ≤ (i64 ((Int.tmod (i64 vfrom_0) (i64 ((((s_0).length : Nat) : Int) + 1))) + (Int.tmod (i64 to_1) (i64 ((i64 ((((s_0).length : Nat) : Int) - (Int.tmod (i64 vfrom_0) (i64 ((((s_0).length : Nat) : Int) + 1))))) + 1)))))) ∧ ((i64 ((Int.tmod (i64 vfrom_0) (i64 ((((s_0).length : Nat) : Int) + 1))) + (Int.tmod (i64 to_1) (i64 ((i64 ((((s_0).length : Nat) : Int) - (Int.tmod (i64 vfrom_0) (i64 ((((s_0).length : Nat) : Int) + 1))))) + 1))))) ≤ (((s_0).length : Nat) : Int)))) then (bif (decide (((((((([34] : List UInt8) ++ (List.take ((Int.tmod (i64 vfrom_0) (i64 ((((s_0).length : Nat) : Int) + 1)))).toNat (List.drop 0 s_0))) ++ ([34, 34] : List UInt8)) ++ (List.take (((i64 ((Int.tmod (i64 vfrom_0) (i64 ((((s_0).length : Nat) : Int) + 1))) + (Int.tmod (i64 to_1) (i64 ((i64 ((((s_0).length : Nat) : Int) - (Int.tmod (i64 vfrom_0) (i64 ((((s_0).length : Nat) : Int) + 1))))) + 1)))))).toNat - ((Int.tmod (i64 vfrom_0) (i64 ((((s_0).length : Nat) : Int) + 1)))).toNat) (List.drop ((Int.tmod (i64 vfrom_0) (i64 ((((s_0).length : Nat) : Int) + 1)))).toNat s_0))) ++ ([34, 34] : List UInt8))).length + ((List.take ((s_0).length - ((i64 ((Int.tmod (i64 vfrom_0) (i64 ((((s_0).length : Nat) : Int) + 1))) + (Int.tmod (i64 to_1) (i64 ((i64 ((((s_0).length : Nat) : Int) - (Int.tmod (i64 vfrom_0) (i64 ((((s_0).length : Nat) : Int) + 1))))) + 1)))))).toNat) (List.drop ((i64 ((Int.tmod (i64 vfrom_0) (i64 ((((s_0).length : Nat) : Int) + 1))) + (Int.tmod (i64 to_1) (i64 ((i64 ((((s_0).length : Nat) : Int) - (Int.tmod (i64 vfrom_0) (i64 ((((s_0).length : Nat) : Int) + 1))))) + 1)))))).toNat s_0))).length) ≤ 9223372036854775807)) then (bif (decide ((((((((([34] : List UInt8) ++ (List.take ((Int.tmod (i64 vfrom_0) (i64 ((((s_0).length : Nat) : Int) + 1)))).toNat (List.drop 0 s_0))) ++ ([34, 34] : List UInt8)) ++ (List.take (((i64 ((Int.tmod (i64 vfrom_0) (i64 ((((s_0).length : Nat) : Int) + 1))) + (Int.tmod (i64 to_1) (i64 ((i64 ((((s_0).length : Nat) : Int) - (Int.tmod (i64 vfrom_0) (i64 ((((s_0).length : Nat) : Int) + 1))))) + 1)))))).toNat - ((Int.tmod (i64 vfrom_0) (i64 ((((s_0).length : Nat) : Int) + 1)))).toNat) (List.drop ((Int.tmod (i64 vfrom_0) (i64 ((((s_0).length : Nat) : Int) + 1)))).toNat s_0))) ++ ([34, 34] : List UInt8)) ++ (List.take ((s_0).length - ((i64 ((Int.tmod (i64 vfrom_0) (i64 ((((s_0).length : Nat) : Int) + 1))) + (Int.tmod (i64 to_1) (i64 ((i64 ((((s_0).length : Nat) : Int) - (Int.tmod (i64 vfrom_0) (i64 ((((s_0).length : Nat) : Int) + 1))))) + 1)))))).toNat) (List.drop ((i64 ((Int.tmod (i64 vfrom_0) (i64 ((((s_0).length : Nat) : Int) + 1))) + (Int.tmod (i64 to_1) (i64 ((i64 ((((s_0).length : Nat) : Int) - (Int.tmod (i64 vfrom_0) (i64 ((((s_0).length : Nat) : Int) + 1))))) + 1)))))).toNat s_0)))).length + 1) ≤ 9223372036854775807)) then (bif (decide (((line_0).length + (((((((([34] : List UInt8) ++ (List.take ((Int.tmod (i64 vfrom_0) (i64 ((((s_0).length : Nat) : Int) + 1)))).toNat (List.drop 0 s_0))) ++ ([34, 34] : List UInt8)) ++ (List.take (((i64 ((Int.tmod (i64 vfrom_0) (i64 ((((s_0).length : Nat) : Int) + 1))) + (Int.tmod (i64 to_1) (i64 ((i64 ((((s_0).length : Nat) : Int) - (Int.tmod (i64 vfrom_0) (i64 ((((s_0).length : Nat) : Int) + 1))))) + 1)))))).toNat - ((Int.tmod (i64 vfrom_0) (i64 ((((s_0).length : Nat) : Int) + 1)))).toNat) (List.drop ((Int.tmod (i64 vfrom_0) (i64 ((((s_0).length : Nat) : Int) + 1)))).toNat s_0))) ++ ([34, 34] : List UInt8)) ++ (List.take ((s_0).length - ((i64 ((Int.tmod (i64 vfrom_0) (i64 ((((s_0).length : Nat) : Int) + 1))) + (Int.tmod (i64 to_1) (i64 ((i64 ((((s_0).length : Nat) : Int) - (Int.tmod (i64 vfrom_0) (i64 ((((s_0).length : Nat) : Int) + 1))))) + 1)))))).toNat) (List.drop ((i64 ((Int.tmod (i64 vfrom_0) (i64 ((((s_0).length : Nat) : Int) + 1))) + (Int.tmod (i64 to_1) (i64 ((i64 ((((s_0).length : Nat) : Int) - (Int.tmod (i64 vfrom_0) (i64 ((((s_0).length : Nat) : Int) + 1))))) + 1)))))).toNat s_0))) ++ ([34] : List UInt8))).length) ≤ 9223372036854775807)) then (some (.inl [(.i vfrom_0), (.i to_1), (.n fieldsn_0), (.l fieldsl_0), (.s (line_0 ++ ((((((([34] : List UInt8) ++ (List.take ((Int.tmod (i64 vfrom_0) (i64 ((((s_0).length : Nat) : Int) + 1)))).toNat (List.drop 0 s_0))) ++ ([34, 34] : List UInt8)) ++ (List.take (((i64 ((Int.tmod (i64 vfrom_0) (i64 ((((s_0).length : Nat) : Int) + 1))) + (Int.tmod (i64 to_1) (i64 ((i64 ((((s_0).length : Nat) : Int) - (Int.tmod (i64 vfrom_0) (i64 ((((s_0).length : Nat) : Int) + 1))))) + 1)))))).toNat - ((Int.tmod (i64 vfrom_0) (i64 ((((s_0).length : Nat) : Int) + 1)))).toNat) (List.drop ((Int.tmod (i64 vfrom_0) (i64 ((((s_0).length : Nat) : Int) + 1)))).toNat s_0))) ++ ([34, 34] : List UInt8)) ++ (List.take ((s_0).length - ((i64 ((Int.tmod (i64 vfrom_0) (i64 ((((s_0).length : Nat) : Int) + 1))) + (Int.tmod (i64 to_1) (i64 ((i64 ((((s_0).length : Nat) : Int) - (Int.tmod (i64 vfrom_0) (i64 ((((s_0).length : Nat) : Int) + 1))))) + 1)))))).toNat) (List.drop ((i64 ((Int.tmod (i64 vfrom_0) (i64 ((((s_0).length : Nat) : Int) + 1))) + (Int.tmod (i64 to_1) (i64 ((i64 ((((s_0).length : Nat) : Int) - (Int.tmod (i64 vfrom_0) (i64 ((((s_0).length : Nat) : Int) + 1))))) + 1)))))).toNat s_0))) ++ ([34] : List UInt8)))), (.n vn_0), (.l vl_0), (.i v_0), (.i (i64 (v_1 + 1)))])) else none) else none) else none) else none) else none) else none) else none) else none) else none) else none) else none)) else none) else none) else none) else
  (Option.map .inr (Option.bind (F_lexeme_Fields [(.s line_0)]) fun r_1 =>
    onN r_1 fun n_1 ds_17 =>
    onL ds_17 fun l_1 ds_18 =>
    onI ds_18 fun i_0 ds_19 =>
    Option.bind (F_slices_Equalstring_string_ [(.n n_1), (.l l_1), (.n fieldsn_0), (.l fieldsl_0)]) fun r_2 =>
    onB r_2 fun b_0 ds_20 =>
    bif b_0 then (bif (decide (i_0 = 0)) then (Option.bind (F_law05_works []) fun r_3 =>
      onB r_3 fun b_1 ds_21 =>
      some [(.b b_1)]) else
     (some [(.b false)])) else
    (some [(.b false)])))
noncomputable def F_law05_LexemeQuotes : List Dat → Option (List Dat) := fun ds_0 =>
  onN ds_0 fun dn_0 ds_1 =>
  onL ds_1 fun dl_0 ds_2 =>
  onI ds_2 fun from_0 ds_3 =>
  onI ds_3 fun to_0 ds_4 =>
  Option.bind (F__law05_Draft__Made [(.n dn_0), (.l dl_0)]) fun r_0 =>
  onN r_0 fun n_0 ds_5 =>
  onL ds_5 fun l_0 ds_6 =>
  iter F_law05_LexemeQuotes_L0 [(.i from_0), (.i to_0), (.n n_0), (.l l_0), (.s ([] : List UInt8)), (.n n_0), (.l l_0), (.i ((n_0 : Nat) : Int)), (.i 0)]
noncomputable def F_slices_Clonestring_string__nil : List Dat → Option (List Dat) := fun ds_0 =>
  some [(.n 0), (.l [])]
noncomputable def F_slices_Clonestring_string__empty : List Dat → Option (List Dat) := fun ds_0 =>
  some [(.n 0), (.l [])]
noncomputable def F_slices_Clonestring_string__list : List Dat → Option (List Dat) := fun ds_0 =>
  onN ds_0 fun sn_0 ds_1 =>
  onL ds_1 fun sl_0 ds_2 =>
  bif (decide ((sl_0).length = sn_0)) then (bif (decide (sn_0 ≤ 0)) then (bif (decide ((0 + sn_0) ≤ 0)) then (bif (decide ((sl_0).length = sn_0)) then (bif (decide ((0 + (sn_0 * 1)) ≤ ((Ax.write [] 0 sl_0)).length)) then (bif (List.all (List.take (sn_0 * 1) (List.drop 0 (Ax.write [] 0 sl_0))) (Ax.closedN 20)) then (some [(.n sn_0), (.l (List.take (sn_0 * 1) (List.drop 0 (Ax.write [] 0 sl_0))))]) else
    (none)) else
   (none)) else none) else none) else
  (bif (decide ((sn_0 * 16) ≤ 140737488355328)) then (bif (decide ((0 + (sn_0 * 1)) ≤ (([] ++ sl_0)).length)) then (bif (List.all (List.take (sn_0 * 1) (List.drop 0 ([] ++ sl_0))) (Ax.closedN 20)) then (some [(.n sn_0), (.l (List.take (sn_0 * 1) (List.drop 0 ([] ++ sl_0))))]) else
    (none)) else
   (none)) else none)) else none
noncomputable def F_slices_Clonestring_string_ : List Dat → Option (List Dat) := seq3 (.seq) F_slices_Clonestring_string__list
noncomputable def F_law05_LexemeWrong : List Dat → Option (List Dat) := fun ds_0 =>
  onN ds_0 fun dn_0 ds_1 =>
  onL ds_1 fun dl_0 ds_2 =>
  onI ds_2 fun c_0 ds_3 =>
  onI ds_3 fun at_0 ds_4 =>
  bif (decide ((0 ≤ (if 6 < ((dn_0 : Nat) : Int) then 6 else ((dn_0 : Nat) : Int))) ∧ ((if 6 < ((dn_0 : Nat) : Int) then 6 else ((dn_0 : Nat) : Int)) ≤ ((dn_0 : Nat) : Int)))) then (bif (decide ((0 + ((if 6 < ((dn_0 : Nat) : Int) then 6 else ((dn_0 : Nat) : Int))).toNat) ≤ (dl_0).length)) then (Option.bind (F__law05_Draft__Made [(.n ((if 6 < ((dn_0 : Nat) : Int) then 6 else ((dn_0 : Nat) : Int))).toNat), (.l (List.take ((if 6 < ((dn_0 : Nat) : Int) then 6 else ((dn_0 : Nat) : Int))).toNat (List.drop 0 dl_0)))]) fun r_0 =>
  onN r_0 fun n_0 ds_5 =>
  onL ds_5 fun l_0 ds_6 =>
  Option.bind (F_lexeme_Join [(.n n_0), (.l l_0)]) fun r_1 =>
  onS r_1 fun s_0 ds_7 =>
  onI ds_7 fun i_0 ds_8 =>
  bif (!decide (i_0 = 0)) then (some [(.b false)]) else
  (bif ((i64 ((((s_0).length : Nat) : Int) + 1)) != 0) then (bif (decide (((s_0).length + 3) ≤ 9223372036854775807)) then (Option.bind (F_lexeme_Fields [(.s (s_0 ++ ([32, 34, 120] : List UInt8)))]) fun r_2 =>
   onN r_2 fun n_1 ds_9 =>
   onL ds_9 fun l_1 ds_10 =>
   onI ds_10 fun i_1 ds_11 =>
   Option.bind (bif (!decide (((n_1 : Nat) : Int) = 0)) then (some true) else
    (bif (!decide (i_1 = 5)) then (some true) else
     (some false))) fun b_0 =>
   bif b_0 then (some [(.b false)]) else
   (bif (decide (((s_0).length + 4) ≤ 9223372036854775807)) then (Option.bind (bytesOf [(Ax.AV.int .u8 (Ax.I.sym c_0))]) fun s_1 =>
    bif (decide ((((s_0 ++ ([32, 35, 32, 34] : List UInt8))).length + (s_1).length) ≤ 9223372036854775807)) then (Option.bind (F_lexeme_Fields [(.s ((s_0 ++ ([32, 35, 32, 34] : List UInt8)) ++ s_1))]) fun r_3 =>
    onN r_3 fun n_2 ds_12 =>
    onL ds_12 fun l_2 ds_13 =>
    onI ds_13 fun i_2 ds_14 =>
    bif (!decide (i_2 = 0)) then (some [(.b false)]) else
    (Option.bind (F_slices_Equalstring_string_ [(.n n_2), (.l l_2), (.n n_0), (.l l_0)]) fun r_4 =>
     onB r_4 fun b_1 ds_15 =>
     bif (!b_1) then (some [(.b false)]) else
     (Option.bind (bif (decide (c_0 < 32)) then (bif (!decide (c_0 = 9)) then (some true) else
        (bif (decide (126 < c_0)) then (some true) else
         (some false))) else
       (bif (decide (126 < c_0)) then (some true) else
        (some false))) fun b_2 =>
      bif b_2 then (bif (decide ((0 ≤ (Int.tmod (i64 at_0) (i64 ((((s_0).length : Nat) : Int) + 1)))) ∧ ((Int.tmod (i64 at_0) (i64 ((((s_0).length : Nat) : Int) + 1))) ≤ (((s_0).length : Nat) : Int)))) then (Option.bind (bytesOf [(Ax.AV.int .u8 (Ax.I.sym c_0))]) fun s_2 =>
       bif (decide ((((List.take ((Int.tmod (i64 at_0) (i64 ((((s_0).length : Nat) : Int) + 1)))).toNat (List.drop 0 s_0))).length + (s_2).length) ≤ 9223372036854775807)) then (bif (decide ((0 ≤ (Int.tmod (i64 at_0) (i64 ((((s_0).length : Nat) : Int) + 1)))) ∧ ((Int.tmod (i64 at_0) (i64 ((((s_0).length : Nat) : Int) + 1))) ≤ (((s_0).length : Nat) : Int)))) then (bif (decide (((((List.take ((Int.tmod (i64 at_0) (i64 ((((s_0).length : Nat) : Int) + 1)))).toNat (List.drop 0 s_0)) ++ s_2)).length + ((List.take ((s_0).length - ((Int.tmod (i64 at_0) (i64 ((((s_0).length : Nat) : Int) + 1)))).toNat) (List.drop ((Int.tmod (i64 at_0) (i64 ((((s_0).length : Nat) : Int) + 1)))).toNat s_0))).length) ≤ 9223372036854775807)) then (Option.bind (F_lexeme_Fields [(.s (((List.take ((Int.tmod (i64 at_0) (i64 ((((s_0).length : Nat) : Int) + 1)))).toNat (List.drop 0 s_0)) ++ s_2) ++ (List.take ((s_0).length - ((Int.tmod (i64 at_0) (i64 ((((s_0).length : Nat) : Int) + 1)))).toNat) (List.drop ((Int.tmod (i64 at_0) (i64 ((((s_0).length : Nat) : Int) + 1)))).toNat s_0))))]) fun r_5 =>
       onN r_5 fun n_3 ds_16 =>
       onL ds_16 fun l_3 ds_17 =>
       onI ds_17 fun i_3 ds_18 =>
       Option.bind (bif (!decide (((n_3 : Nat) : Int) = 0)) then (some true) else
        (bif (!decide (i_3 = 5)) then (some true) else
         (some false))) fun b_3 =>
       bif b_3 then (some [(.b false)]) else
       (Option.bind (F_slices_Clonestring_string_ [(.n n_0), (.l l_0)]) fun r_6 =>
        onN r_6 fun n_4 ds_19 =>
        onL ds_19 fun l_4 ds_20 =>
        Option.bind (bytesOf [(Ax.AV.int .u8 (Ax.I.sym c_0))]) fun s_3 =>
        bif (decide ((1 + (s_3).length) ≤ 9223372036854775807)) then (none) else none)) else none) else none) else none) else none) else
      (Option.bind (F_slices_Clonestring_string_ [(.n n_0), (.l l_0)]) fun r_7 =>
       onN r_7 fun n_5 ds_21 =>
       onL ds_21 fun l_5 ds_22 =>
       Option.bind (bytesOf [(Ax.AV.int .u8 (Ax.I.sym c_0))]) fun s_4 =>
       bif (decide ((1 + (s_4).length) ≤ 9223372036854775807)) then (none) else none)))) else none) else none)) else none) else none)) else none) else none
noncomputable def F_law05_LexemeLong : List Dat → Option (List Dat) := fun ds_0 =>
  onI ds_0 fun more_0 ds_1 =>
  onI ds_1 fun lines_0 ds_2 =>
  Option.bind (Ax.strRepeat [(.s ([120] : List UInt8)), (.i (i64 (200 + (i64 more_0))))]) fun r_0 =>
  onS r_0 fun s_0 ds_3 =>
  bif (decide (300 < (i64 (200 + (i64 more_0))))) then (Option.bind (F_lexeme_Fields [(.s s_0)]) fun r_1 =>
   onN r_1 fun n_0 ds_4 =>
   onL ds_4 fun l_0 ds_5 =>
   onI ds_5 fun i_0 ds_6 =>
   bif (decide (1 ≤ ([(Ax.AV.str (Ax.S.sym s_0))]).length)) then (Option.bind (F_lexeme_Join [(.n 1), (.l [(Ax.AV.str (Ax.S.sym s_0))])]) fun r_2 =>
    onS r_2 fun s_1 ds_7 =>
    onI ds_7 fun i_1 ds_8 =>
    Option.bind (Ax.strRepeat [(.s ([97, 10] : List UInt8)), (.i (i64 (Int.tmod lines_0 20)))]) fun r_3 =>
    onS r_3 fun s_2 ds_9 =>
    bif (decide (((s_2).length + (s_0).length) ≤ 9223372036854775807)) then (bif (decide ((((s_2 ++ s_0)).length + 2) ≤ 9223372036854775807)) then (Option.bind (F_lexeme_Lines [(.s ((s_2 ++ s_0) ++ ([10, 98] : List UInt8)))]) fun r_4 =>
    onN r_4 fun n_1 ds_10 =>
    onL ds_10 fun l_1 ds_11 =>
    onI ds_11 fun i_2 ds_12 =>
    onI ds_12 fun i_3 ds_13 =>
    Option.bind (bif (!decide (i_0 = 6)) then (some true) else
     (bif (!decide (i_1 = 6)) then (some true) else
      (bif (!decide (i_3 = 6)) then (some true) else
       (bif (!decide (((n_0 : Nat) : Int) = 0)) then (some true) else
        (bif (!(s_1 == ([] : List UInt8))) then (some true) else
         (bif (!decide (((n_1 : Nat) : Int) = 0)) then (some true) else
          (bif (!decide (i_2 = (i64 ((i64 (Int.tmod lines_0 20)) + 1)))) then (some true) else
           (some false)))))))) fun b_0 =>
    bif b_0 then (some [(.b false)]) else
    (Option.bind (F_law05_works []) fun r_5 =>
     onB r_5 fun b_1 ds_14 =>
     some [(.b b_1)])) else none) else none) else
   (none)) else
  (Option.bind (F_lexeme_Fields [(.s s_0)]) fun r_6 =>
   onN r_6 fun n_2 ds_15 =>
   onL ds_15 fun l_2 ds_16 =>
   onI ds_16 fun i_4 ds_17 =>
   bif (decide (1 ≤ ([(Ax.AV.str (Ax.S.sym s_0))]).length)) then (Option.bind (F_lexeme_Join [(.n 1), (.l [(Ax.AV.str (Ax.S.sym s_0))])]) fun r_7 =>
    onS r_7 fun s_3 ds_18 =>
    onI ds_18 fun i_5 ds_19 =>
    Option.bind (Ax.strRepeat [(.s ([97, 10] : List UInt8)), (.i (i64 (Int.tmod lines_0 20)))]) fun r_8 =>
    onS r_8 fun s_4 ds_20 =>
    bif (decide (((s_4).length + (s_0).length) ≤ 9223372036854775807)) then (bif (decide ((((s_4 ++ s_0)).length + 2) ≤ 9223372036854775807)) then (Option.bind (F_lexeme_Lines [(.s ((s_4 ++ s_0) ++ ([10, 98] : List UInt8)))]) fun r_9 =>
    onN r_9 fun n_3 ds_21 =>
    onL ds_21 fun l_3 ds_22 =>
    onI ds_22 fun i_6 ds_23 =>
    onI ds_23 fun i_7 ds_24 =>
    Option.bind (bif (!decide (i_4 = 0)) then (some true) else
     (bif (!decide (i_5 = 0)) then (some true) else
      (bif (!decide (i_7 = 0)) then (some true) else
       (bif (!decide (((n_2 : Nat) : Int) = 1)) then (some true) else
        (bif (!(s_3 == s_0)) then (some true) else
         (bif (!decide (((n_3 : Nat) : Int) = (i64 ((i64 (Int.tmod lines_0 20)) + 2)))) then (some true) else
          (bif (!decide (i_6 = 0)) then (some true) else
           (some false)))))))) fun b_2 =>
    bif b_2 then (some [(.b false)]) else
    (Option.bind (F_law05_works []) fun r_10 =>
     onB r_10 fun b_3 ds_25 =>
     some [(.b b_3)])) else none) else none) else
   (none))
noncomputable def F_law05_LexemeHuge : List Dat → Option (List Dat) := fun ds_0 =>
  Option.bind (Ax.strRepeat [(.s ([32] : List UInt8)), (.i 255)]) fun r_0 =>
  onS r_0 fun s_0 ds_1 =>
  bif (decide (((s_0).length + 1) ≤ 9223372036854775807)) then (Option.bind (Ax.strRepeat [(.s (s_0 ++ ([10] : List UInt8))), (.i 32768)]) fun r_1 =>
  onS r_1 fun s_1 ds_2 =>
  Option.bind (F_lexeme_Lines [(.s s_1)]) fun r_2 =>
  onN r_2 fun n_0 ds_3 =>
  onL ds_3 fun l_0 ds_4 =>
  onI ds_4 fun i_0 ds_5 =>
  onI ds_5 fun i_1 ds_6 =>
  bif (decide (((s_1).length + 1) ≤ 9223372036854775807)) then (Option.bind (F_lexeme_Lines [(.s (s_1 ++ ([120] : List UInt8)))]) fun r_3 =>
  onN r_3 fun n_1 ds_7 =>
  onL ds_7 fun l_1 ds_8 =>
  onI ds_8 fun i_2 ds_9 =>
  onI ds_9 fun i_3 ds_10 =>
  bif (decide (((n_0 : Nat) : Int) = 32768)) then (bif (decide (i_0 = 0)) then (bif (decide (i_1 = 0)) then (bif (decide (((n_1 : Nat) : Int) = 0)) then (bif (decide (i_2 = 1)) then (bif (decide (i_3 = 6)) then (Option.bind (F_law05_works []) fun r_4 =>
        onB r_4 fun b_0 ds_11 =>
        some [(.b b_0)]) else
       (some [(.b false)])) else
      (some [(.b false)])) else
     (some [(.b false)])) else
    (some [(.b false)])) else
   (some [(.b false)])) else
  (some [(.b false)])) else none) else none
end Go.Proofs.YtgehedalhppehaaDoor
