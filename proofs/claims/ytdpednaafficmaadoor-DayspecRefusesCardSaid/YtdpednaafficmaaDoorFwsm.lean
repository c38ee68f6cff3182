/-
  The functions of plain data that the laws of this group reach, as the program has them.
-/
import Derived.Test.YtdpednaafficmaaDoorAx33
import Derived.Test.YtdpednaafficmaaDoorAx36
import Derived.Test.YtdpednaafficmaaDoorAx37
import Derived.Test.YtdpednaafficmaaDoorAx39
import Derived.Test.YtdpednaafficmaaDoorAx40
namespace Go.Proofs.YtdpednaafficmaaDoor.Sm
open Go.Ax
open Go.Proofs.YtdpednaafficmaaDoor
set_option linter.all false
set_option maxRecDepth 100000
noncomputable def F_internal_stringslite_HasPrefix : List Dat → Option (List Dat) := fun ds_0 =>
  onS ds_0 fun s_0 ds_1 =>
  onS ds_1 fun prefix_0 ds_2 =>
  Option.bind (bif (decide ((((prefix_0).length : Nat) : Int) ≤ (((s_0).length : Nat) : Int))) then (bif (decide ((0 ≤ (((prefix_0).length : Nat) : Int)) ∧ ((((prefix_0).length : Nat) : Int) ≤ (((s_0).length : Nat) : Int)))) then (bif ((List.take ((((prefix_0).length : Nat) : Int)).toNat (List.drop 0 s_0)) == prefix_0) then (some true) else
    (some false)) else none) else
   (some false)) fun b_0 =>
  some [(.b b_0)]
noncomputable def F_strings_HasPrefix : List Dat → Option (List Dat) := fun ds_0 =>
  onS ds_0 fun s_0 ds_1 =>
  onS ds_1 fun prefix_0 ds_2 =>
  Option.bind (F_internal_stringslite_HasPrefix [(.s s_0), (.s prefix_0)]) fun r_0 =>
  onB r_0 fun b_0 ds_3 =>
  some [(.b b_0)]
noncomputable def F_word_small_L0 : List Dat → Option (List Dat ⊕ List Dat) := fun ds_2 =>
  onN ds_2 fun bn_0 ds_3 =>
  onI ds_3 fun v_0 ds_4 =>
  onI ds_4 fun v_1 ds_5 =>
  onL ds_5 fun cells_0 ds_6 =>
  bif (decide (v_1 < v_0)) then (Option.bind (bif (decide ((0 ≤ v_1) ∧ (v_1 < ((bn_0 : Nat) : Int)))) then (Option.bind (asI .u8 (cells_0)[(v_1).toNat]?) fun x_0 =>
    bif (decide (65 ≤ x_0)) then (bif (decide ((0 ≤ v_1) ∧ (v_1 < ((bn_0 : Nat) : Int)))) then (Option.bind (asI .u8 (cells_0)[(v_1).toNat]?) fun x_1 =>
     bif (decide (x_1 ≤ 90)) then (some true) else
     (some false)) else none) else
    (some false)) else none) fun b_0 =>
   bif b_0 then (bif (decide ((0 ≤ v_1) ∧ (v_1 < ((bn_0 : Nat) : Int)))) then (Option.bind (asI .u8 (cells_0)[(v_1).toNat]?) fun x_2 =>
    bif (decide ((0 ≤ v_1) ∧ (v_1 < ((bn_0 : Nat) : Int)))) then (bif (decide (((v_1).toNat + 1) ≤ (cells_0).length)) then (bif (decide (([(Ax.AV.int .u8 (Ax.I.sym (u8 (x_2 + 32))))]).length = 1)) then (bif (List.all (Ax.write cells_0 (v_1).toNat [(Ax.AV.int .u8 (Ax.I.sym (u8 (x_2 + 32))))]) (Ax.closedN 20)) then (some (.inl [(.n bn_0), (.i v_0), (.i (i64 (v_1 + 1))), (.l (Ax.write cells_0 (v_1).toNat [(Ax.AV.int .u8 (Ax.I.sym (u8 (x_2 + 32))))]))])) else
    (none)) else none) else none) else none) else none) else
   (bif (List.all cells_0 (Ax.closedN 20)) then (some (.inl [(.n bn_0), (.i v_0), (.i (i64 (v_1 + 1))), (.l cells_0)])) else
    (none))) else
  (Option.map .inr (bif (decide ((0 + bn_0) ≤ (cells_0).length)) then (Option.bind (bytesOf (List.take bn_0 (List.drop 0 cells_0))) fun s_1 =>
    some [(.s s_1)]) else none))
noncomputable def F_word_small : List Dat → Option (List Dat) := fun ds_0 =>
  onS ds_0 fun s_0 ds_1 =>
  bif (List.all (Ax.byteCells s_0) (Ax.closedN 20)) then (iter F_word_small_L0 [(.n (s_0).length), (.i (((s_0).length : Nat) : Int)), (.i 0), (.l (Ax.byteCells s_0))]) else
  (none)
end Go.Proofs.YtdpednaafficmaaDoor.Sm
