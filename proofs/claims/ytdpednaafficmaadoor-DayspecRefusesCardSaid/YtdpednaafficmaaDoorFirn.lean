/-
  The functions of plain data that the laws of this group reach, as the program has them.
-/
import Derived.Test.YtdpednaafficmaaDoorAx33
import Derived.Test.YtdpednaafficmaaDoorAx36
import Derived.Test.YtdpednaafficmaaDoorAx37
import Derived.Test.YtdpednaafficmaaDoorAx39
import Derived.Test.YtdpednaafficmaaDoorAx40
import Derived.Test.YtdpednaafficmaaDoorHBuilder
import Derived.Test.YtdpednaafficmaaDoorHWordFind
namespace Go.Proofs.YtdpednaafficmaaDoor.Ir
open Go.Ax
open Go.Proofs.YtdpednaafficmaaDoor
set_option linter.all false
set_option maxRecDepth 100000
noncomputable def F_strings_IndexByte : List Dat → Option (List Dat) := fun ds_0 =>
  onS ds_0 fun s_0 ds_1 =>
  onI ds_1 fun c_0 ds_2 =>
  Option.bind (Ax.strIndexByte [(.s s_0), (.i c_0)]) fun r_0 =>
  onI r_0 fun i_0 ds_3 =>
  some [(.i i_0)]
noncomputable def F_unicode_utf8_ValidRune : List Dat → Option (List Dat) := fun ds_0 =>
  onI ds_0 fun r_0 ds_1 =>
  Option.bind (bif (decide (0 ≤ r_0)) then (bif (decide (r_0 < 55296)) then (some true) else
    (some false)) else
   (some false)) fun b_0 =>
  bif b_0 then (some [(.b true)]) else
  (Option.bind (bif (decide (57343 < r_0)) then (bif (decide (r_0 ≤ 1114111)) then (some true) else
     (some false)) else
    (some false)) fun b_1 =>
   bif b_1 then (some [(.b true)]) else
   (some [(.b false)]))
noncomputable def F_internal_bytealg_Cutover : List Dat → Option (List Dat) := fun ds_0 =>
  onI ds_0 fun n_0 ds_1 =>
  some [(.i (i64 (Int.tdiv (i64 (n_0 + 16)) 8)))]
noncomputable def F_strings_IndexRune_L1 : List Dat → Option (List Dat ⊕ (List Dat ⊕ List Dat)) := fun ds_11 =>
  onS ds_11 fun s_2 ds_12 =>
  onS ds_12 fun rs_1 ds_13 =>
  onI ds_13 fun last_1 ds_14 =>
  onI ds_14 fun i_3 ds_15 =>
  onI ds_15 fun j_0 ds_16 =>
  bif (decide (j_0 < (((rs_1).length : Nat) : Int))) then (bif (decide ((0 ≤ (i64 (i_3 - j_0))) ∧ ((i64 (i_3 - j_0)) < (((s_2).length : Nat) : Int)))) then (bif (decide ((0 ≤ (i64 (last_1 - j_0))) ∧ ((i64 (last_1 - j_0)) < (((rs_1).length : Nat) : Int)))) then (bif (!decide (((((List.getD s_2 ((i64 (i_3 - j_0))).toNat 0)).toNat : Nat) : Int) = ((((List.getD rs_1 ((i64 (last_1 - j_0))).toNat 0)).toNat : Nat) : Int))) then (none) else
   (some (.inl [(.s s_2), (.s rs_1), (.i last_1), (.i i_3), (.i (i64 (j_0 + 1)))]))) else none) else none) else
  (Option.map .inr (Option.map .inr (some [(.i (i64 (i_3 - last_1)))])))
noncomputable def F_strings_IndexRune_L2 : List Dat → Option (List Dat ⊕ (List Dat ⊕ List Dat)) := fun ds_17 =>
  onS ds_17 fun s_3 ds_18 =>
  onS ds_18 fun s_4 ds_19 =>
  onI ds_19 fun i_4 ds_20 =>
  onI ds_20 fun i_5 ds_21 =>
  onI ds_21 fun i_6 ds_22 =>
  bif (decide (i_6 < (((s_4).length : Nat) : Int))) then (bif (decide ((0 ≤ (i64 (i_5 - i_6))) ∧ ((i64 (i_5 - i_6)) < (((s_3).length : Nat) : Int)))) then (bif (decide ((0 ≤ (i64 (i_4 - i_6))) ∧ ((i64 (i_4 - i_6)) < (((s_4).length : Nat) : Int)))) then (bif (!decide (((((List.getD s_3 ((i64 (i_5 - i_6))).toNat 0)).toNat : Nat) : Int) = ((((List.getD s_4 ((i64 (i_4 - i_6))).toNat 0)).toNat : Nat) : Int))) then (none) else
   (some (.inl [(.s s_3), (.s s_4), (.i i_4), (.i i_5), (.i (i64 (i_6 + 1)))]))) else none) else none) else
  (Option.map .inr (Option.map .inr (some [(.i (i64 (i_5 - i_4)))])))
noncomputable def F_strings_IndexRune_L0 : List Dat → Option (List Dat ⊕ List Dat) := fun ds_5 =>
  onS ds_5 fun s_1 ds_6 =>
  onS ds_6 fun rs_0 ds_7 =>
  onI ds_7 fun last_0 ds_8 =>
  onI ds_8 fun i_1 ds_9 =>
  bif (decide (i_1 < (((s_1).length : Nat) : Int))) then (bif (decide ((0 ≤ i_1) ∧ (i_1 < (((s_1).length : Nat) : Int)))) then (bif (decide ((0 ≤ last_0) ∧ (last_0 < (((rs_0).length : Nat) : Int)))) then (bif (!decide (((((List.getD s_1 (i_1).toNat 0)).toNat : Nat) : Int) = ((((List.getD rs_0 (last_0).toNat 0)).toNat : Nat) : Int))) then (bif (decide ((0 ≤ (i64 (i_1 + 1))) ∧ ((i64 (i_1 + 1)) ≤ (((s_1).length : Nat) : Int)))) then (bif (decide ((0 ≤ last_0) ∧ (last_0 < (((rs_0).length : Nat) : Int)))) then (Option.bind (F_strings_IndexByte [(.s (List.take ((s_1).length - ((i64 (i_1 + 1))).toNat) (List.drop ((i64 (i_1 + 1))).toNat s_1))), (.i ((((List.getD rs_0 (last_0).toNat 0)).toNat : Nat) : Int))]) fun r_3 =>
    onI r_3 fun i_2 ds_10 =>
    bif (decide (i_2 < 0)) then (Option.map .inr (some [(.i (-1))])) else
    (iter F_strings_IndexRune_L1 [(.s s_1), (.s rs_0), (.i last_0), (.i (i64 (i_1 + (i64 (i_2 + 1))))), (.i 1)])) else none) else none) else
   (iter F_strings_IndexRune_L2 [(.s s_1), (.s rs_0), (.i last_0), (.i i_1), (.i 1)])) else none) else none) else
  (Option.map .inr (some [(.i (-1))]))
noncomputable def F_strings_IndexRune : List Dat → Option (List Dat) := fun ds_0 =>
  onS ds_0 fun s_0 ds_1 =>
  onI ds_1 fun r_0 ds_2 =>
  Option.bind (bif (decide (0 ≤ r_0)) then (bif (decide (r_0 < 128)) then (some true) else
    (some false)) else
   (some false)) fun b_0 =>
  bif b_0 then (Option.bind (F_strings_IndexByte [(.s s_0), (.i (u8 r_0))]) fun r_1 =>
   onI r_1 fun i_0 ds_3 =>
   some [(.i i_0)]) else
  (bif (decide (r_0 = 65533)) then (none) else
   (Option.bind (F_unicode_utf8_ValidRune [(.i r_0)]) fun r_2 =>
    onB r_2 fun b_1 ds_4 =>
    bif (!b_1) then (some [(.i (-1))]) else
    (iter F_strings_IndexRune_L0 [(.s s_0), (.s (Array.toList (ByteArray.data (Go.Utf8.encode r_0)))), (.i (i64 (((((Array.toList (ByteArray.data (Go.Utf8.encode r_0)))).length : Nat) : Int) - 1))), (.i (i64 (((((Array.toList (ByteArray.data (Go.Utf8.encode r_0)))).length : Nat) : Int) - 1)))])))
end Go.Proofs.YtdpednaafficmaaDoor.Ir
