/-
  The functions of plain data that the laws of this group reach, as the program has them.
-/
import Derived.Test.YtgmmcmfnniaekaaDoorAx33
import Derived.Test.YtgmmcmfnniaekaaDoorAx36
import Derived.Test.YtgmmcmfnniaekaaDoorAx37
import Derived.Test.YtgmmcmfnniaekaaDoorAx39
import Derived.Test.YtgmmcmfnniaekaaDoorAx40
import Derived.Test.YtgmmcmfnniaekaaDoorHBuilder
import Derived.Test.YtgmmcmfnniaekaaDoorHZone
namespace Go.Proofs.YtgmmcmfnniaekaaDoor
open Go.Ax
set_option linter.all false
set_option maxRecDepth 100000
noncomputable def F_name_Set_L0 : List Dat → Option (List Dat ⊕ List Dat) := fun ds_2 =>
  onS ds_2 fun s_1 ds_3 =>
  onI ds_3 fun v_0 ds_4 =>
  onI ds_4 fun v_1 ds_5 =>
  bif (decide (v_1 < v_0)) then (bif (decide ((0 ≤ v_1) ∧ (v_1 < (((s_1).length : Nat) : Int)))) then (bif (decide (128 ≤ ((((List.getD s_1 (v_1).toNat 0)).toNat : Nat) : Int))) then (Option.map .inr (some [(.b false)])) else
   (bif (decide ((0 ≤ v_1) ∧ (v_1 < (((s_1).length : Nat) : Int)))) then (bif (decide ((0 ≤ v_1) ∧ (v_1 < (((s_1).length : Nat) : Int)))) then (bif (decide ((0 ≤ ((((List.getD s_1 (v_1).toNat 0)).toNat : Nat) : Int)) ∧ (((((List.getD s_1 (v_1).toNat 0)).toNat : Nat) : Int) < 128))) then (Option.bind (asI .u8 ([(Ax.AV.int .u8 (Ax.I.lit 0)), (Ax.AV.int .u8 (Ax.I.lit 0)), (Ax.AV.int .u8 (Ax.I.lit 0)), (Ax.AV.int .u8 (Ax.I.lit 0)), (Ax.AV.int .u8 (Ax.I.lit 0)), (Ax.AV.int .u8 (Ax.I.lit 0)), (Ax.AV.int .u8 (Ax.I.lit 0)), (Ax.AV.int .u8 (Ax.I.lit 0)), (Ax.AV.int .u8 (Ax.I.lit 0)), (Ax.AV.int .u8 (Ax.I.lit 0)), (Ax.AV.int .u8 (Ax.I.lit 0)), (Ax.AV.int .u8 (Ax.I.lit 0)), (Ax.AV.int .u8 (Ax.I.lit 0)), (Ax.AV.int .u8 (Ax.I.lit 0)), (Ax.AV.int .u8 (Ax.I.lit 0)), (Ax.AV.int .u8 (Ax.I.lit 0)), (Ax.AV.int .u8 (Ax.I.lit 0)), (Ax.AV.int .u8 (Ax.I.lit 0)), (Ax.AV.int .u8 (Ax.I.lit 0)), (Ax.AV.int .u8 (Ax.I.lit 0)), (Ax.AV.int .u8 (Ax.I.lit 0)), (Ax.AV.int .u8 (Ax.I.lit 0)), (Ax.AV.int .u8 (Ax.I.lit 0)), (Ax.AV.int .u8 (Ax.I.lit 0)), (Ax.AV.int .u8 (Ax.I.lit 0)), (Ax.AV.int .u8 (Ax.I.lit 0)), (Ax.AV.int .u8 (Ax.I.lit 0)), (Ax.AV.int .u8 (Ax.I.lit 0)), (Ax.AV.int .u8 (Ax.I.lit 0)), (Ax.AV.int .u8 (Ax.I.lit 0)), (Ax.AV.int .u8 (Ax.I.lit 0)), (Ax.AV.int .u8 (Ax.I.lit 0)), (Ax.AV.int .u8 (Ax.I.lit 0)), (Ax.AV.int .u8 (Ax.I.lit 0)), (Ax.AV.int .u8 (Ax.I.lit 0)), (Ax.AV.int .u8 (Ax.I.lit 0)), (Ax.AV.int .u8 (Ax.I.lit 0)), (Ax.AV.int .u8 (Ax.I.lit 0)), (Ax.AV.int .u8 (Ax.I.lit 0)), (Ax.AV.int .u8 (Ax.I.lit 0)), (Ax.AV.int .u8 (Ax.I.lit 0)), (Ax.AV.int .u8 (Ax.I.lit 0)), (Ax.AV.int .u8 (Ax.I.lit 0)), (Ax.AV.int .u8 (Ax.I.lit 16)), (Ax.AV.int .u8 (Ax.I.lit 0)), (Ax.AV.int .u8 (Ax.I.lit 4)), (Ax.AV.int .u8 (Ax.I.lit 8)), (Ax.AV.int .u8 (Ax.I.lit 0)), (Ax.AV.int .u8 (Ax.I.lit 2)), (Ax.AV.int .u8 (Ax.I.lit 2)), (Ax.AV.int .u8 (Ax.I.lit 2)), (Ax.AV.int .u8 (Ax.I.lit 2)), (Ax.AV.int .u8 (Ax.I.lit 2)), (Ax.AV.int .u8 (Ax.I.lit 2)), (Ax.AV.int .u8 (Ax.I.lit 2)), (Ax.AV.int .u8 (Ax.I.lit 2)), (Ax.AV.int .u8 (Ax.I.lit 2)), (Ax.AV.int .u8 (Ax.I.lit 2)), (Ax.AV.int .u8 (Ax.I.lit 0)), (Ax.AV.int .u8 (Ax.I.lit 0)), (Ax.AV.int .u8 (Ax.I.lit 0)), (Ax.AV.int .u8 (Ax.I.lit 0)), (Ax.AV.int .u8 (Ax.I.lit 0)), (Ax.AV.int .u8 (Ax.I.lit 0)), (Ax.AV.int .u8 (Ax.I.lit 0)), (Ax.AV.int .u8 (Ax.I.lit 1)), (Ax.AV.int .u8 (Ax.I.lit 1)), (Ax.AV.int .u8 (Ax.I.lit 1)), (Ax.AV.int .u8 (Ax.I.lit 1)), (Ax.AV.int .u8 (Ax.I.lit 1)), (Ax.AV.int .u8 (Ax.I.lit 1)), (Ax.AV.int .u8 (Ax.I.lit 1)), (Ax.AV.int .u8 (Ax.I.lit 1)), (Ax.AV.int .u8 (Ax.I.lit 1)), (Ax.AV.int .u8 (Ax.I.lit 1)), (Ax.AV.int .u8 (Ax.I.lit 1)), (Ax.AV.int .u8 (Ax.I.lit 1)), (Ax.AV.int .u8 (Ax.I.lit 1)), (Ax.AV.int .u8 (Ax.I.lit 1)), (Ax.AV.int .u8 (Ax.I.lit 1)), (Ax.AV.int .u8 (Ax.I.lit 1)), (Ax.AV.int .u8 (Ax.I.lit 1)), (Ax.AV.int .u8 (Ax.I.lit 1)), (Ax.AV.int .u8 (Ax.I.lit 1)), (Ax.AV.int .u8 (Ax.I.lit 1)), (Ax.AV.int .u8 (Ax.I.lit 1)), (Ax.AV.int .u8 (Ax.I.lit 1)), (Ax.AV.int .u8 (Ax.I.lit 1)), (Ax.AV.int .u8 (Ax.I.lit 1)), (Ax.AV.int .u8 (Ax.I.lit 1)), (Ax.AV.int .u8 (Ax.I.lit 1)), (Ax.AV.int .u8 (Ax.I.lit 0)), (Ax.AV.int .u8 (Ax.I.lit 0)), (Ax.AV.int .u8 (Ax.I.lit 0)), (Ax.AV.int .u8 (Ax.I.lit 0)), (Ax.AV.int .u8 (Ax.I.lit 4)), (Ax.AV.int .u8 (Ax.I.lit 0)), (Ax.AV.int .u8 (Ax.I.lit 1)), (Ax.AV.int .u8 (Ax.I.lit 1)), (Ax.AV.int .u8 (Ax.I.lit 1)), (Ax.AV.int .u8 (Ax.I.lit 1)), (Ax.AV.int .u8 (Ax.I.lit 1)), (Ax.AV.int .u8 (Ax.I.lit 1)), (Ax.AV.int .u8 (Ax.I.lit 1)), (Ax.AV.int .u8 (Ax.I.lit 1)), (Ax.AV.int .u8 (Ax.I.lit 1)), (Ax.AV.int .u8 (Ax.I.lit 1)), (Ax.AV.int .u8 (Ax.I.lit 1)), (Ax.AV.int .u8 (Ax.I.lit 1)), (Ax.AV.int .u8 (Ax.I.lit 1)), (Ax.AV.int .u8 (Ax.I.lit 1)), (Ax.AV.int .u8 (Ax.I.lit 1)), (Ax.AV.int .u8 (Ax.I.lit 1)), (Ax.AV.int .u8 (Ax.I.lit 1)), (Ax.AV.int .u8 (Ax.I.lit 1)), (Ax.AV.int .u8 (Ax.I.lit 1)), (Ax.AV.int .u8 (Ax.I.lit 1)), (Ax.AV.int .u8 (Ax.I.lit 1)), (Ax.AV.int .u8 (Ax.I.lit 1)), (Ax.AV.int .u8 (Ax.I.lit 1)), (Ax.AV.int .u8 (Ax.I.lit 1)), (Ax.AV.int .u8 (Ax.I.lit 1)), (Ax.AV.int .u8 (Ax.I.lit 1)), (Ax.AV.int .u8 (Ax.I.lit 0)), (Ax.AV.int .u8 (Ax.I.lit 0)), (Ax.AV.int .u8 (Ax.I.lit 0)), (Ax.AV.int .u8 (Ax.I.lit 0)), (Ax.AV.int .u8 (Ax.I.lit 0))])[(((((List.getD s_1 (v_1).toNat 0)).toNat : Nat) : Int)).toNat]?) fun x_0 =>
    Option.bind (bif (decide (x_0 = 1)) then (some true) else
     (bif (decide (0 < v_1)) then (bif (!decide ((arith .and .u8 x_0 6) = 0)) then (some true) else
       (some false)) else
      (some false))) fun b_1 =>
    bif (!b_1) then (Option.map .inr (some [(.b false)])) else
    (some (.inl [(.s s_1), (.i v_0), (.i (i64 (v_1 + 1)))]))) else none) else none) else none)) else none) else
  (Option.map .inr (some [(.b true)]))
noncomputable def F_name_Set : List Dat → Option (List Dat) := fun ds_0 =>
  onS ds_0 fun s_0 ds_1 =>
  Option.bind (bif (decide ((((s_0).length : Nat) : Int) < 1)) then (some true) else
   (bif (decide (30 < (((s_0).length : Nat) : Int))) then (some true) else
    (some false))) fun b_0 =>
  bif b_0 then (some [(.b false)]) else
  (iter F_name_Set_L0 [(.s s_0), (.i (((s_0).length : Nat) : Int)), (.i 0)])
noncomputable def F_name_letters_L0 : List Dat → Option (List Dat ⊕ List Dat) := fun ds_4 =>
  onS ds_4 fun s_1 ds_5 =>
  onI ds_5 fun v_0 ds_6 =>
  onI ds_6 fun v_1 ds_7 =>
  bif (decide (v_1 < v_0)) then (bif (decide ((0 ≤ v_1) ∧ (v_1 < (((s_1).length : Nat) : Int)))) then (bif (decide (128 ≤ ((((List.getD s_1 (v_1).toNat 0)).toNat : Nat) : Int))) then (Option.map .inr (some [(.b false)])) else
   (bif (decide ((0 ≤ v_1) ∧ (v_1 < (((s_1).length : Nat) : Int)))) then (bif (decide ((0 ≤ v_1) ∧ (v_1 < (((s_1).length : Nat) : Int)))) then (bif (decide ((0 ≤ ((((List.getD s_1 (v_1).toNat 0)).toNat : Nat) : Int)) ∧ (((((List.getD s_1 (v_1).toNat 0)).toNat : Nat) : Int) < 128))) then (Option.bind (asI .u8 ([(Ax.AV.int .u8 (Ax.I.lit 0)), (Ax.AV.int .u8 (Ax.I.lit 0)), (Ax.AV.int .u8 (Ax.I.lit 0)), (Ax.AV.int .u8 (Ax.I.lit 0)), (Ax.AV.int .u8 (Ax.I.lit 0)), (Ax.AV.int .u8 (Ax.I.lit 0)), (Ax.AV.int .u8 (Ax.I.lit 0)), (Ax.AV.int .u8 (Ax.I.lit 0)), (Ax.AV.int .u8 (Ax.I.lit 0)), (Ax.AV.int .u8 (Ax.I.lit 0)), (Ax.AV.int .u8 (Ax.I.lit 0)), (Ax.AV.int .u8 (Ax.I.lit 0)), (Ax.AV.int .u8 (Ax.I.lit 0)), (Ax.AV.int .u8 (Ax.I.lit 0)), (Ax.AV.int .u8 (Ax.I.lit 0)), (Ax.AV.int .u8 (Ax.I.lit 0)), (Ax.AV.int .u8 (Ax.I.lit 0)), (Ax.AV.int .u8 (Ax.I.lit 0)), (Ax.AV.int .u8 (Ax.I.lit 0)), (Ax.AV.int .u8 (Ax.I.lit 0)), (Ax.AV.int .u8 (Ax.I.lit 0)), (Ax.AV.int .u8 (Ax.I.lit 0)), (Ax.AV.int .u8 (Ax.I.lit 0)), (Ax.AV.int .u8 (Ax.I.lit 0)), (Ax.AV.int .u8 (Ax.I.lit 0)), (Ax.AV.int .u8 (Ax.I.lit 0)), (Ax.AV.int .u8 (Ax.I.lit 0)), (Ax.AV.int .u8 (Ax.I.lit 0)), (Ax.AV.int .u8 (Ax.I.lit 0)), (Ax.AV.int .u8 (Ax.I.lit 0)), (Ax.AV.int .u8 (Ax.I.lit 0)), (Ax.AV.int .u8 (Ax.I.lit 0)), (Ax.AV.int .u8 (Ax.I.lit 0)), (Ax.AV.int .u8 (Ax.I.lit 0)), (Ax.AV.int .u8 (Ax.I.lit 0)), (Ax.AV.int .u8 (Ax.I.lit 0)), (Ax.AV.int .u8 (Ax.I.lit 0)), (Ax.AV.int .u8 (Ax.I.lit 0)), (Ax.AV.int .u8 (Ax.I.lit 0)), (Ax.AV.int .u8 (Ax.I.lit 0)), (Ax.AV.int .u8 (Ax.I.lit 0)), (Ax.AV.int .u8 (Ax.I.lit 0)), (Ax.AV.int .u8 (Ax.I.lit 0)), (Ax.AV.int .u8 (Ax.I.lit 16)), (Ax.AV.int .u8 (Ax.I.lit 0)), (Ax.AV.int .u8 (Ax.I.lit 4)), (Ax.AV.int .u8 (Ax.I.lit 8)), (Ax.AV.int .u8 (Ax.I.lit 0)), (Ax.AV.int .u8 (Ax.I.lit 2)), (Ax.AV.int .u8 (Ax.I.lit 2)), (Ax.AV.int .u8 (Ax.I.lit 2)), (Ax.AV.int .u8 (Ax.I.lit 2)), (Ax.AV.int .u8 (Ax.I.lit 2)), (Ax.AV.int .u8 (Ax.I.lit 2)), (Ax.AV.int .u8 (Ax.I.lit 2)), (Ax.AV.int .u8 (Ax.I.lit 2)), (Ax.AV.int .u8 (Ax.I.lit 2)), (Ax.AV.int .u8 (Ax.I.lit 2)), (Ax.AV.int .u8 (Ax.I.lit 0)), (Ax.AV.int .u8 (Ax.I.lit 0)), (Ax.AV.int .u8 (Ax.I.lit 0)), (Ax.AV.int .u8 (Ax.I.lit 0)), (Ax.AV.int .u8 (Ax.I.lit 0)), (Ax.AV.int .u8 (Ax.I.lit 0)), (Ax.AV.int .u8 (Ax.I.lit 0)), (Ax.AV.int .u8 (Ax.I.lit 1)), (Ax.AV.int .u8 (Ax.I.lit 1)), (Ax.AV.int .u8 (Ax.I.lit 1)), (Ax.AV.int .u8 (Ax.I.lit 1)), (Ax.AV.int .u8 (Ax.I.lit 1)), (Ax.AV.int .u8 (Ax.I.lit 1)), (Ax.AV.int .u8 (Ax.I.lit 1)), (Ax.AV.int .u8 (Ax.I.lit 1)), (Ax.AV.int .u8 (Ax.I.lit 1)), (Ax.AV.int .u8 (Ax.I.lit 1)), (Ax.AV.int .u8 (Ax.I.lit 1)), (Ax.AV.int .u8 (Ax.I.lit 1)), (Ax.AV.int .u8 (Ax.I.lit 1)), (Ax.AV.int .u8 (Ax.I.lit 1)), (Ax.AV.int .u8 (Ax.I.lit 1)), (Ax.AV.int .u8 (Ax.I.lit 1)), (Ax.AV.int .u8 (Ax.I.lit 1)), (Ax.AV.int .u8 (Ax.I.lit 1)), (Ax.AV.int .u8 (Ax.I.lit 1)), (Ax.AV.int .u8 (Ax.I.lit 1)), (Ax.AV.int .u8 (Ax.I.lit 1)), (Ax.AV.int .u8 (Ax.I.lit 1)), (Ax.AV.int .u8 (Ax.I.lit 1)), (Ax.AV.int .u8 (Ax.I.lit 1)), (Ax.AV.int .u8 (Ax.I.lit 1)), (Ax.AV.int .u8 (Ax.I.lit 1)), (Ax.AV.int .u8 (Ax.I.lit 0)), (Ax.AV.int .u8 (Ax.I.lit 0)), (Ax.AV.int .u8 (Ax.I.lit 0)), (Ax.AV.int .u8 (Ax.I.lit 0)), (Ax.AV.int .u8 (Ax.I.lit 4)), (Ax.AV.int .u8 (Ax.I.lit 0)), (Ax.AV.int .u8 (Ax.I.lit 1)), (Ax.AV.int .u8 (Ax.I.lit 1)), (Ax.AV.int .u8 (Ax.I.lit 1)), (Ax.AV.int .u8 (Ax.I.lit 1)), (Ax.AV.int .u8 (Ax.I.lit 1)), (Ax.AV.int .u8 (Ax.I.lit 1)), (Ax.AV.int .u8 (Ax.I.lit 1)), (Ax.AV.int .u8 (Ax.I.lit 1)), (Ax.AV.int .u8 (Ax.I.lit 1)), (Ax.AV.int .u8 (Ax.I.lit 1)), (Ax.AV.int .u8 (Ax.I.lit 1)), (Ax.AV.int .u8 (Ax.I.lit 1)), (Ax.AV.int .u8 (Ax.I.lit 1)), (Ax.AV.int .u8 (Ax.I.lit 1)), (Ax.AV.int .u8 (Ax.I.lit 1)), (Ax.AV.int .u8 (Ax.I.lit 1)), (Ax.AV.int .u8 (Ax.I.lit 1)), (Ax.AV.int .u8 (Ax.I.lit 1)), (Ax.AV.int .u8 (Ax.I.lit 1)), (Ax.AV.int .u8 (Ax.I.lit 1)), (Ax.AV.int .u8 (Ax.I.lit 1)), (Ax.AV.int .u8 (Ax.I.lit 1)), (Ax.AV.int .u8 (Ax.I.lit 1)), (Ax.AV.int .u8 (Ax.I.lit 1)), (Ax.AV.int .u8 (Ax.I.lit 1)), (Ax.AV.int .u8 (Ax.I.lit 1)), (Ax.AV.int .u8 (Ax.I.lit 0)), (Ax.AV.int .u8 (Ax.I.lit 0)), (Ax.AV.int .u8 (Ax.I.lit 0)), (Ax.AV.int .u8 (Ax.I.lit 0)), (Ax.AV.int .u8 (Ax.I.lit 0))])[(((((List.getD s_1 (v_1).toNat 0)).toNat : Nat) : Int)).toNat]?) fun x_0 =>
    Option.bind (bif (decide (x_0 = 1)) then (some true) else
     (some false)) fun b_1 =>
    bif (!b_1) then (Option.map .inr (some [(.b false)])) else
    (some (.inl [(.s s_1), (.i v_0), (.i (i64 (v_1 + 1)))]))) else none) else none) else none)) else none) else
  (Option.map .inr (some [(.b true)]))
noncomputable def F_name_letters : List Dat → Option (List Dat) := fun ds_0 =>
  onS ds_0 fun s_0 ds_1 =>
  onI ds_1 fun least_0 ds_2 =>
  onI ds_2 fun most_0 ds_3 =>
  Option.bind (bif (decide ((((s_0).length : Nat) : Int) < least_0)) then (some true) else
   (bif (decide (most_0 < (((s_0).length : Nat) : Int))) then (some true) else
    (some false))) fun b_0 =>
  bif b_0 then (some [(.b false)]) else
  (iter F_name_letters_L0 [(.s s_0), (.i (((s_0).length : Nat) : Int)), (.i 0)])
noncomputable def F_name_Letter : List Dat → Option (List Dat) := fun ds_0 =>
  onS ds_0 fun s_0 ds_1 =>
  Option.bind (F_name_letters [(.s s_0), (.i 1), (.i 4)]) fun r_0 =>
  onB r_0 fun b_0 ds_2 =>
  some [(.b b_0)]
noncomputable def F_name_Abbr : List Dat → Option (List Dat) := fun ds_0 =>
  onS ds_0 fun s_0 ds_1 =>
  Option.bind (F_name_letters [(.s s_0), (.i 3), (.i 6)]) fun r_0 =>
  onB r_0 fun b_0 ds_2 =>
  some [(.b b_0)]
noncomputable def F_law07_works : List Dat → Option (List Dat) := fun _ => some [.b true]
noncomputable def F_ref07_letter : List Dat → Option (List Dat) := fun ds_0 =>
  onI ds_0 fun c_0 ds_1 =>
  Option.bind (bif (decide (65 ≤ c_0)) then (bif (decide (c_0 ≤ 90)) then (some true) else
    (bif (decide (97 ≤ c_0)) then (bif (decide (c_0 ≤ 122)) then (some true) else
      (some false)) else
     (some false))) else
   (bif (decide (97 ≤ c_0)) then (bif (decide (c_0 ≤ 122)) then (some true) else
     (some false)) else
    (some false))) fun b_0 =>
  some [(.b b_0)]
noncomputable def F_ref07_digit : List Dat → Option (List Dat) := fun ds_0 =>
  onI ds_0 fun c_0 ds_1 =>
  Option.bind (bif (decide (48 ≤ c_0)) then (bif (decide (c_0 ≤ 57)) then (some true) else
    (some false)) else
   (some false)) fun b_0 =>
  some [(.b b_0)]
noncomputable def F_ref07_part_L0 : List Dat → Option (List Dat ⊕ List Dat) := fun ds_2 =>
  onS ds_2 fun s_1 ds_3 =>
  onI ds_3 fun i_0 ds_4 =>
  bif (decide (i_0 < (((s_1).length : Nat) : Int))) then (bif (decide ((0 ≤ i_0) ∧ (i_0 < (((s_1).length : Nat) : Int)))) then (Option.bind (F_ref07_letter [(.i ((((List.getD s_1 (i_0).toNat 0)).toNat : Nat) : Int))]) fun r_0 =>
   onB r_0 fun b_1 ds_5 =>
   bif (!b_1) then (bif (decide ((0 ≤ i_0) ∧ (i_0 < (((s_1).length : Nat) : Int)))) then (Option.bind (F_ref07_digit [(.i ((((List.getD s_1 (i_0).toNat 0)).toNat : Nat) : Int))]) fun r_1 =>
    onB r_1 fun b_2 ds_6 =>
    bif (!b_2) then (bif (decide ((0 ≤ i_0) ∧ (i_0 < (((s_1).length : Nat) : Int)))) then (bif (!decide (((((List.getD s_1 (i_0).toNat 0)).toNat : Nat) : Int) = 46)) then (bif (decide ((0 ≤ i_0) ∧ (i_0 < (((s_1).length : Nat) : Int)))) then (bif (!decide (((((List.getD s_1 (i_0).toNat 0)).toNat : Nat) : Int) = 95)) then (bif (decide ((0 ≤ i_0) ∧ (i_0 < (((s_1).length : Nat) : Int)))) then (bif (!decide (((((List.getD s_1 (i_0).toNat 0)).toNat : Nat) : Int) = 43)) then (bif (decide ((0 ≤ i_0) ∧ (i_0 < (((s_1).length : Nat) : Int)))) then (bif (!decide (((((List.getD s_1 (i_0).toNat 0)).toNat : Nat) : Int) = 45)) then (Option.map .inr (some [(.b false)])) else
        (some (.inl [(.s s_1), (.i (i64 (i_0 + 1)))]))) else none) else
       (some (.inl [(.s s_1), (.i (i64 (i_0 + 1)))]))) else none) else
      (some (.inl [(.s s_1), (.i (i64 (i_0 + 1)))]))) else none) else
     (some (.inl [(.s s_1), (.i (i64 (i_0 + 1)))]))) else none) else
    (some (.inl [(.s s_1), (.i (i64 (i_0 + 1)))]))) else none) else
   (some (.inl [(.s s_1), (.i (i64 (i_0 + 1)))]))) else none) else
  (Option.map .inr (some [(.b true)]))
noncomputable def F_ref07_part : List Dat → Option (List Dat) := fun ds_0 =>
  onS ds_0 fun s_0 ds_1 =>
  Option.bind (bif (decide ((((s_0).length : Nat) : Int) < 1)) then (some true) else
   (bif (decide (14 < (((s_0).length : Nat) : Int))) then (some true) else
    (bif (decide (((0 : Int) ≤ 0) ∧ (0 < (((s_0).length : Nat) : Int)))) then (bif (decide (((((List.getD s_0 0 0)).toNat : Nat) : Int) = 46)) then (some true) else
     (bif (decide (((0 : Int) ≤ 0) ∧ (0 < (((s_0).length : Nat) : Int)))) then (bif (decide (((((List.getD s_0 0 0)).toNat : Nat) : Int) = 45)) then (some true) else
      (some false)) else none)) else none))) fun b_0 =>
  bif b_0 then (some [(.b false)]) else
  (iter F_ref07_part_L0 [(.s s_0), (.i 0)])
noncomputable def F_ref07_Zone_L0 : List Dat → Option (List Dat ⊕ List Dat) := fun ds_2 =>
  onS ds_2 fun s_1 ds_3 =>
  onI ds_3 fun vfrom_0 ds_4 =>
  onI ds_4 fun i_0 ds_5 =>
  bif (decide (i_0 < (((s_1).length : Nat) : Int))) then (bif (decide ((0 ≤ i_0) ∧ (i_0 < (((s_1).length : Nat) : Int)))) then (bif (decide (((((List.getD s_1 (i_0).toNat 0)).toNat : Nat) : Int) = 47)) then (bif (decide ((0 ≤ i_0) ∧ (i_0 ≤ (((s_1).length : Nat) : Int)))) then (bif (decide ((0 ≤ vfrom_0) ∧ (vfrom_0 ≤ (((i_0).toNat : Nat) : Int)))) then (Option.bind (F_ref07_part [(.s (List.take ((i_0).toNat - (vfrom_0).toNat) (List.drop (vfrom_0).toNat s_1)))]) fun r_0 =>
    onB r_0 fun b_0 ds_6 =>
    bif (!b_0) then (Option.map .inr (some [(.b false)])) else
    (some (.inl [(.s s_1), (.i (i64 (i_0 + 1))), (.i (i64 (i_0 + 1)))]))) else none) else none) else
   (some (.inl [(.s s_1), (.i vfrom_0), (.i (i64 (i_0 + 1)))]))) else none) else
  (Option.map .inr (bif (decide ((0 ≤ vfrom_0) ∧ (vfrom_0 ≤ (((s_1).length : Nat) : Int)))) then (Option.bind (F_ref07_part [(.s (List.take ((s_1).length - (vfrom_0).toNat) (List.drop (vfrom_0).toNat s_1)))]) fun r_1 =>
    onB r_1 fun b_1 ds_7 =>
    bif b_1 then (bif (decide ((((s_1).length : Nat) : Int) ≤ 60)) then (some [(.b true)]) else
     (some [(.b false)])) else
    (some [(.b false)])) else none))
noncomputable def F_ref07_Zone : List Dat → Option (List Dat) := fun ds_0 =>
  onS ds_0 fun s_0 ds_1 =>
  iter F_ref07_Zone_L0 [(.s s_0), (.i 0), (.i 0)]
noncomputable def F_ref07_Set_L0 : List Dat → Option (List Dat ⊕ List Dat) := fun ds_3 =>
  onS ds_3 fun s_1 ds_4 =>
  onI ds_4 fun i_0 ds_5 =>
  bif (decide (i_0 < (((s_1).length : Nat) : Int))) then (bif (decide ((0 ≤ i_0) ∧ (i_0 < (((s_1).length : Nat) : Int)))) then (Option.bind (F_ref07_letter [(.i ((((List.getD s_1 (i_0).toNat 0)).toNat : Nat) : Int))]) fun r_1 =>
   onB r_1 fun b_1 ds_6 =>
   bif (!b_1) then (bif (decide ((0 ≤ i_0) ∧ (i_0 < (((s_1).length : Nat) : Int)))) then (Option.bind (F_ref07_digit [(.i ((((List.getD s_1 (i_0).toNat 0)).toNat : Nat) : Int))]) fun r_2 =>
    onB r_2 fun b_2 ds_7 =>
    bif (!b_2) then (bif (decide ((0 ≤ i_0) ∧ (i_0 < (((s_1).length : Nat) : Int)))) then (bif (!decide (((((List.getD s_1 (i_0).toNat 0)).toNat : Nat) : Int) = 95)) then (bif (decide ((0 ≤ i_0) ∧ (i_0 < (((s_1).length : Nat) : Int)))) then (bif (!decide (((((List.getD s_1 (i_0).toNat 0)).toNat : Nat) : Int) = 45)) then (Option.map .inr (some [(.b false)])) else
      (some (.inl [(.s s_1), (.i (i64 (i_0 + 1)))]))) else none) else
     (some (.inl [(.s s_1), (.i (i64 (i_0 + 1)))]))) else none) else
    (some (.inl [(.s s_1), (.i (i64 (i_0 + 1)))]))) else none) else
   (some (.inl [(.s s_1), (.i (i64 (i_0 + 1)))]))) else none) else
  (Option.map .inr (some [(.b true)]))
noncomputable def F_ref07_Set : List Dat → Option (List Dat) := fun ds_0 =>
  onS ds_0 fun s_0 ds_1 =>
  bif (decide ((((s_0).length : Nat) : Int) < 1)) then (some [(.b false)]) else
  (bif (decide (30 < (((s_0).length : Nat) : Int))) then (some [(.b false)]) else
   (bif (decide (((0 : Int) ≤ 0) ∧ (0 < (((s_0).length : Nat) : Int)))) then (Option.bind (F_ref07_letter [(.i ((((List.getD s_0 0 0)).toNat : Nat) : Int))]) fun r_0 =>
    onB r_0 fun b_0 ds_2 =>
    bif (!b_0) then (some [(.b false)]) else
    (iter F_ref07_Set_L0 [(.s s_0), (.i 0)])) else none))
noncomputable def F_ref07_letters_L0 : List Dat → Option (List Dat ⊕ List Dat) := fun ds_4 =>
  onS ds_4 fun s_1 ds_5 =>
  onI ds_5 fun least_1 ds_6 =>
  onI ds_6 fun most_1 ds_7 =>
  onI ds_7 fun i_0 ds_8 =>
  bif (decide (i_0 < (((s_1).length : Nat) : Int))) then (bif (decide ((0 ≤ i_0) ∧ (i_0 < (((s_1).length : Nat) : Int)))) then (Option.bind (F_ref07_letter [(.i ((((List.getD s_1 (i_0).toNat 0)).toNat : Nat) : Int))]) fun r_0 =>
   onB r_0 fun b_0 ds_9 =>
   bif (!b_0) then (Option.map .inr (some [(.b false)])) else
   (some (.inl [(.s s_1), (.i least_1), (.i most_1), (.i (i64 (i_0 + 1)))]))) else none) else
  (Option.map .inr (Option.bind (bif (decide (least_1 ≤ (((s_1).length : Nat) : Int))) then (bif (decide ((((s_1).length : Nat) : Int) ≤ most_1)) then (some true) else
      (some false)) else
     (some false)) fun b_1 =>
    some [(.b b_1)]))
noncomputable def F_ref07_letters : List Dat → Option (List Dat) := fun ds_0 =>
  onS ds_0 fun s_0 ds_1 =>
  onI ds_1 fun least_0 ds_2 =>
  onI ds_2 fun most_0 ds_3 =>
  iter F_ref07_letters_L0 [(.s s_0), (.i least_0), (.i most_0), (.i 0)]
noncomputable def F_ref07_Letter : List Dat → Option (List Dat) := fun ds_0 =>
  onS ds_0 fun s_0 ds_1 =>
  Option.bind (F_ref07_letters [(.s s_0), (.i 1), (.i 4)]) fun r_0 =>
  onB r_0 fun b_0 ds_2 =>
  some [(.b b_0)]
noncomputable def F_ref07_Abbr : List Dat → Option (List Dat) := fun ds_0 =>
  onS ds_0 fun s_0 ds_1 =>
  Option.bind (F_ref07_letters [(.s s_0), (.i 3), (.i 6)]) fun r_0 =>
  onB r_0 fun b_0 ds_2 =>
  some [(.b b_0)]
noncomputable def F_law07_NameStrings : List Dat → Option (List Dat) := fun ds_0 =>
  onS ds_0 fun s_0 ds_1 =>
  bif (decide (1000 < (((s_0).length : Nat) : Int))) then (Option.bind (F_law07_works []) fun r_0 =>
   onB r_0 fun b_0 ds_2 =>
   some [(.b b_0)]) else
  (Option.bind (nameZone [(.s s_0)]) fun r_1 =>
   onB r_1 fun b_1 ds_3 =>
   Option.bind (F_ref07_Zone [(.s s_0)]) fun r_2 =>
   onB r_2 fun b_2 ds_4 =>
   bif (b_1 == b_2) then (Option.bind (F_name_Set [(.s s_0)]) fun r_3 =>
    onB r_3 fun b_3 ds_5 =>
    Option.bind (F_ref07_Set [(.s s_0)]) fun r_4 =>
    onB r_4 fun b_4 ds_6 =>
    bif (b_3 == b_4) then (Option.bind (F_name_Letter [(.s s_0)]) fun r_5 =>
     onB r_5 fun b_5 ds_7 =>
     Option.bind (F_ref07_Letter [(.s s_0)]) fun r_6 =>
     onB r_6 fun b_6 ds_8 =>
     bif (b_5 == b_6) then (Option.bind (F_name_Abbr [(.s s_0)]) fun r_7 =>
      onB r_7 fun b_7 ds_9 =>
      Option.bind (F_ref07_Abbr [(.s s_0)]) fun r_8 =>
      onB r_8 fun b_8 ds_10 =>
      bif (b_7 == b_8) then (Option.bind (F_law07_works []) fun r_9 =>
       onB r_9 fun b_9 ds_11 =>
       some [(.b b_9)]) else
      (some [(.b false)])) else
     (some [(.b false)])) else
    (some [(.b false)])) else
   (some [(.b false)]))
noncomputable def F_law07_part_L0 : List Dat → Option (List Dat ⊕ List Dat) := fun ds_3 =>
  onS ds_3 fun out_0 ds_4 =>
  onN ds_4 fun vn_0 ds_5 =>
  onL ds_5 fun vl_0 ds_6 =>
  onI ds_6 fun v_0 ds_7 =>
  onI ds_7 fun v_1 ds_8 =>
  bif (decide (v_1 < v_0)) then (bif (decide ((0 ≤ v_1) ∧ (v_1 < ((vn_0 : Nat) : Int)))) then (Option.bind (asI .u8 (vl_0)[(v_1).toNat]?) fun x_0 =>
   bif (decide (v_1 = 0)) then (bif (decide ((0 ≤ (u8 ((Int.tmod x_0 24) + 1))) ∧ ((u8 ((Int.tmod x_0 24) + 1)) ≤ 26))) then (bif (decide ((0 ≤ (Int.tmod x_0 24)) ∧ ((Int.tmod x_0 24) ≤ ((((u8 ((Int.tmod x_0 24) + 1))).toNat : Nat) : Int)))) then (bif (decide (((out_0).length + ((List.take (((u8 ((Int.tmod x_0 24) + 1))).toNat - ((Int.tmod x_0 24)).toNat) (List.drop ((Int.tmod x_0 24)).toNat ([65, 66, 67, 88, 89, 90, 97, 98, 99, 120, 121, 122, 48, 49, 50, 51, 52, 53, 54, 55, 56, 57, 95, 43, 46, 45] : List UInt8)))).length) ≤ 9223372036854775807)) then (some (.inl [(.s (out_0 ++ (List.take (((u8 ((Int.tmod x_0 24) + 1))).toNat - ((Int.tmod x_0 24)).toNat) (List.drop ((Int.tmod x_0 24)).toNat ([65, 66, 67, 88, 89, 90, 97, 98, 99, 120, 121, 122, 48, 49, 50, 51, 52, 53, 54, 55, 56, 57, 95, 43, 46, 45] : List UInt8))))), (.n vn_0), (.l vl_0), (.i v_0), (.i (i64 (v_1 + 1)))])) else none) else none) else none) else
   (bif (decide ((0 ≤ (u8 ((Int.tmod x_0 26) + 1))) ∧ ((u8 ((Int.tmod x_0 26) + 1)) ≤ 26))) then (bif (decide ((0 ≤ (Int.tmod x_0 26)) ∧ ((Int.tmod x_0 26) ≤ ((((u8 ((Int.tmod x_0 26) + 1))).toNat : Nat) : Int)))) then (bif (decide (((out_0).length + ((List.take (((u8 ((Int.tmod x_0 26) + 1))).toNat - ((Int.tmod x_0 26)).toNat) (List.drop ((Int.tmod x_0 26)).toNat ([65, 66, 67, 88, 89, 90, 97, 98, 99, 120, 121, 122, 48, 49, 50, 51, 52, 53, 54, 55, 56, 57, 95, 43, 46, 45] : List UInt8)))).length) ≤ 9223372036854775807)) then (some (.inl [(.s (out_0 ++ (List.take (((u8 ((Int.tmod x_0 26) + 1))).toNat - ((Int.tmod x_0 26)).toNat) (List.drop ((Int.tmod x_0 26)).toNat ([65, 66, 67, 88, 89, 90, 97, 98, 99, 120, 121, 122, 48, 49, 50, 51, 52, 53, 54, 55, 56, 57, 95, 43, 46, 45] : List UInt8))))), (.n vn_0), (.l vl_0), (.i v_0), (.i (i64 (v_1 + 1)))])) else none) else none) else none)) else none) else
  (Option.map .inr (bif (out_0 == ([] : List UInt8)) then (some [(.s ([81] : List UInt8))]) else
    (some [(.s out_0)])))
noncomputable def F_law07_part : List Dat → Option (List Dat) := fun ds_0 =>
  onN ds_0 fun ln_0 ds_1 =>
  onL ds_1 fun ll_0 ds_2 =>
  bif (decide ((0 ≤ (if 14 < ((ln_0 : Nat) : Int) then 14 else ((ln_0 : Nat) : Int))) ∧ ((if 14 < ((ln_0 : Nat) : Int) then 14 else ((ln_0 : Nat) : Int)) ≤ ((ln_0 : Nat) : Int)))) then (bif (decide ((0 + ((if 14 < ((ln_0 : Nat) : Int) then 14 else ((ln_0 : Nat) : Int))).toNat) ≤ (ll_0).length)) then (iter F_law07_part_L0 [(.s ([] : List UInt8)), (.n ((if 14 < ((ln_0 : Nat) : Int) then 14 else ((ln_0 : Nat) : Int))).toNat), (.l (List.take ((if 14 < ((ln_0 : Nat) : Int) then 14 else ((ln_0 : Nat) : Int))).toNat (List.drop 0 ll_0))), (.i ((((if 14 < ((ln_0 : Nat) : Int) then 14 else ((ln_0 : Nat) : Int))).toNat : Nat) : Int)), (.i 0)]) else none) else none
noncomputable def F_law07_Zone_L0 : List Dat → Option (List Dat ⊕ List Dat) := fun ds_3 =>
  onS ds_3 fun out_0 ds_4 =>
  onN ds_4 fun vn_0 ds_5 =>
  onL ds_5 fun vl_0 ds_6 =>
  onI ds_6 fun v_0 ds_7 =>
  onI ds_7 fun v_1 ds_8 =>
  bif (decide (v_1 < v_0)) then (bif (decide ((0 ≤ v_1) ∧ (v_1 < ((vn_0 : Nat) : Int)))) then (Option.bind (asL (vl_0)[(v_1).toNat]?) fun p_0 =>
   bif (decide (0 < v_1)) then (bif (decide (((out_0).length + 1) ≤ 9223372036854775807)) then (Option.bind (F_law07_part [(.n (p_0).1), (.l (p_0).2)]) fun r_0 =>
    onS r_0 fun s_0 ds_9 =>
    bif (decide ((((out_0 ++ ([47] : List UInt8))).length + (s_0).length) ≤ 9223372036854775807)) then (some (.inl [(.s ((out_0 ++ ([47] : List UInt8)) ++ s_0)), (.n vn_0), (.l vl_0), (.i v_0), (.i (i64 (v_1 + 1)))])) else none) else none) else
   (Option.bind (F_law07_part [(.n (p_0).1), (.l (p_0).2)]) fun r_1 =>
    onS r_1 fun s_1 ds_10 =>
    bif (decide (((out_0).length + (s_1).length) ≤ 9223372036854775807)) then (some (.inl [(.s (out_0 ++ s_1)), (.n vn_0), (.l vl_0), (.i v_0), (.i (i64 (v_1 + 1)))])) else none)) else none) else
  (Option.map .inr (bif (out_0 == ([] : List UInt8)) then (some [(.s ([69, 116, 99, 47, 81] : List UInt8))]) else
    (some [(.s out_0)])))
noncomputable def F_law07_Zone : List Dat → Option (List Dat) := fun ds_0 =>
  onN ds_0 fun ln_0 ds_1 =>
  onL ds_1 fun ll_0 ds_2 =>
  bif (decide ((0 ≤ (if 4 < ((ln_0 : Nat) : Int) then 4 else ((ln_0 : Nat) : Int))) ∧ ((if 4 < ((ln_0 : Nat) : Int) then 4 else ((ln_0 : Nat) : Int)) ≤ ((ln_0 : Nat) : Int)))) then (bif (decide ((0 + ((if 4 < ((ln_0 : Nat) : Int) then 4 else ((ln_0 : Nat) : Int))).toNat) ≤ (ll_0).length)) then (iter F_law07_Zone_L0 [(.s ([] : List UInt8)), (.n ((if 4 < ((ln_0 : Nat) : Int) then 4 else ((ln_0 : Nat) : Int))).toNat), (.l (List.take ((if 4 < ((ln_0 : Nat) : Int) then 4 else ((ln_0 : Nat) : Int))).toNat (List.drop 0 ll_0))), (.i ((((if 4 < ((ln_0 : Nat) : Int) then 4 else ((ln_0 : Nat) : Int))).toNat : Nat) : Int)), (.i 0)]) else none) else none
noncomputable def F_unicode_utf8_decodeRuneInStringSlow : List Dat → Option (List Dat) := fun ds_0 =>
  onS ds_0 fun s_0 ds_1 =>
  bif (decide ((((s_0).length : Nat) : Int) < 1)) then (some [(.i 65533), (.i 0)]) else
  (bif (decide (((0 : Int) ≤ 0) ∧ (0 < (((s_0).length : Nat) : Int)))) then (bif (decide ((0 ≤ ((((List.getD s_0 0 0)).toNat : Nat) : Int)) ∧ (((((List.getD s_0 0 0)).toNat : Nat) : Int) < 256))) then (Option.bind (asI .u8 ([(Ax.AV.int .u8 (Ax.I.lit 240)), (Ax.AV.int .u8 (Ax.I.lit 240)), (Ax.AV.int .u8 (Ax.I.lit 240)), (Ax.AV.int .u8 (Ax.I.lit 240)), (Ax.AV.int .u8 (Ax.I.lit 240)), (Ax.AV.int .u8 (Ax.I.lit 240)), (Ax.AV.int .u8 (Ax.I.lit 240)), (Ax.AV.int .u8 (Ax.I.lit 240)), (Ax.AV.int .u8 (Ax.I.lit 240)), (Ax.AV.int .u8 (Ax.I.lit 240)), (Ax.AV.int .u8 (Ax.I.lit 240)), (Ax.AV.int .u8 (Ax.I.lit 240)), (Ax.AV.int .u8 (Ax.I.lit 240)), (Ax.AV.int .u8 (Ax.I.lit 240)), (Ax.AV.int .u8 (Ax.I.lit 240)), (Ax.AV.int .u8 (Ax.I.lit 240)), (Ax.AV.int .u8 (Ax.I.lit 240)), (Ax.AV.int .u8 (Ax.I.lit 240)), (Ax.AV.int .u8 (Ax.I.lit 240)), (Ax.AV.int .u8 (Ax.I.lit 240)), (Ax.AV.int .u8 (Ax.I.lit 240)), (Ax.AV.int .u8 (Ax.I.lit 240)), (Ax.AV.int .u8 (Ax.I.lit 240)), (Ax.AV.int .u8 (Ax.I.lit 240)), (Ax.AV.int .u8 (Ax.I.lit 240)), (Ax.AV.int .u8 (Ax.I.lit 240)), (Ax.AV.int .u8 (Ax.I.lit 240)), (Ax.AV.int .u8 (Ax.I.lit 240)), (Ax.AV.int .u8 (Ax.I.lit 240)), (Ax.AV.int .u8 (Ax.I.lit 240)), (Ax.AV.int .u8 (Ax.I.lit 240)), (Ax.AV.int .u8 (Ax.I.lit 240)), (Ax.AV.int .u8 (Ax.I.lit 240)), (Ax.AV.int .u8 (Ax.I.lit 240)), (Ax.AV.int .u8 (Ax.I.lit 240)), (Ax.AV.int .u8 (Ax.I.lit 240)), (Ax.AV.int .u8 (Ax.I.lit 240)), (Ax.AV.int .u8 (Ax.I.lit 240)), (Ax.AV.int .u8 (Ax.I.lit 240)), (Ax.AV.int .u8 (Ax.I.lit 240)), (Ax.AV.int .u8 (Ax.I.lit 240)), (Ax.AV.int .u8 (Ax.I.lit 240)), (Ax.AV.int .u8 (Ax.I.lit 240)), (Ax.AV.int .u8 (Ax.I.lit 240)), (Ax.AV.int .u8 (Ax.I.lit 240)), (Ax.AV.int .u8 (Ax.I.lit 240)), (Ax.AV.int .u8 (Ax.I.lit 240)), (Ax.AV.int .u8 (Ax.I.lit 240)), (Ax.AV.int .u8 (Ax.I.lit 240)), (Ax.AV.int .u8 (Ax.I.lit 240)), (Ax.AV.int .u8 (Ax.I.lit 240)), (Ax.AV.int .u8 (Ax.I.lit 240)), (Ax.AV.int .u8 (Ax.I.lit 240)), (Ax.AV.int .u8 (Ax.I.lit 240)), (Ax.AV.int .u8 (Ax.I.lit 240)), (Ax.AV.int .u8 (Ax.I.lit 240)), (Ax.AV.int .u8 (Ax.I.lit 240)), (Ax.AV.int .u8 (Ax.I.lit 240)), (Ax.AV.int .u8 (Ax.I.lit 240)), (Ax.AV.int .u8 (Ax.I.lit 240)), (Ax.AV.int .u8 (Ax.I.lit 240)), (Ax.AV.int .u8 (Ax.I.lit 240)), (Ax.AV.int .u8 (Ax.I.lit 240)), (Ax.AV.int .u8 (Ax.I.lit 240)), (Ax.AV.int .u8 (Ax.I.lit 240)), (Ax.AV.int .u8 (Ax.I.lit 240)), (Ax.AV.int .u8 (Ax.I.lit 240)), (Ax.AV.int .u8 (Ax.I.lit 240)), (Ax.AV.int .u8 (Ax.I.lit 240)), (Ax.AV.int .u8 (Ax.I.lit 240)), (Ax.AV.int .u8 (Ax.I.lit 240)), (Ax.AV.int .u8 (Ax.I.lit 240)), (Ax.AV.int .u8 (Ax.I.lit 240)), (Ax.AV.int .u8 (Ax.I.lit 240)), (Ax.AV.int .u8 (Ax.I.lit 240)), (Ax.AV.int .u8 (Ax.I.lit 240)), (Ax.AV.int .u8 (Ax.I.lit 240)), (Ax.AV.int .u8 (Ax.I.lit 240)), (Ax.AV.int .u8 (Ax.I.lit 240)), (Ax.AV.int .u8 (Ax.I.lit 240)), (Ax.AV.int .u8 (Ax.I.lit 240)), (Ax.AV.int .u8 (Ax.I.lit 240)), (Ax.AV.int .u8 (Ax.I.lit 240)), (Ax.AV.int .u8 (Ax.I.lit 240)), (Ax.AV.int .u8 (Ax.I.lit 240)), (Ax.AV.int .u8 (Ax.I.lit 240)), (Ax.AV.int .u8 (Ax.I.lit 240)), (Ax.AV.int .u8 (Ax.I.lit 240)), (Ax.AV.int .u8 (Ax.I.lit 240)), (Ax.AV.int .u8 (Ax.I.lit 240)), (Ax.AV.int .u8 (Ax.I.lit 240)), (Ax.AV.int .u8 (Ax.I.lit 240)), (Ax.AV.int .u8 (Ax.I.lit 240)), (Ax.AV.int .u8 (Ax.I.lit 240)), (Ax.AV.int .u8 (Ax.I.lit 240)), (Ax.AV.int .u8 (Ax.I.lit 240)), (Ax.AV.int .u8 (Ax.I.lit 240)), (Ax.AV.int .u8 (Ax.I.lit 240)), (Ax.AV.int .u8 (Ax.I.lit 240)), (Ax.AV.int .u8 (Ax.I.lit 240)), (Ax.AV.int .u8 (Ax.I.lit 240)), (Ax.AV.int .u8 (Ax.I.lit 240)), (Ax.AV.int .u8 (Ax.I.lit 240)), (Ax.AV.int .u8 (Ax.I.lit 240)), (Ax.AV.int .u8 (Ax.I.lit 240)), (Ax.AV.int .u8 (Ax.I.lit 240)), (Ax.AV.int .u8 (Ax.I.lit 240)), (Ax.AV.int .u8 (Ax.I.lit 240)), (Ax.AV.int .u8 (Ax.I.lit 240)), (Ax.AV.int .u8 (Ax.I.lit 240)), (Ax.AV.int .u8 (Ax.I.lit 240)), (Ax.AV.int .u8 (Ax.I.lit 240)), (Ax.AV.int .u8 (Ax.I.lit 240)), (Ax.AV.int .u8 (Ax.I.lit 240)), (Ax.AV.int .u8 (Ax.I.lit 240)), (Ax.AV.int .u8 (Ax.I.lit 240)), (Ax.AV.int .u8 (Ax.I.lit 240)), (Ax.AV.int .u8 (Ax.I.lit 240)), (Ax.AV.int .u8 (Ax.I.lit 240)), (Ax.AV.int .u8 (Ax.I.lit 240)), (Ax.AV.int .u8 (Ax.I.lit 240)), (Ax.AV.int .u8 (Ax.I.lit 240)), (Ax.AV.int .u8 (Ax.I.lit 240)), (Ax.AV.int .u8 (Ax.I.lit 240)), (Ax.AV.int .u8 (Ax.I.lit 240)), (Ax.AV.int .u8 (Ax.I.lit 240)), (Ax.AV.int .u8 (Ax.I.lit 240)), (Ax.AV.int .u8 (Ax.I.lit 240)), (Ax.AV.int .u8 (Ax.I.lit 241)), (Ax.AV.int .u8 (Ax.I.lit 241)), (Ax.AV.int .u8 (Ax.I.lit 241)), (Ax.AV.int .u8 (Ax.I.lit 241)), (Ax.AV.int .u8 (Ax.I.lit 241)), (Ax.AV.int .u8 (Ax.I.lit 241)), (Ax.AV.int .u8 (Ax.I.lit 241)), (Ax.AV.int .u8 (Ax.I.lit 241)), (Ax.AV.int .u8 (Ax.I.lit 241)), (Ax.AV.int .u8 (Ax.I.lit 241)), (Ax.AV.int .u8 (Ax.I.lit 241)), (Ax.AV.int .u8 (Ax.I.lit 241)), (Ax.AV.int .u8 (Ax.I.lit 241)), (Ax.AV.int .u8 (Ax.I.lit 241)), (Ax.AV.int .u8 (Ax.I.lit 241)), (Ax.AV.int .u8 (Ax.I.lit 241)), (Ax.AV.int .u8 (Ax.I.lit 241)), (Ax.AV.int .u8 (Ax.I.lit 241)), (Ax.AV.int .u8 (Ax.I.lit 241)), (Ax.AV.int .u8 (Ax.I.lit 241)), (Ax.AV.int .u8 (Ax.I.lit 241)), (Ax.AV.int .u8 (Ax.I.lit 241)), (Ax.AV.int .u8 (Ax.I.lit 241)), (Ax.AV.int .u8 (Ax.I.lit 241)), (Ax.AV.int .u8 (Ax.I.lit 241)), (Ax.AV.int .u8 (Ax.I.lit 241)), (Ax.AV.int .u8 (Ax.I.lit 241)), (Ax.AV.int .u8 (Ax.I.lit 241)), (Ax.AV.int .u8 (Ax.I.lit 241)), (Ax.AV.int .u8 (Ax.I.lit 241)), (Ax.AV.int .u8 (Ax.I.lit 241)), (Ax.AV.int .u8 (Ax.I.lit 241)), (Ax.AV.int .u8 (Ax.I.lit 241)), (Ax.AV.int .u8 (Ax.I.lit 241)), (Ax.AV.int .u8 (Ax.I.lit 241)), (Ax.AV.int .u8 (Ax.I.lit 241)), (Ax.AV.int .u8 (Ax.I.lit 241)), (Ax.AV.int .u8 (Ax.I.lit 241)), (Ax.AV.int .u8 (Ax.I.lit 241)), (Ax.AV.int .u8 (Ax.I.lit 241)), (Ax.AV.int .u8 (Ax.I.lit 241)), (Ax.AV.int .u8 (Ax.I.lit 241)), (Ax.AV.int .u8 (Ax.I.lit 241)), (Ax.AV.int .u8 (Ax.I.lit 241)), (Ax.AV.int .u8 (Ax.I.lit 241)), (Ax.AV.int .u8 (Ax.I.lit 241)), (Ax.AV.int .u8 (Ax.I.lit 241)), (Ax.AV.int .u8 (Ax.I.lit 241)), (Ax.AV.int .u8 (Ax.I.lit 241)), (Ax.AV.int .u8 (Ax.I.lit 241)), (Ax.AV.int .u8 (Ax.I.lit 241)), (Ax.AV.int .u8 (Ax.I.lit 241)), (Ax.AV.int .u8 (Ax.I.lit 241)), (Ax.AV.int .u8 (Ax.I.lit 241)), (Ax.AV.int .u8 (Ax.I.lit 241)), (Ax.AV.int .u8 (Ax.I.lit 241)), (Ax.AV.int .u8 (Ax.I.lit 241)), (Ax.AV.int .u8 (Ax.I.lit 241)), (Ax.AV.int .u8 (Ax.I.lit 241)), (Ax.AV.int .u8 (Ax.I.lit 241)), (Ax.AV.int .u8 (Ax.I.lit 241)), (Ax.AV.int .u8 (Ax.I.lit 241)), (Ax.AV.int .u8 (Ax.I.lit 241)), (Ax.AV.int .u8 (Ax.I.lit 241)), (Ax.AV.int .u8 (Ax.I.lit 241)), (Ax.AV.int .u8 (Ax.I.lit 241)), (Ax.AV.int .u8 (Ax.I.lit 2)), (Ax.AV.int .u8 (Ax.I.lit 2)), (Ax.AV.int .u8 (Ax.I.lit 2)), (Ax.AV.int .u8 (Ax.I.lit 2)), (Ax.AV.int .u8 (Ax.I.lit 2)), (Ax.AV.int .u8 (Ax.I.lit 2)), (Ax.AV.int .u8 (Ax.I.lit 2)), (Ax.AV.int .u8 (Ax.I.lit 2)), (Ax.AV.int .u8 (Ax.I.lit 2)), (Ax.AV.int .u8 (Ax.I.lit 2)), (Ax.AV.int .u8 (Ax.I.lit 2)), (Ax.AV.int .u8 (Ax.I.lit 2)), (Ax.AV.int .u8 (Ax.I.lit 2)), (Ax.AV.int .u8 (Ax.I.lit 2)), (Ax.AV.int .u8 (Ax.I.lit 2)), (Ax.AV.int .u8 (Ax.I.lit 2)), (Ax.AV.int .u8 (Ax.I.lit 2)), (Ax.AV.int .u8 (Ax.I.lit 2)), (Ax.AV.int .u8 (Ax.I.lit 2)), (Ax.AV.int .u8 (Ax.I.lit 2)), (Ax.AV.int .u8 (Ax.I.lit 2)), (Ax.AV.int .u8 (Ax.I.lit 2)), (Ax.AV.int .u8 (Ax.I.lit 2)), (Ax.AV.int .u8 (Ax.I.lit 2)), (Ax.AV.int .u8 (Ax.I.lit 2)), (Ax.AV.int .u8 (Ax.I.lit 2)), (Ax.AV.int .u8 (Ax.I.lit 2)), (Ax.AV.int .u8 (Ax.I.lit 2)), (Ax.AV.int .u8 (Ax.I.lit 2)), (Ax.AV.int .u8 (Ax.I.lit 2)), (Ax.AV.int .u8 (Ax.I.lit 19)), (Ax.AV.int .u8 (Ax.I.lit 3)), (Ax.AV.int .u8 (Ax.I.lit 3)), (Ax.AV.int .u8 (Ax.I.lit 3)), (Ax.AV.int .u8 (Ax.I.lit 3)), (Ax.AV.int .u8 (Ax.I.lit 3)), (Ax.AV.int .u8 (Ax.I.lit 3)), (Ax.AV.int .u8 (Ax.I.lit 3)), (Ax.AV.int .u8 (Ax.I.lit 3)), (Ax.AV.int .u8 (Ax.I.lit 3)), (Ax.AV.int .u8 (Ax.I.lit 3)), (Ax.AV.int .u8 (Ax.I.lit 3)), (Ax.AV.int .u8 (Ax.I.lit 3)), (Ax.AV.int .u8 (Ax.I.lit 35)), (Ax.AV.int .u8 (Ax.I.lit 3)), (Ax.AV.int .u8 (Ax.I.lit 3)), (Ax.AV.int .u8 (Ax.I.lit 52)), (Ax.AV.int .u8 (Ax.I.lit 4)), (Ax.AV.int .u8 (Ax.I.lit 4)), (Ax.AV.int .u8 (Ax.I.lit 4)), (Ax.AV.int .u8 (Ax.I.lit 68)), (Ax.AV.int .u8 (Ax.I.lit 241)), (Ax.AV.int .u8 (Ax.I.lit 241)), (Ax.AV.int .u8 (Ax.I.lit 241)), (Ax.AV.int .u8 (Ax.I.lit 241)), (Ax.AV.int .u8 (Ax.I.lit 241)), (Ax.AV.int .u8 (Ax.I.lit 241)), (Ax.AV.int .u8 (Ax.I.lit 241)), (Ax.AV.int .u8 (Ax.I.lit 241)), (Ax.AV.int .u8 (Ax.I.lit 241)), (Ax.AV.int .u8 (Ax.I.lit 241)), (Ax.AV.int .u8 (Ax.I.lit 241))])[(((((List.getD s_0 0 0)).toNat : Nat) : Int)).toNat]?) fun x_0 =>
   bif (decide (240 ≤ x_0)) then (bif (decide (((0 : Int) ≤ 0) ∧ (0 < (((s_0).length : Nat) : Int)))) then (some [(.i (arith .or .i32 (arith .andNot .i32 (i32 ((((List.getD s_0 0 0)).toNat : Nat) : Int)) (arith .shr .i32 (arith .shl .i32 (i32 x_0) 31) 31)) (arith .and .i32 65533 (arith .shr .i32 (arith .shl .i32 (i32 x_0) 31) 31)))), (.i 1)]) else none) else
   (bif (decide ((0 ≤ (arith .shr .u8 x_0 4)) ∧ ((arith .shr .u8 x_0 4) < 16))) then (Option.bind (asI .u8 ((List.drop (((arith .shr .u8 x_0 4)).toNat * 2) [(Ax.AV.int .u8 (Ax.I.lit 128)), (Ax.AV.int .u8 (Ax.I.lit 191)), (Ax.AV.int .u8 (Ax.I.lit 160)), (Ax.AV.int .u8 (Ax.I.lit 191)), (Ax.AV.int .u8 (Ax.I.lit 128)), (Ax.AV.int .u8 (Ax.I.lit 159)), (Ax.AV.int .u8 (Ax.I.lit 144)), (Ax.AV.int .u8 (Ax.I.lit 191)), (Ax.AV.int .u8 (Ax.I.lit 128)), (Ax.AV.int .u8 (Ax.I.lit 143)), (Ax.AV.int .u8 (Ax.I.lit 0)), (Ax.AV.int .u8 (Ax.I.lit 0)), (Ax.AV.int .u8 (Ax.I.lit 0)), (Ax.AV.int .u8 (Ax.I.lit 0)), (Ax.AV.int .u8 (Ax.I.lit 0)), (Ax.AV.int .u8 (Ax.I.lit 0)), (Ax.AV.int .u8 (Ax.I.lit 0)), (Ax.AV.int .u8 (Ax.I.lit 0)), (Ax.AV.int .u8 (Ax.I.lit 0)), (Ax.AV.int .u8 (Ax.I.lit 0)), (Ax.AV.int .u8 (Ax.I.lit 0)), (Ax.AV.int .u8 (Ax.I.lit 0)), (Ax.AV.int .u8 (Ax.I.lit 0)), (Ax.AV.int .u8 (Ax.I.lit 0)), (Ax.AV.int .u8 (Ax.I.lit 0)), (Ax.AV.int .u8 (Ax.I.lit 0)), (Ax.AV.int .u8 (Ax.I.lit 0)), (Ax.AV.int .u8 (Ax.I.lit 0)), (Ax.AV.int .u8 (Ax.I.lit 0)), (Ax.AV.int .u8 (Ax.I.lit 0)), (Ax.AV.int .u8 (Ax.I.lit 0)), (Ax.AV.int .u8 (Ax.I.lit 0))]))[0]?) fun x_1 =>
    Option.bind (asI .u8 ((List.drop 1 (List.drop (((arith .shr .u8 x_0 4)).toNat * 2) [(Ax.AV.int .u8 (Ax.I.lit 128)), (Ax.AV.int .u8 (Ax.I.lit 191)), (Ax.AV.int .u8 (Ax.I.lit 160)), (Ax.AV.int .u8 (Ax.I.lit 191)), (Ax.AV.int .u8 (Ax.I.lit 128)), (Ax.AV.int .u8 (Ax.I.lit 159)), (Ax.AV.int .u8 (Ax.I.lit 144)), (Ax.AV.int .u8 (Ax.I.lit 191)), (Ax.AV.int .u8 (Ax.I.lit 128)), (Ax.AV.int .u8 (Ax.I.lit 143)), (Ax.AV.int .u8 (Ax.I.lit 0)), (Ax.AV.int .u8 (Ax.I.lit 0)), (Ax.AV.int .u8 (Ax.I.lit 0)), (Ax.AV.int .u8 (Ax.I.lit 0)), (Ax.AV.int .u8 (Ax.I.lit 0)), (Ax.AV.int .u8 (Ax.I.lit 0)), (Ax.AV.int .u8 (Ax.I.lit 0)), (Ax.AV.int .u8 (Ax.I.lit 0)), (Ax.AV.int .u8 (Ax.I.lit 0)), (Ax.AV.int .u8 (Ax.I.lit 0)), (Ax.AV.int .u8 (Ax.I.lit 0)), (Ax.AV.int .u8 (Ax.I.lit 0)), (Ax.AV.int .u8 (Ax.I.lit 0)), (Ax.AV.int .u8 (Ax.I.lit 0)), (Ax.AV.int .u8 (Ax.I.lit 0)), (Ax.AV.int .u8 (Ax.I.lit 0)), (Ax.AV.int .u8 (Ax.I.lit 0)), (Ax.AV.int .u8 (Ax.I.lit 0)), (Ax.AV.int .u8 (Ax.I.lit 0)), (Ax.AV.int .u8 (Ax.I.lit 0)), (Ax.AV.int .u8 (Ax.I.lit 0)), (Ax.AV.int .u8 (Ax.I.lit 0))])))[0]?) fun x_2 =>
    bif (decide ((((s_0).length : Nat) : Int) < (i64 (arith .and .u8 x_0 7)))) then (some [(.i 65533), (.i 1)]) else
    (bif (decide (((0 : Int) ≤ 1) ∧ (1 < (((s_0).length : Nat) : Int)))) then (Option.bind (bif (decide (((((List.getD s_0 1 0)).toNat : Nat) : Int) < x_1)) then (some true) else
      (bif (decide (x_2 < ((((List.getD s_0 1 0)).toNat : Nat) : Int))) then (some true) else
       (some false))) fun b_0 =>
     bif b_0 then (some [(.i 65533), (.i 1)]) else
     (bif (decide ((i64 (arith .and .u8 x_0 7)) ≤ 2)) then (some [(.i (arith .or .i32 (arith .shl .i32 (i32 (arith .and .u8 ((((List.getD s_0 0 0)).toNat : Nat) : Int) 31)) 6) (i32 (arith .and .u8 ((((List.getD s_0 1 0)).toNat : Nat) : Int) 63)))), (.i 2)]) else
      (bif (decide (((0 : Int) ≤ 2) ∧ (2 < (((s_0).length : Nat) : Int)))) then (Option.bind (bif (decide (((((List.getD s_0 2 0)).toNat : Nat) : Int) < 128)) then (some true) else
        (bif (decide (191 < ((((List.getD s_0 2 0)).toNat : Nat) : Int))) then (some true) else
         (some false))) fun b_1 =>
       bif b_1 then (some [(.i 65533), (.i 1)]) else
       (bif (decide ((i64 (arith .and .u8 x_0 7)) ≤ 3)) then (some [(.i (arith .or .i32 (arith .or .i32 (arith .shl .i32 (i32 (arith .and .u8 ((((List.getD s_0 0 0)).toNat : Nat) : Int) 15)) 12) (arith .shl .i32 (i32 (arith .and .u8 ((((List.getD s_0 1 0)).toNat : Nat) : Int) 63)) 6)) (i32 (arith .and .u8 ((((List.getD s_0 2 0)).toNat : Nat) : Int) 63)))), (.i 3)]) else
        (bif (decide (((0 : Int) ≤ 3) ∧ (3 < (((s_0).length : Nat) : Int)))) then (Option.bind (bif (decide (((((List.getD s_0 3 0)).toNat : Nat) : Int) < 128)) then (some true) else
          (bif (decide (191 < ((((List.getD s_0 3 0)).toNat : Nat) : Int))) then (some true) else
           (some false))) fun b_2 =>
         bif b_2 then (some [(.i 65533), (.i 1)]) else
         (some [(.i (arith .or .i32 (arith .or .i32 (arith .or .i32 (arith .shl .i32 (i32 (arith .and .u8 ((((List.getD s_0 0 0)).toNat : Nat) : Int) 7)) 18) (arith .shl .i32 (i32 (arith .and .u8 ((((List.getD s_0 1 0)).toNat : Nat) : Int) 63)) 12)) (arith .shl .i32 (i32 (arith .and .u8 ((((List.getD s_0 2 0)).toNat : Nat) : Int) 63)) 6)) (i32 (arith .and .u8 ((((List.getD s_0 3 0)).toNat : Nat) : Int) 63)))), (.i 4)])) else none))) else none))) else none)) else none)) else none) else none)
noncomputable def F_unicode_utf8_DecodeRuneInString : List Dat → Option (List Dat) := fun ds_0 =>
  onS ds_0 fun s_0 ds_1 =>
  Option.bind (bif (!(s_0 == ([] : List UInt8))) then (bif (decide (((0 : Int) ≤ 0) ∧ (0 < (((s_0).length : Nat) : Int)))) then (bif (decide (((((List.getD s_0 0 0)).toNat : Nat) : Int) < 128)) then (some true) else
    (some false)) else none) else
   (some false)) fun b_0 =>
  bif b_0 then (bif (decide (((0 : Int) ≤ 0) ∧ (0 < (((s_0).length : Nat) : Int)))) then (some [(.i (i32 ((((List.getD s_0 0 0)).toNat : Nat) : Int))), (.i 1)]) else none) else
  (Option.bind (F_unicode_utf8_decodeRuneInStringSlow [(.s s_0)]) fun r_0 =>
   onI r_0 fun i_0 ds_2 =>
   onI ds_2 fun i_1 ds_3 =>
   some [(.i i_0), (.i i_1)])
noncomputable def F_strings_genSplit_L0 : List Dat → Option (List Dat ⊕ List Dat) := fun ds_6 =>
  onS ds_6 fun s_1 ds_7 =>
  onS ds_7 fun sep_1 ds_8 =>
  onI ds_8 fun sepSave_1 ds_9 =>
  onI ds_9 fun n_1 ds_10 =>
  onN ds_10 fun an_0 ds_11 =>
  onN ds_11 fun ac_0 ds_12 =>
  onI ds_12 fun i_1 ds_13 =>
  onL ds_13 fun cells_0 ds_14 =>
  bif (decide (i_1 < n_1)) then (Option.bind (Ax.strIndex [(.s s_1), (.s sep_1)]) fun r_1 =>
   onI r_1 fun i_2 ds_15 =>
   bif (decide (i_2 < 0)) then (Option.map .inr (bif (decide ((0 ≤ i_1) ∧ (i_1 < ((an_0 : Nat) : Int)))) then (bif (decide (((i_1).toNat + 1) ≤ (cells_0).length)) then (bif (decide (([(Ax.AV.str (Ax.S.sym s_1))]).length = 1)) then (bif (decide (an_0 ≤ ac_0)) then (bif (decide ((0 ≤ (i64 (i_1 + 1))) ∧ ((i64 (i_1 + 1)) ≤ ((ac_0 : Nat) : Int)))) then (bif (decide (0 < ac_0)) then (bif (decide ((0 + (((i64 (i_1 + 1))).toNat * 1)) ≤ ((Ax.write cells_0 (i_1).toNat [(Ax.AV.str (Ax.S.sym s_1))])).length)) then (bif (List.all (List.take (((i64 (i_1 + 1))).toNat * 1) (List.drop 0 (Ax.write cells_0 (i_1).toNat [(Ax.AV.str (Ax.S.sym s_1))]))) (Ax.closedN 20)) then (some [(.n ((i64 (i_1 + 1))).toNat), (.l (List.take (((i64 (i_1 + 1))).toNat * 1) (List.drop 0 (Ax.write cells_0 (i_1).toNat [(Ax.AV.str (Ax.S.sym s_1))]))))]) else
       (none)) else
      (none)) else
     (some [(.n 0), (.l [])])) else none) else none) else none) else none) else none)) else
   (bif (decide ((0 ≤ (i64 (i_2 + sepSave_1))) ∧ ((i64 (i_2 + sepSave_1)) ≤ (((s_1).length : Nat) : Int)))) then (bif (decide ((0 ≤ i_1) ∧ (i_1 < ((an_0 : Nat) : Int)))) then (bif (decide (((i_1).toNat + 1) ≤ (cells_0).length)) then (bif (decide (([(Ax.AV.str (Ax.S.sym (List.take ((i64 (i_2 + sepSave_1))).toNat (List.drop 0 s_1))))]).length = 1)) then (bif (decide ((0 ≤ (i64 (i_2 + (((sep_1).length : Nat) : Int)))) ∧ ((i64 (i_2 + (((sep_1).length : Nat) : Int))) ≤ (((s_1).length : Nat) : Int)))) then (bif (List.all (Ax.write cells_0 (i_1).toNat [(Ax.AV.str (Ax.S.sym (List.take ((i64 (i_2 + sepSave_1))).toNat (List.drop 0 s_1))))]) (Ax.closedN 20)) then (some (.inl [(.s (List.take ((s_1).length - ((i64 (i_2 + (((sep_1).length : Nat) : Int)))).toNat) (List.drop ((i64 (i_2 + (((sep_1).length : Nat) : Int)))).toNat s_1))), (.s sep_1), (.i sepSave_1), (.i n_1), (.n an_0), (.n ac_0), (.i (i64 (i_1 + 1))), (.l (Ax.write cells_0 (i_1).toNat [(Ax.AV.str (Ax.S.sym (List.take ((i64 (i_2 + sepSave_1))).toNat (List.drop 0 s_1))))]))])) else
    (none)) else none) else none) else none) else none) else none)) else
  (Option.map .inr (bif (decide ((0 ≤ i_1) ∧ (i_1 < ((an_0 : Nat) : Int)))) then (bif (decide (((i_1).toNat + 1) ≤ (cells_0).length)) then (bif (decide (([(Ax.AV.str (Ax.S.sym s_1))]).length = 1)) then (bif (decide (an_0 ≤ ac_0)) then (bif (decide ((0 ≤ (i64 (i_1 + 1))) ∧ ((i64 (i_1 + 1)) ≤ ((ac_0 : Nat) : Int)))) then (bif (decide (0 < ac_0)) then (bif (decide ((0 + (((i64 (i_1 + 1))).toNat * 1)) ≤ ((Ax.write cells_0 (i_1).toNat [(Ax.AV.str (Ax.S.sym s_1))])).length)) then (bif (List.all (List.take (((i64 (i_1 + 1))).toNat * 1) (List.drop 0 (Ax.write cells_0 (i_1).toNat [(Ax.AV.str (Ax.S.sym s_1))]))) (Ax.closedN 20)) then (some [(.n ((i64 (i_1 + 1))).toNat), (.l (List.take (((i64 (i_1 + 1))).toNat * 1) (List.drop 0 (Ax.write cells_0 (i_1).toNat [(Ax.AV.str (Ax.S.sym s_1))]))))]) else
      (none)) else
     (none)) else
    (some [(.n 0), (.l [])])) else none) else none) else none) else none) else none))
noncomputable def F_strings_genSplit_L1 : List Dat → Option (List Dat ⊕ List Dat) := fun ds_16 =>
  onS ds_16 fun s_2 ds_17 =>
  onS ds_17 fun s_3 ds_18 =>
  onI ds_18 fun i_3 ds_19 =>
  onI ds_19 fun i_4 ds_20 =>
  onN ds_20 fun n_2 ds_21 =>
  onN ds_21 fun n_3 ds_22 =>
  onI ds_22 fun i_5 ds_23 =>
  onL ds_23 fun l_0 ds_24 =>
  bif (decide (i_5 < i_4)) then (Option.bind (Ax.strIndex [(.s s_2), (.s s_3)]) fun r_2 =>
   onI r_2 fun i_6 ds_25 =>
   bif (decide (i_6 < 0)) then (Option.map .inr (bif (decide ((0 ≤ i_5) ∧ (i_5 < ((n_2 : Nat) : Int)))) then (bif (decide (((i_5).toNat + 1) ≤ (l_0).length)) then (bif (decide (([(Ax.AV.str (Ax.S.sym s_2))]).length = 1)) then (bif (decide (n_2 ≤ n_3)) then (bif (decide ((0 ≤ (i64 (i_5 + 1))) ∧ ((i64 (i_5 + 1)) ≤ ((n_3 : Nat) : Int)))) then (bif (decide (0 < n_3)) then (bif (decide ((0 + (((i64 (i_5 + 1))).toNat * 1)) ≤ ((Ax.write l_0 (i_5).toNat [(Ax.AV.str (Ax.S.sym s_2))])).length)) then (bif (List.all (List.take (((i64 (i_5 + 1))).toNat * 1) (List.drop 0 (Ax.write l_0 (i_5).toNat [(Ax.AV.str (Ax.S.sym s_2))]))) (Ax.closedN 20)) then (some [(.n ((i64 (i_5 + 1))).toNat), (.l (List.take (((i64 (i_5 + 1))).toNat * 1) (List.drop 0 (Ax.write l_0 (i_5).toNat [(Ax.AV.str (Ax.S.sym s_2))]))))]) else
       (none)) else
      (none)) else
     (some [(.n 0), (.l [])])) else none) else none) else none) else none) else none)) else
   (bif (decide ((0 ≤ (i64 (i_6 + i_3))) ∧ ((i64 (i_6 + i_3)) ≤ (((s_2).length : Nat) : Int)))) then (bif (decide ((0 ≤ i_5) ∧ (i_5 < ((n_2 : Nat) : Int)))) then (bif (decide (((i_5).toNat + 1) ≤ (l_0).length)) then (bif (decide (([(Ax.AV.str (Ax.S.sym (List.take ((i64 (i_6 + i_3))).toNat (List.drop 0 s_2))))]).length = 1)) then (bif (decide ((0 ≤ (i64 (i_6 + (((s_3).length : Nat) : Int)))) ∧ ((i64 (i_6 + (((s_3).length : Nat) : Int))) ≤ (((s_2).length : Nat) : Int)))) then (bif (List.all (Ax.write l_0 (i_5).toNat [(Ax.AV.str (Ax.S.sym (List.take ((i64 (i_6 + i_3))).toNat (List.drop 0 s_2))))]) (Ax.closedN 20)) then (some (.inl [(.s (List.take ((s_2).length - ((i64 (i_6 + (((s_3).length : Nat) : Int)))).toNat) (List.drop ((i64 (i_6 + (((s_3).length : Nat) : Int)))).toNat s_2))), (.s s_3), (.i i_3), (.i i_4), (.n n_2), (.n n_3), (.i (i64 (i_5 + 1))), (.l (Ax.write l_0 (i_5).toNat [(Ax.AV.str (Ax.S.sym (List.take ((i64 (i_6 + i_3))).toNat (List.drop 0 s_2))))]))])) else
    (none)) else none) else none) else none) else none) else none)) else
  (Option.map .inr (bif (decide ((0 ≤ i_5) ∧ (i_5 < ((n_2 : Nat) : Int)))) then (bif (decide (((i_5).toNat + 1) ≤ (l_0).length)) then (bif (decide (([(Ax.AV.str (Ax.S.sym s_2))]).length = 1)) then (bif (decide (n_2 ≤ n_3)) then (bif (decide ((0 ≤ (i64 (i_5 + 1))) ∧ ((i64 (i_5 + 1)) ≤ ((n_3 : Nat) : Int)))) then (bif (decide (0 < n_3)) then (bif (decide ((0 + (((i64 (i_5 + 1))).toNat * 1)) ≤ ((Ax.write l_0 (i_5).toNat [(Ax.AV.str (Ax.S.sym s_2))])).length)) then (bif (List.all (List.take (((i64 (i_5 + 1))).toNat * 1) (List.drop 0 (Ax.write l_0 (i_5).toNat [(Ax.AV.str (Ax.S.sym s_2))]))) (Ax.closedN 20)) then (some [(.n ((i64 (i_5 + 1))).toNat), (.l (List.take (((i64 (i_5 + 1))).toNat * 1) (List.drop 0 (Ax.write l_0 (i_5).toNat [(Ax.AV.str (Ax.S.sym s_2))]))))]) else
      (none)) else
     (none)) else
    (some [(.n 0), (.l [])])) else none) else none) else none) else none) else none))
noncomputable def F_strings_genSplit : List Dat → Option (List Dat) := fun ds_0 =>
  onS ds_0 fun s_0 ds_1 =>
  onS ds_1 fun sep_0 ds_2 =>
  onI ds_2 fun sepSave_0 ds_3 =>
  onI ds_3 fun n_0 ds_4 =>
  bif (decide (n_0 = 0)) then (some [(.n 0), (.l [])]) else
  (bif (sep_0 == ([] : List UInt8)) then (none) else
   (bif (decide (n_0 < 0)) then (Option.bind (Ax.strCount1 [(.s s_0), (.s sep_0)]) fun r_0 =>
     onI r_0 fun i_0 ds_5 =>
     bif (decide ((0 ≤ (if (i64 ((((s_0).length : Nat) : Int) + 1)) < (i64 (i_0 + 1)) then (i64 ((((s_0).length : Nat) : Int) + 1)) else (i64 (i_0 + 1)))) ∧ ((if (i64 ((((s_0).length : Nat) : Int) + 1)) < (i64 (i_0 + 1)) then (i64 ((((s_0).length : Nat) : Int) + 1)) else (i64 (i_0 + 1))) ≤ 9223372036854775807))) then (bif (decide ((0 ≤ (if (i64 ((((s_0).length : Nat) : Int) + 1)) < (i64 (i_0 + 1)) then (i64 ((((s_0).length : Nat) : Int) + 1)) else (i64 (i_0 + 1)))) ∧ ((if (i64 ((((s_0).length : Nat) : Int) + 1)) < (i64 (i_0 + 1)) then (i64 ((((s_0).length : Nat) : Int) + 1)) else (i64 (i_0 + 1))) ≤ ((((if (i64 ((((s_0).length : Nat) : Int) + 1)) < (i64 (i_0 + 1)) then (i64 ((((s_0).length : Nat) : Int) + 1)) else (i64 (i_0 + 1)))).toNat : Nat) : Int)))) then (bif (decide ((((if (i64 ((((s_0).length : Nat) : Int) + 1)) < (i64 (i_0 + 1)) then (i64 ((((s_0).length : Nat) : Int) + 1)) else (i64 (i_0 + 1)))).toNat * 16) ≤ 140737488355328)) then (bif (List.all (Ax.listC ((if (i64 ((((s_0).length : Nat) : Int) + 1)) < (i64 (i_0 + 1)) then (i64 ((((s_0).length : Nat) : Int) + 1)) else (i64 (i_0 + 1)))).toNat [(Ax.AV.str (Ax.S.lit ([] : List UInt8)))]) (Ax.closedN 20)) then (iter F_strings_genSplit_L0 [(.s s_0), (.s sep_0), (.i sepSave_0), (.i (i64 ((if (i64 ((((s_0).length : Nat) : Int) + 1)) < (i64 (i_0 + 1)) then (i64 ((((s_0).length : Nat) : Int) + 1)) else (i64 (i_0 + 1))) - 1))), (.n ((if (i64 ((((s_0).length : Nat) : Int) + 1)) < (i64 (i_0 + 1)) then (i64 ((((s_0).length : Nat) : Int) + 1)) else (i64 (i_0 + 1)))).toNat), (.n ((if (i64 ((((s_0).length : Nat) : Int) + 1)) < (i64 (i_0 + 1)) then (i64 ((((s_0).length : Nat) : Int) + 1)) else (i64 (i_0 + 1)))).toNat), (.i 0), (.l (Ax.listC ((if (i64 ((((s_0).length : Nat) : Int) + 1)) < (i64 (i_0 + 1)) then (i64 ((((s_0).length : Nat) : Int) + 1)) else (i64 (i_0 + 1)))).toNat [(Ax.AV.str (Ax.S.lit ([] : List UInt8)))]))]) else
     (none)) else none) else none) else none) else
    (bif (decide ((0 ≤ (if (i64 ((((s_0).length : Nat) : Int) + 1)) < n_0 then (i64 ((((s_0).length : Nat) : Int) + 1)) else n_0)) ∧ ((if (i64 ((((s_0).length : Nat) : Int) + 1)) < n_0 then (i64 ((((s_0).length : Nat) : Int) + 1)) else n_0) ≤ 9223372036854775807))) then (bif (decide ((0 ≤ (if (i64 ((((s_0).length : Nat) : Int) + 1)) < n_0 then (i64 ((((s_0).length : Nat) : Int) + 1)) else n_0)) ∧ ((if (i64 ((((s_0).length : Nat) : Int) + 1)) < n_0 then (i64 ((((s_0).length : Nat) : Int) + 1)) else n_0) ≤ ((((if (i64 ((((s_0).length : Nat) : Int) + 1)) < n_0 then (i64 ((((s_0).length : Nat) : Int) + 1)) else n_0)).toNat : Nat) : Int)))) then (bif (decide ((((if (i64 ((((s_0).length : Nat) : Int) + 1)) < n_0 then (i64 ((((s_0).length : Nat) : Int) + 1)) else n_0)).toNat * 16) ≤ 140737488355328)) then (bif (List.all (Ax.listC ((if (i64 ((((s_0).length : Nat) : Int) + 1)) < n_0 then (i64 ((((s_0).length : Nat) : Int) + 1)) else n_0)).toNat [(Ax.AV.str (Ax.S.lit ([] : List UInt8)))]) (Ax.closedN 20)) then (iter F_strings_genSplit_L1 [(.s s_0), (.s sep_0), (.i sepSave_0), (.i (i64 ((if (i64 ((((s_0).length : Nat) : Int) + 1)) < n_0 then (i64 ((((s_0).length : Nat) : Int) + 1)) else n_0) - 1))), (.n ((if (i64 ((((s_0).length : Nat) : Int) + 1)) < n_0 then (i64 ((((s_0).length : Nat) : Int) + 1)) else n_0)).toNat), (.n ((if (i64 ((((s_0).length : Nat) : Int) + 1)) < n_0 then (i64 ((((s_0).length : Nat) : Int) + 1)) else n_0)).toNat), (.i 0), (.l (Ax.listC ((if (i64 ((((s_0).length : Nat) : Int) + 1)) < n_0 then (i64 ((((s_0).length : Nat) : Int) + 1)) else n_0)).toNat [(Ax.AV.str (Ax.S.lit ([] : List UInt8)))]))]) else
     (none)) else none) else none) else none)))
noncomputable def F_strings_Split : List Dat → Option (List Dat) := fun ds_0 =>
  onS ds_0 fun s_0 ds_1 =>
  onS ds_1 fun sep_0 ds_2 =>
  Option.bind (F_strings_genSplit [(.s s_0), (.s sep_0), (.i 0), (.i (-1))]) fun r_0 =>
  onN r_0 fun n_0 ds_3 =>
  onL ds_3 fun l_0 ds_4 =>
  some [(.n n_0), (.l l_0)]
noncomputable def F_law07_NameParts_L0 : List Dat → Option (List Dat ⊕ List Dat) := fun ds_13 =>
  onI ds_13 fun n_2 ds_14 =>
  onS ds_14 fun a_0 ds_15 =>
  onS ds_15 fun b_3 ds_16 =>
  onN ds_16 fun vn_0 ds_17 =>
  onL ds_17 fun vl_0 ds_18 =>
  onI ds_18 fun v_0 ds_19 =>
  onI ds_19 fun v_1 ds_20 =>
  bif (decide (v_1 < v_0)) then (bif (decide ((0 ≤ v_1) ∧ (v_1 < ((vn_0 : Nat) : Int)))) then (Option.bind (asS (vl_0)[(v_1).toNat]?) fun s_2 =>
   Option.bind (nameZone [(.s s_2)]) fun r_6 =>
   onB r_6 fun b_4 ds_21 =>
   bif (!b_4) then (Option.map .inr (some [(.b false)])) else
   (some (.inl [(.i n_2), (.s a_0), (.s b_3), (.n vn_0), (.l vl_0), (.i v_0), (.i (i64 (v_1 + 1)))]))) else none) else
  (Option.map .inr (Option.bind (Ax.strRepeat [(.s ([120] : List UInt8)), (.i (i64 (Int.tmod n_2 20)))]) fun r_7 =>
    onS r_7 fun s_3 ds_22 =>
    Option.bind (nameZone [(.s s_3)]) fun r_8 =>
    onB r_8 fun b_5 ds_23 =>
    bif (decide (1 ≤ (Int.tmod n_2 20))) then (bif (decide ((Int.tmod n_2 20) ≤ 14)) then (bif (!(b_5 == true)) then (some [(.b false)]) else
      (bif (decide ((2 + (s_3).length) ≤ 9223372036854775807)) then (Option.bind (nameZone [(.s (([65, 47] : List UInt8) ++ s_3))]) fun r_9 =>
       onB r_9 fun b_6 ds_24 =>
       Option.bind (nameZone [(.s s_3)]) fun r_10 =>
       onB r_10 fun b_7 ds_25 =>
       bif (!(b_6 == b_7)) then (some [(.b false)]) else
       (Option.bind (Ax.strRepeat [(.s ([97, 98, 99, 47] : List UInt8)), (.i (i64 (Int.tmod n_2 17)))]) fun r_11 =>
        onS r_11 fun s_4 ds_26 =>
        bif (decide (((s_4).length + 4) ≤ 9223372036854775807)) then (Option.bind (nameZone [(.s (s_4 ++ ([97, 98, 99, 100] : List UInt8)))]) fun r_12 =>
        onB r_12 fun b_8 ds_27 =>
        bif (decide (((((s_4 ++ ([97, 98, 99, 100] : List UInt8))).length : Nat) : Int) ≤ 60)) then (bif (b_8 == true) then (bif (decide (((a_0).length + 1) ≤ 9223372036854775807)) then (Option.bind (nameZone [(.s (a_0 ++ ([47] : List UInt8)))]) fun r_13 =>
          onB r_13 fun b_9 ds_28 =>
          bif (!b_9) then (bif (decide ((1 + (a_0).length) ≤ 9223372036854775807)) then (Option.bind (nameZone [(.s (([47] : List UInt8) ++ a_0))]) fun r_14 =>
           onB r_14 fun b_10 ds_29 =>
           bif (!b_10) then (bif (decide (((a_0).length + 2) ≤ 9223372036854775807)) then (bif (decide ((((a_0 ++ ([47, 47] : List UInt8))).length + (b_3).length) ≤ 9223372036854775807)) then (Option.bind (nameZone [(.s ((a_0 ++ ([47, 47] : List UInt8)) ++ b_3))]) fun r_15 =>
            onB r_15 fun b_11 ds_30 =>
            bif (!b_11) then (Option.bind (F_law07_works []) fun r_16 =>
             onB r_16 fun b_12 ds_31 =>
             some [(.b b_12)]) else
            (some [(.b false)])) else none) else none) else
           (some [(.b false)])) else none) else
          (some [(.b false)])) else none) else
         (some [(.b false)])) else
        (bif (b_8 == false) then (bif (decide (((a_0).length + 1) ≤ 9223372036854775807)) then (Option.bind (nameZone [(.s (a_0 ++ ([47] : List UInt8)))]) fun r_17 =>
          onB r_17 fun b_13 ds_32 =>
          bif (!b_13) then (bif (decide ((1 + (a_0).length) ≤ 9223372036854775807)) then (Option.bind (nameZone [(.s (([47] : List UInt8) ++ a_0))]) fun r_18 =>
           onB r_18 fun b_14 ds_33 =>
           bif (!b_14) then (bif (decide (((a_0).length + 2) ≤ 9223372036854775807)) then (bif (decide ((((a_0 ++ ([47, 47] : List UInt8))).length + (b_3).length) ≤ 9223372036854775807)) then (Option.bind (nameZone [(.s ((a_0 ++ ([47, 47] : List UInt8)) ++ b_3))]) fun r_19 =>
            onB r_19 fun b_15 ds_34 =>
            bif (!b_15) then (Option.bind (F_law07_works []) fun r_20 =>
             onB r_20 fun b_16 ds_35 =>
             some [(.b b_16)]) else
            (some [(.b false)])) else none) else none) else
           (some [(.b false)])) else none) else
          (some [(.b false)])) else none) else
         (some [(.b false)]))) else none)) else none)) else
     (bif (!(b_5 == false)) then (some [(.b false)]) else
      (bif (decide ((2 + (s_3).length) ≤ 9223372036854775807)) then (Option.bind (nameZone [(.s (([65, 47] : List UInt8) ++ s_3))]) fun r_21 =>
       onB r_21 fun b_17 ds_36 =>
       Option.bind (nameZone [(.s s_3)]) fun r_22 =>
       onB r_22 fun b_18 ds_37 =>
       bif (!(b_17 == b_18)) then (some [(.b false)]) else
       (Option.bind (Ax.strRepeat [(.s ([97, 98, 99, 47] : List UInt8)), (.i (i64 (Int.tmod n_2 17)))]) fun r_23 =>
        onS r_23 fun s_5 ds_38 =>
        bif (decide (((s_5).length + 4) ≤ 9223372036854775807)) then (Option.bind (nameZone [(.s (s_5 ++ ([97, 98, 99, 100] : List UInt8)))]) fun r_24 =>
        onB r_24 fun b_19 ds_39 =>
        bif (decide (((((s_5 ++ ([97, 98, 99, 100] : List UInt8))).length : Nat) : Int) ≤ 60)) then (bif (b_19 == true) then (bif (decide (((a_0).length + 1) ≤ 9223372036854775807)) then (Option.bind (nameZone [(.s (a_0 ++ ([47] : List UInt8)))]) fun r_25 =>
          onB r_25 fun b_20 ds_40 =>
          bif (!b_20) then (bif (decide ((1 + (a_0).length) ≤ 9223372036854775807)) then (Option.bind (nameZone [(.s (([47] : List UInt8) ++ a_0))]) fun r_26 =>
           onB r_26 fun b_21 ds_41 =>
           bif (!b_21) then (bif (decide (((a_0).length + 2) ≤ 9223372036854775807)) then (bif (decide ((((a_0 ++ ([47, 47] : List UInt8))).length + (b_3).length) ≤ 9223372036854775807)) then (Option.bind (nameZone [(.s ((a_0 ++ ([47, 47] : List UInt8)) ++ b_3))]) fun r_27 =>
            onB r_27 fun b_22 ds_42 =>
            bif (!b_22) then (Option.bind (F_law07_works []) fun r_28 =>
             onB r_28 fun b_23 ds_43 =>
             some [(.b b_23)]) else
            (some [(.b false)])) else none) else none) else
           (some [(.b false)])) else none) else
          (some [(.b false)])) else none) else
         (some [(.b false)])) else
        (bif (b_19 == false) then (bif (decide (((a_0).length + 1) ≤ 9223372036854775807)) then (Option.bind (nameZone [(.s (a_0 ++ ([47] : List UInt8)))]) fun r_29 =>
          onB r_29 fun b_24 ds_44 =>
          bif (!b_24) then (bif (decide ((1 + (a_0).length) ≤ 9223372036854775807)) then (Option.bind (nameZone [(.s (([47] : List UInt8) ++ a_0))]) fun r_30 =>
           onB r_30 fun b_25 ds_45 =>
           bif (!b_25) then (bif (decide (((a_0).length + 2) ≤ 9223372036854775807)) then (bif (decide ((((a_0 ++ ([47, 47] : List UInt8))).length + (b_3).length) ≤ 9223372036854775807)) then (Option.bind (nameZone [(.s ((a_0 ++ ([47, 47] : List UInt8)) ++ b_3))]) fun r_31 =>
            onB r_31 fun b_26 ds_46 =>
            bif (!b_26) then (Option.bind (F_law07_works []) fun r_32 =>
             onB r_32 fun b_27 ds_47 =>
             some [(.b b_27)]) else
            (some [(.b false)])) else none) else none) else
           (some [(.b false)])) else none) else
          (some [(.b false)])) else none) else
         (some [(.b false)]))) else none)) else none))) else
    (bif (!(b_5 == false)) then (some [(.b false)]) else
     (bif (decide ((2 + (s_3).length) ≤ 9223372036854775807)) then (Option.bind (nameZone [(.s (([65, 47] : List UInt8) ++ s_3))]) fun r_33 =>
      onB r_33 fun b_28 ds_48 =>
      Option.bind (nameZone [(.s s_3)]) fun r_34 =>
      onB r_34 fun b_29 ds_49 =>
      bif (!(b_28 == b_29)) then (some [(.b false)]) else
      (Option.bind (Ax.strRepeat [(.s ([97, 98, 99, 47] : List UInt8)), (.i (i64 (Int.tmod n_2 17)))]) fun r_35 =>
       onS r_35 fun s_6 ds_50 =>
       bif (decide (((s_6).length + 4) ≤ 9223372036854775807)) then (Option.bind (nameZone [(.s (s_6 ++ ([97, 98, 99, 100] : List UInt8)))]) fun r_36 =>
       onB r_36 fun b_30 ds_51 =>
       bif (decide (((((s_6 ++ ([97, 98, 99, 100] : List UInt8))).length : Nat) : Int) ≤ 60)) then (bif (b_30 == true) then (bif (decide (((a_0).length + 1) ≤ 9223372036854775807)) then (Option.bind (nameZone [(.s (a_0 ++ ([47] : List UInt8)))]) fun r_37 =>
         onB r_37 fun b_31 ds_52 =>
         bif (!b_31) then (bif (decide ((1 + (a_0).length) ≤ 9223372036854775807)) then (Option.bind (nameZone [(.s (([47] : List UInt8) ++ a_0))]) fun r_38 =>
          onB r_38 fun b_32 ds_53 =>
          bif (!b_32) then (bif (decide (((a_0).length + 2) ≤ 9223372036854775807)) then (bif (decide ((((a_0 ++ ([47, 47] : List UInt8))).length + (b_3).length) ≤ 9223372036854775807)) then (Option.bind (nameZone [(.s ((a_0 ++ ([47, 47] : List UInt8)) ++ b_3))]) fun r_39 =>
           onB r_39 fun b_33 ds_54 =>
           bif (!b_33) then (Option.bind (F_law07_works []) fun r_40 =>
            onB r_40 fun b_34 ds_55 =>
            some [(.b b_34)]) else
           (some [(.b false)])) else none) else none) else
          (some [(.b false)])) else none) else
         (some [(.b false)])) else none) else
        (some [(.b false)])) else
       (bif (b_30 == false) then (bif (decide (((a_0).length + 1) ≤ 9223372036854775807)) then (Option.bind (nameZone [(.s (a_0 ++ ([47] : List UInt8)))]) fun r_41 =>
         onB r_41 fun b_35 ds_56 =>
         bif (!b_35) then (bif (decide ((1 + (a_0).length) ≤ 9223372036854775807)) then (Option.bind (nameZone [(.s (([47] : List UInt8) ++ a_0))]) fun r_42 =>
          onB r_42 fun b_36 ds_57 =>
          bif (!b_36) then (bif (decide (((a_0).length + 2) ≤ 9223372036854775807)) then (bif (decide ((((a_0 ++ ([47, 47] : List UInt8))).length + (b_3).length) ≤ 9223372036854775807)) then (Option.bind (nameZone [(.s ((a_0 ++ ([47, 47] : List UInt8)) ++ b_3))]) fun r_43 =>
           onB r_43 fun b_37 ds_58 =>
           bif (!b_37) then (Option.bind (F_law07_works []) fun r_44 =>
            onB r_44 fun b_38 ds_59 =>
            some [(.b b_38)]) else
           (some [(.b false)])) else none) else none) else
          (some [(.b false)])) else none) else
         (some [(.b false)])) else none) else
        (some [(.b false)]))) else none)) else none))))
noncomputable def F_law07_NameParts_L1 : List Dat → Option (List Dat ⊕ List Dat) := fun ds_62 =>
  onI ds_62 fun i_0 ds_63 =>
  onS ds_63 fun s_7 ds_64 =>
  onS ds_64 fun s_8 ds_65 =>
  onN ds_65 fun n_4 ds_66 =>
  onL ds_66 fun l_2 ds_67 =>
  onI ds_67 fun i_1 ds_68 =>
  onI ds_68 fun i_2 ds_69 =>
  bif (decide (i_2 < i_1)) then (bif (decide ((0 ≤ i_2) ∧ (i_2 < ((n_4 : Nat) : Int)))) then (Option.bind (asS (l_2)[(i_2).toNat]?) fun s_9 =>
   Option.bind (nameZone [(.s s_9)]) fun r_46 =>
   onB r_46 fun b_39 ds_70 =>
   bif (!b_39) then (Option.map .inr (some [(.b false)])) else
   (some (.inl [(.i i_0), (.s s_7), (.s s_8), (.n n_4), (.l l_2), (.i i_1), (.i (i64 (i_2 + 1)))]))) else none) else
  (Option.map .inr (Option.bind (Ax.strRepeat [(.s ([120] : List UInt8)), (.i (i64 (Int.tmod i_0 20)))]) fun r_47 =>
    onS r_47 fun s_10 ds_71 =>
    Option.bind (nameZone [(.s s_10)]) fun r_48 =>
    onB r_48 fun b_40 ds_72 =>
    bif (decide (1 ≤ (Int.tmod i_0 20))) then (bif (decide ((Int.tmod i_0 20) ≤ 14)) then (bif (!(b_40 == true)) then (some [(.b false)]) else
      (bif (decide ((2 + (s_10).length) ≤ 9223372036854775807)) then (Option.bind (nameZone [(.s (([65, 47] : List UInt8) ++ s_10))]) fun r_49 =>
       onB r_49 fun b_41 ds_73 =>
       Option.bind (nameZone [(.s s_10)]) fun r_50 =>
       onB r_50 fun b_42 ds_74 =>
       bif (!(b_41 == b_42)) then (some [(.b false)]) else
       (Option.bind (Ax.strRepeat [(.s ([97, 98, 99, 47] : List UInt8)), (.i (i64 (Int.tmod i_0 17)))]) fun r_51 =>
        onS r_51 fun s_11 ds_75 =>
        bif (decide (((s_11).length + 4) ≤ 9223372036854775807)) then (Option.bind (nameZone [(.s (s_11 ++ ([97, 98, 99, 100] : List UInt8)))]) fun r_52 =>
        onB r_52 fun b_43 ds_76 =>
        bif (decide (((((s_11 ++ ([97, 98, 99, 100] : List UInt8))).length : Nat) : Int) ≤ 60)) then (bif (b_43 == true) then (bif (decide (((s_7).length + 1) ≤ 9223372036854775807)) then (Option.bind (nameZone [(.s (s_7 ++ ([47] : List UInt8)))]) fun r_53 =>
          onB r_53 fun b_44 ds_77 =>
          bif (!b_44) then (bif (decide ((1 + (s_7).length) ≤ 9223372036854775807)) then (Option.bind (nameZone [(.s (([47] : List UInt8) ++ s_7))]) fun r_54 =>
           onB r_54 fun b_45 ds_78 =>
           bif (!b_45) then (bif (decide (((s_7).length + 2) ≤ 9223372036854775807)) then (bif (decide ((((s_7 ++ ([47, 47] : List UInt8))).length + (s_8).length) ≤ 9223372036854775807)) then (Option.bind (nameZone [(.s ((s_7 ++ ([47, 47] : List UInt8)) ++ s_8))]) fun r_55 =>
            onB r_55 fun b_46 ds_79 =>
            bif (!b_46) then (Option.bind (F_law07_works []) fun r_56 =>
             onB r_56 fun b_47 ds_80 =>
             some [(.b b_47)]) else
            (some [(.b false)])) else none) else none) else
           (some [(.b false)])) else none) else
          (some [(.b false)])) else none) else
         (some [(.b false)])) else
        (bif (b_43 == false) then (bif (decide (((s_7).length + 1) ≤ 9223372036854775807)) then (Option.bind (nameZone [(.s (s_7 ++ ([47] : List UInt8)))]) fun r_57 =>
          onB r_57 fun b_48 ds_81 =>
          bif (!b_48) then (bif (decide ((1 + (s_7).length) ≤ 9223372036854775807)) then (Option.bind (nameZone [(.s (([47] : List UInt8) ++ s_7))]) fun r_58 =>
           onB r_58 fun b_49 ds_82 =>
           bif (!b_49) then (bif (decide (((s_7).length + 2) ≤ 9223372036854775807)) then (bif (decide ((((s_7 ++ ([47, 47] : List UInt8))).length + (s_8).length) ≤ 9223372036854775807)) then (Option.bind (nameZone [(.s ((s_7 ++ ([47, 47] : List UInt8)) ++ s_8))]) fun r_59 =>
            onB r_59 fun b_50 ds_83 =>
            bif (!b_50) then (Option.bind (F_law07_works []) fun r_60 =>
             onB r_60 fun b_51 ds_84 =>
             some [(.b b_51)]) else
            (some [(.b false)])) else none) else none) else
           (some [(.b false)])) else none) else
          (some [(.b false)])) else none) else
         (some [(.b false)]))) else none)) else none)) else
     (bif (!(b_40 == false)) then (some [(.b false)]) else
      (bif (decide ((2 + (s_10).length) ≤ 9223372036854775807)) then (Option.bind (nameZone [(.s (([65, 47] : List UInt8) ++ s_10))]) fun r_61 =>
       onB r_61 fun b_52 ds_85 =>
       Option.bind (nameZone [(.s s_10)]) fun r_62 =>
       onB r_62 fun b_53 ds_86 =>
       bif (!(b_52 == b_53)) then (some [(.b false)]) else
       (Option.bind (Ax.strRepeat [(.s ([97, 98, 99, 47] : List UInt8)), (.i (i64 (Int.tmod i_0 17)))]) fun r_63 =>
        onS r_63 fun s_12 ds_87 =>
        bif (decide (((s_12).length + 4) ≤ 9223372036854775807)) then (Option.bind (nameZone [(.s (s_12 ++ ([97, 98, 99, 100] : List UInt8)))]) fun r_64 =>
        onB r_64 fun b_54 ds_88 =>
        bif (decide (((((s_12 ++ ([97, 98, 99, 100] : List UInt8))).length : Nat) : Int) ≤ 60)) then (bif (b_54 == true) then (bif (decide (((s_7).length + 1) ≤ 9223372036854775807)) then (Option.bind (nameZone [(.s (s_7 ++ ([47] : List UInt8)))]) fun r_65 =>
          onB r_65 fun b_55 ds_89 =>
          bif (!b_55) then (bif (decide ((1 + (s_7).length) ≤ 9223372036854775807)) then (Option.bind (nameZone [(.s (([47] : List UInt8) ++ s_7))]) fun r_66 =>
           onB r_66 fun b_56 ds_90 =>
           bif (!b_56) then (bif (decide (((s_7).length + 2) ≤ 9223372036854775807)) then (bif (decide ((((s_7 ++ ([47, 47] : List UInt8))).length + (s_8).length) ≤ 9223372036854775807)) then (Option.bind (nameZone [(.s ((s_7 ++ ([47, 47] : List UInt8)) ++ s_8))]) fun r_67 =>
            onB r_67 fun b_57 ds_91 =>
            bif (!b_57) then (Option.bind (F_law07_works []) fun r_68 =>
             onB r_68 fun b_58 ds_92 =>
             some [(.b b_58)]) else
            (some [(.b false)])) else none) else none) else
           (some [(.b false)])) else none) else
          (some [(.b false)])) else none) else
         (some [(.b false)])) else
        (bif (b_54 == false) then (bif (decide (((s_7).length + 1) ≤ 9223372036854775807)) then (Option.bind (nameZone [(.s (s_7 ++ ([47] : List UInt8)))]) fun r_69 =>
          onB r_69 fun b_59 ds_93 =>
          bif (!b_59) then (bif (decide ((1 + (s_7).length) ≤ 9223372036854775807)) then (Option.bind (nameZone [(.s (([47] : List UInt8) ++ s_7))]) fun r_70 =>
           onB r_70 fun b_60 ds_94 =>
           bif (!b_60) then (bif (decide (((s_7).length + 2) ≤ 9223372036854775807)) then (bif (decide ((((s_7 ++ ([47, 47] : List UInt8))).length + (s_8).length) ≤ 9223372036854775807)) then (Option.bind (nameZone [(.s ((s_7 ++ ([47, 47] : List UInt8)) ++ s_8))]) fun r_71 =>
            onB r_71 fun b_61 ds_95 =>
            bif (!b_61) then (Option.bind (F_law07_works []) fun r_72 =>
             onB r_72 fun b_62 ds_96 =>
             some [(.b b_62)]) else
            (some [(.b false)])) else none) else none) else
           (some [(.b false)])) else none) else
          (some [(.b false)])) else none) else
         (some [(.b false)]))) else none)) else none))) else
    (bif (!(b_40 == false)) then (some [(.b false)]) else
     (bif (decide ((2 + (s_10).length) ≤ 9223372036854775807)) then (Option.bind (nameZone [(.s (([65, 47] : List UInt8) ++ s_10))]) fun r_73 =>
      onB r_73 fun b_63 ds_97 =>
      Option.bind (nameZone [(.s s_10)]) fun r_74 =>
      onB r_74 fun b_64 ds_98 =>
      bif (!(b_63 == b_64)) then (some [(.b false)]) else
      (Option.bind (Ax.strRepeat [(.s ([97, 98, 99, 47] : List UInt8)), (.i (i64 (Int.tmod i_0 17)))]) fun r_75 =>
       onS r_75 fun s_13 ds_99 =>
       bif (decide (((s_13).length + 4) ≤ 9223372036854775807)) then (Option.bind (nameZone [(.s (s_13 ++ ([97, 98, 99, 100] : List UInt8)))]) fun r_76 =>
       onB r_76 fun b_65 ds_100 =>
       bif (decide (((((s_13 ++ ([97, 98, 99, 100] : List UInt8))).length : Nat) : Int) ≤ 60)) then (bif (b_65 == true) then (bif (decide (((s_7).length + 1) ≤ 9223372036854775807)) then (Option.bind (nameZone [(.s (s_7 ++ ([47] : List UInt8)))]) fun r_77 =>
         onB r_77 fun b_66 ds_101 =>
         bif (!b_66) then (bif (decide ((1 + (s_7).length) ≤ 9223372036854775807)) then (Option.bind (nameZone [(.s (([47] : List UInt8) ++ s_7))]) fun r_78 =>
          onB r_78 fun b_67 ds_102 =>
          bif (!b_67) then (bif (decide (((s_7).length + 2) ≤ 9223372036854775807)) then (bif (decide ((((s_7 ++ ([47, 47] : List UInt8))).length + (s_8).length) ≤ 9223372036854775807)) then (Option.bind (nameZone [(.s ((s_7 ++ ([47, 47] : List UInt8)) ++ s_8))]) fun r_79 =>
           onB r_79 fun b_68 ds_103 =>
           bif (!b_68) then (Option.bind (F_law07_works []) fun r_80 =>
            onB r_80 fun b_69 ds_104 =>
            some [(.b b_69)]) else
           (some [(.b false)])) else none) else none) else
          (some [(.b false)])) else none) else
         (some [(.b false)])) else none) else
        (some [(.b false)])) else
       (bif (b_65 == false) then (bif (decide (((s_7).length + 1) ≤ 9223372036854775807)) then (Option.bind (nameZone [(.s (s_7 ++ ([47] : List UInt8)))]) fun r_81 =>
         onB r_81 fun b_70 ds_105 =>
         bif (!b_70) then (bif (decide ((1 + (s_7).length) ≤ 9223372036854775807)) then (Option.bind (nameZone [(.s (([47] : List UInt8) ++ s_7))]) fun r_82 =>
          onB r_82 fun b_71 ds_106 =>
          bif (!b_71) then (bif (decide (((s_7).length + 2) ≤ 9223372036854775807)) then (bif (decide ((((s_7 ++ ([47, 47] : List UInt8))).length + (s_8).length) ≤ 9223372036854775807)) then (Option.bind (nameZone [(.s ((s_7 ++ ([47, 47] : List UInt8)) ++ s_8))]) fun r_83 =>
           onB r_83 fun b_72 ds_107 =>
           bif (!b_72) then (Option.bind (F_law07_works []) fun r_84 =>
            onB r_84 fun b_73 ds_108 =>
            some [(.b b_73)]) else
           (some [(.b false)])) else none) else none) else
          (some [(.b false)])) else none) else
         (some [(.b false)])) else none) else
        (some [(.b false)]))) else none)) else none))))
noncomputable def F_law07_NameParts : List Dat → Option (List Dat) := fun ds_0 =>
  onN ds_0 fun ln_0 ds_1 =>
  onL ds_1 fun ll_0 ds_2 =>
  onN ds_2 fun mn_0 ds_3 =>
  onL ds_3 fun ml_0 ds_4 =>
  onI ds_4 fun n_0 ds_5 =>
  Option.bind (F_law07_Zone [(.n ln_0), (.l ll_0)]) fun r_0 =>
  onS r_0 fun s_0 ds_6 =>
  Option.bind (F_law07_Zone [(.n mn_0), (.l ml_0)]) fun r_1 =>
  onS r_1 fun s_1 ds_7 =>
  Option.bind (nameZone [(.s s_0)]) fun r_2 =>
  onB r_2 fun b_0 ds_8 =>
  bif (!b_0) then (some [(.b false)]) else
  (Option.bind (nameZone [(.s s_1)]) fun r_3 =>
   onB r_3 fun b_1 ds_9 =>
   bif (!b_1) then (some [(.b false)]) else
   (bif (decide (((s_0).length + 1) ≤ 9223372036854775807)) then (bif (decide ((((s_0 ++ ([47] : List UInt8))).length + (s_1).length) ≤ 9223372036854775807)) then (Option.bind (nameZone [(.s ((s_0 ++ ([47] : List UInt8)) ++ s_1))]) fun r_4 =>
    onB r_4 fun b_2 ds_10 =>
    bif (decide ((i64 ((((s_0).length : Nat) : Int) + (((s_1).length : Nat) : Int))) ≤ 59)) then (bif (!(b_2 == true)) then (some [(.b false)]) else
     (Option.bind (F_strings_Split [(.s s_0), (.s ([47] : List UInt8))]) fun r_5 =>
      onN r_5 fun n_1 ds_11 =>
      onL ds_11 fun l_0 ds_12 =>
      iter F_law07_NameParts_L0 [(.i n_0), (.s s_0), (.s s_1), (.n n_1), (.l l_0), (.i ((n_1 : Nat) : Int)), (.i 0)])) else
    (bif (!(b_2 == false)) then (some [(.b false)]) else
     (Option.bind (F_strings_Split [(.s s_0), (.s ([47] : List UInt8))]) fun r_45 =>
      onN r_45 fun n_3 ds_60 =>
      onL ds_60 fun l_1 ds_61 =>
      iter F_law07_NameParts_L1 [(.i n_0), (.s s_0), (.s s_1), (.n n_3), (.l l_1), (.i ((n_3 : Nat) : Int)), (.i 0)]))) else none) else none))
noncomputable def F_law07_Letters_L0 : List Dat → Option (List Dat ⊕ List Dat) := fun ds_5 =>
  onN ds_5 fun ln_1 ds_6 =>
  onL ds_6 fun ll_1 ds_7 =>
  onI ds_7 fun least_1 ds_8 =>
  onI ds_8 fun most_1 ds_9 =>
  onS ds_9 fun out_0 ds_10 =>
  onI ds_10 fun i_0 ds_11 =>
  Option.bind (bif (decide (i_0 < most_1)) then (bif (decide (i_0 < ((ln_1 : Nat) : Int))) then (some true) else
    (bif (decide (i_0 < least_1)) then (some true) else
     (some false))) else
   (some false)) fun b_0 =>
  bif b_0 then (bif (decide (i_0 < ((ln_1 : Nat) : Int))) then (bif (decide ((0 ≤ i_0) ∧ (i_0 < ((ln_1 : Nat) : Int)))) then (Option.bind (asI .u8 (ll_1)[(i_0).toNat]?) fun x_0 =>
    bif (decide ((0 ≤ (u8 ((Int.tmod x_0 52) + 1))) ∧ ((u8 ((Int.tmod x_0 52) + 1)) ≤ 52))) then (bif (decide ((0 ≤ (Int.tmod x_0 52)) ∧ ((Int.tmod x_0 52) ≤ ((((u8 ((Int.tmod x_0 52) + 1))).toNat : Nat) : Int)))) then (bif (decide (((out_0).length + ((List.take (((u8 ((Int.tmod x_0 52) + 1))).toNat - ((Int.tmod x_0 52)).toNat) (List.drop ((Int.tmod x_0 52)).toNat ([65, 66, 67, 68, 69, 70, 71, 72, 73, 74, 75, 76, 77, 78, 79, 80, 81, 82, 83, 84, 85, 86, 87, 88, 89, 90, 97, 98, 99, 100, 101, 102, 103, 104, 105, 106, 107, 108, 109, 110, 111, 112, 113, 114, 115, 116, 117, 118, 119, 120, 121, 122] : List UInt8)))).length) ≤ 9223372036854775807)) then (some (.inl [(.n ln_1), (.l ll_1), (.i least_1), (.i most_1), (.s (out_0 ++ (List.take (((u8 ((Int.tmod x_0 52) + 1))).toNat - ((Int.tmod x_0 52)).toNat) (List.drop ((Int.tmod x_0 52)).toNat ([65, 66, 67, 68, 69, 70, 71, 72, 73, 74, 75, 76, 77, 78, 79, 80, 81, 82, 83, 84, 85, 86, 87, 88, 89, 90, 97, 98, 99, 100, 101, 102, 103, 104, 105, 106, 107, 108, 109, 110, 111, 112, 113, 114, 115, 116, 117, 118, 119, 120, 121, 122] : List UInt8))))), (.i (i64 (i_0 + 1)))])) else none) else none) else none) else none) else
   (bif (decide ((0 ≤ (u8 ((Int.tmod (u8 (i64 (i_0 * 7))) 52) + 1))) ∧ ((u8 ((Int.tmod (u8 (i64 (i_0 * 7))) 52) + 1)) ≤ 52))) then (bif (decide ((0 ≤ (Int.tmod (u8 (i64 (i_0 * 7))) 52)) ∧ ((Int.tmod (u8 (i64 (i_0 * 7))) 52) ≤ ((((u8 ((Int.tmod (u8 (i64 (i_0 * 7))) 52) + 1))).toNat : Nat) : Int)))) then (bif (decide (((out_0).length + ((List.take (((u8 ((Int.tmod (u8 (i64 (i_0 * 7))) 52) + 1))).toNat - ((Int.tmod (u8 (i64 (i_0 * 7))) 52)).toNat) (List.drop ((Int.tmod (u8 (i64 (i_0 * 7))) 52)).toNat ([65, 66, 67, 68, 69, 70, 71, 72, 73, 74, 75, 76, 77, 78, 79, 80, 81, 82, 83, 84, 85, 86, 87, 88, 89, 90, 97, 98, 99, 100, 101, 102, 103, 104, 105, 106, 107, 108, 109, 110, 111, 112, 113, 114, 115, 116, 117, 118, 119, 120, 121, 122] : List UInt8)))).length) ≤ 9223372036854775807)) then (some (.inl [(.n ln_1), (.l ll_1), (.i least_1), (.i most_1), (.s (out_0 ++ (List.take (((u8 ((Int.tmod (u8 (i64 (i_0 * 7))) 52) + 1))).toNat - ((Int.tmod (u8 (i64 (i_0 * 7))) 52)).toNat) (List.drop ((Int.tmod (u8 (i64 (i_0 * 7))) 52)).toNat ([65, 66, 67, 68, 69, 70, 71, 72, 73, 74, 75, 76, 77, 78, 79, 80, 81, 82, 83, 84, 85, 86, 87, 88, 89, 90, 97, 98, 99, 100, 101, 102, 103, 104, 105, 106, 107, 108, 109, 110, 111, 112, 113, 114, 115, 116, 117, 118, 119, 120, 121, 122] : List UInt8))))), (.i (i64 (i_0 + 1)))])) else none) else none) else none)) else
  (Option.map .inr (some [(.s out_0)]))
noncomputable def F_law07_Letters : List Dat → Option (List Dat) := fun ds_0 =>
  onN ds_0 fun ln_0 ds_1 =>
  onL ds_1 fun ll_0 ds_2 =>
  onI ds_2 fun least_0 ds_3 =>
  onI ds_3 fun most_0 ds_4 =>
  iter F_law07_Letters_L0 [(.n ln_0), (.l ll_0), (.i least_0), (.i most_0), (.s ([] : List UInt8)), (.i 0)]
noncomputable def F_law07_NameBytes : List Dat → Option (List Dat) := fun ds_0 =>
  onN ds_0 fun ln_0 ds_1 =>
  onL ds_1 fun ll_0 ds_2 =>
  onN ds_2 fun mn_0 ds_3 =>
  onL ds_3 fun ml_0 ds_4 =>
  onI ds_4 fun c_0 ds_5 =>
  onI ds_5 fun at_0 ds_6 =>
  Option.bind (F_law07_Zone [(.n ln_0), (.l ll_0)]) fun r_0 =>
  onS r_0 fun s_0 ds_7 =>
  bif ((((s_0).length : Nat) : Int) != 0) then (Option.bind (bif (decide (65 ≤ c_0)) then (bif (decide (c_0 ≤ 90)) then (some true) else
    (bif (decide (97 ≤ c_0)) then (bif (decide (c_0 ≤ 122)) then (some true) else
      (some false)) else
     (some false))) else
   (bif (decide (97 ≤ c_0)) then (bif (decide (c_0 ≤ 122)) then (some true) else
     (some false)) else
    (some false))) fun b_0 =>
  Option.bind (bif (decide (48 ≤ c_0)) then (bif (decide (c_0 ≤ 57)) then (some true) else
    (some false)) else
   (some false)) fun b_1 =>
  Option.bind (bif (decide ((Int.tmod (i64 at_0) (((s_0).length : Nat) : Int)) = 0)) then (some true) else
   (bif (decide ((0 ≤ (i64 ((Int.tmod (i64 at_0) (((s_0).length : Nat) : Int)) - 1))) ∧ ((i64 ((Int.tmod (i64 at_0) (((s_0).length : Nat) : Int)) - 1)) < (((s_0).length : Nat) : Int)))) then (bif (decide (((((List.getD s_0 ((i64 ((Int.tmod (i64 at_0) (((s_0).length : Nat) : Int)) - 1))).toNat 0)).toNat : Nat) : Int) = 47)) then (some true) else
    (some false)) else none)) fun b_2 =>
  Option.bind (bif b_0 then (some true) else
   (bif b_1 then (some true) else
    (bif (decide (c_0 = 95)) then (some true) else
     (bif (decide (c_0 = 43)) then (some true) else
      (bif (decide (c_0 = 46)) then (some (!b_2)) else
       (bif (decide (c_0 = 45)) then (some (!b_2)) else
        (some false))))))) fun b_3 =>
  bif (decide ((0 ≤ (Int.tmod (i64 at_0) (((s_0).length : Nat) : Int))) ∧ ((Int.tmod (i64 at_0) (((s_0).length : Nat) : Int)) ≤ (((s_0).length : Nat) : Int)))) then (Option.bind (bytesOf [(Ax.AV.int .u8 (Ax.I.sym c_0))]) fun s_1 =>
  bif (decide ((((List.take ((Int.tmod (i64 at_0) (((s_0).length : Nat) : Int))).toNat (List.drop 0 s_0))).length + (s_1).length) ≤ 9223372036854775807)) then (bif (decide ((0 ≤ (i64 ((Int.tmod (i64 at_0) (((s_0).length : Nat) : Int)) + 1))) ∧ ((i64 ((Int.tmod (i64 at_0) (((s_0).length : Nat) : Int)) + 1)) ≤ (((s_0).length : Nat) : Int)))) then (bif (decide (((((List.take ((Int.tmod (i64 at_0) (((s_0).length : Nat) : Int))).toNat (List.drop 0 s_0)) ++ s_1)).length + ((List.take ((s_0).length - ((i64 ((Int.tmod (i64 at_0) (((s_0).length : Nat) : Int)) + 1))).toNat) (List.drop ((i64 ((Int.tmod (i64 at_0) (((s_0).length : Nat) : Int)) + 1))).toNat s_0))).length) ≤ 9223372036854775807)) then (bif (!decide (c_0 = 47)) then (bif (decide ((0 ≤ (Int.tmod (i64 at_0) (((s_0).length : Nat) : Int))) ∧ ((Int.tmod (i64 at_0) (((s_0).length : Nat) : Int)) < (((s_0).length : Nat) : Int)))) then (bif (!decide (((((List.getD s_0 ((Int.tmod (i64 at_0) (((s_0).length : Nat) : Int))).toNat 0)).toNat : Nat) : Int) = 47)) then (Option.bind (nameZone [(.s (((List.take ((Int.tmod (i64 at_0) (((s_0).length : Nat) : Int))).toNat (List.drop 0 s_0)) ++ s_1) ++ (List.take ((s_0).length - ((i64 ((Int.tmod (i64 at_0) (((s_0).length : Nat) : Int)) + 1))).toNat) (List.drop ((i64 ((Int.tmod (i64 at_0) (((s_0).length : Nat) : Int)) + 1))).toNat s_0))))]) fun r_1 =>
    onB r_1 fun b_4 ds_8 =>
    bif (!(b_4 == b_3)) then (some [(.b false)]) else
    (none)) else
   (none)) else none) else
  (none)) else none) else none) else none) else none) else none
noncomputable def F_law07_NameAmong : List Dat → Option (List Dat) := fun ds_0 =>
  onN ds_0 fun ln_0 ds_1 =>
  onL ds_1 fun ll_0 ds_2 =>
  onI ds_2 fun n_0 ds_3 =>
  Option.bind (F_law07_Letters [(.n ln_0), (.l ll_0), (.i (i64 (Int.tmod n_0 40))), (.i (i64 (Int.tmod n_0 40)))]) fun r_0 =>
  onS r_0 fun s_0 ds_4 =>
  bif (!decide ((((s_0).length : Nat) : Int) = (i64 (Int.tmod n_0 40)))) then (some [(.b false)]) else
  (Option.bind (F_name_Letter [(.s s_0)]) fun r_1 =>
   onB r_1 fun b_0 ds_5 =>
   bif (decide (1 ≤ (i64 (Int.tmod n_0 40)))) then (bif (decide ((i64 (Int.tmod n_0 40)) ≤ 4)) then (bif (!(b_0 == true)) then (some [(.b false)]) else
     (Option.bind (F_name_Abbr [(.s s_0)]) fun r_2 =>
      onB r_2 fun b_1 ds_6 =>
      bif (decide (3 ≤ (i64 (Int.tmod n_0 40)))) then (bif (decide ((i64 (Int.tmod n_0 40)) ≤ 6)) then (bif (!(b_1 == true)) then (some [(.b false)]) else
        (Option.bind (F_name_Set [(.s s_0)]) fun r_3 =>
         onB r_3 fun b_2 ds_7 =>
         bif (decide (1 ≤ (i64 (Int.tmod n_0 40)))) then (bif (decide ((i64 (Int.tmod n_0 40)) ≤ 30)) then (bif (!(b_2 == true)) then (some [(.b false)]) else
           (Option.bind (nameZone [(.s s_0)]) fun r_4 =>
            onB r_4 fun b_3 ds_8 =>
            bif (decide (1 ≤ (i64 (Int.tmod n_0 40)))) then (bif (decide ((i64 (Int.tmod n_0 40)) ≤ 14)) then (bif (!(b_3 == true)) then (some [(.b false)]) else
              (Option.bind (F_name_Letter [(.s s_0)]) fun r_5 =>
               onB r_5 fun b_4 ds_9 =>
               bif (!b_4) then (Option.bind (F_name_Set [(.s s_0)]) fun r_6 =>
                onB r_6 fun b_5 ds_10 =>
                bif (!b_5) then (Option.bind (F_law07_works []) fun r_7 =>
                 onB r_7 fun b_6 ds_11 =>
                 some [(.b b_6)]) else
                (bif (decide (14 < (((s_0).length : Nat) : Int))) then (Option.bind (F_law07_works []) fun r_8 =>
                  onB r_8 fun b_7 ds_12 =>
                  some [(.b b_7)]) else
                 (Option.bind (nameZone [(.s s_0)]) fun r_9 =>
                  onB r_9 fun b_8 ds_13 =>
                  bif b_8 then (Option.bind (F_law07_works []) fun r_10 =>
                   onB r_10 fun b_9 ds_14 =>
                   some [(.b b_9)]) else
                  (some [(.b false)])))) else
               (Option.bind (F_name_Set [(.s s_0)]) fun r_11 =>
                onB r_11 fun b_10 ds_15 =>
                bif b_10 then (Option.bind (F_name_Set [(.s s_0)]) fun r_12 =>
                 onB r_12 fun b_11 ds_16 =>
                 bif (!b_11) then (Option.bind (F_law07_works []) fun r_13 =>
                  onB r_13 fun b_12 ds_17 =>
                  some [(.b b_12)]) else
                 (bif (decide (14 < (((s_0).length : Nat) : Int))) then (Option.bind (F_law07_works []) fun r_14 =>
                   onB r_14 fun b_13 ds_18 =>
                   some [(.b b_13)]) else
                  (Option.bind (nameZone [(.s s_0)]) fun r_15 =>
                   onB r_15 fun b_14 ds_19 =>
                   bif b_14 then (Option.bind (F_law07_works []) fun r_16 =>
                    onB r_16 fun b_15 ds_20 =>
                    some [(.b b_15)]) else
                   (some [(.b false)])))) else
                (some [(.b false)])))) else
             (bif (!(b_3 == false)) then (some [(.b false)]) else
              (Option.bind (F_name_Letter [(.s s_0)]) fun r_17 =>
               onB r_17 fun b_16 ds_21 =>
               bif (!b_16) then (Option.bind (F_name_Set [(.s s_0)]) fun r_18 =>
                onB r_18 fun b_17 ds_22 =>
                bif (!b_17) then (Option.bind (F_law07_works []) fun r_19 =>
                 onB r_19 fun b_18 ds_23 =>
                 some [(.b b_18)]) else
                (bif (decide (14 < (((s_0).length : Nat) : Int))) then (Option.bind (F_law07_works []) fun r_20 =>
                  onB r_20 fun b_19 ds_24 =>
                  some [(.b b_19)]) else
                 (Option.bind (nameZone [(.s s_0)]) fun r_21 =>
                  onB r_21 fun b_20 ds_25 =>
                  bif b_20 then (Option.bind (F_law07_works []) fun r_22 =>
                   onB r_22 fun b_21 ds_26 =>
                   some [(.b b_21)]) else
                  (some [(.b false)])))) else
               (Option.bind (F_name_Set [(.s s_0)]) fun r_23 =>
                onB r_23 fun b_22 ds_27 =>
                bif b_22 then (Option.bind (F_name_Set [(.s s_0)]) fun r_24 =>
                 onB r_24 fun b_23 ds_28 =>
                 bif (!b_23) then (Option.bind (F_law07_works []) fun r_25 =>
                  onB r_25 fun b_24 ds_29 =>
                  some [(.b b_24)]) else
                 (bif (decide (14 < (((s_0).length : Nat) : Int))) then (Option.bind (F_law07_works []) fun r_26 =>
                   onB r_26 fun b_25 ds_30 =>
                   some [(.b b_25)]) else
                  (Option.bind (nameZone [(.s s_0)]) fun r_27 =>
                   onB r_27 fun b_26 ds_31 =>
                   bif b_26 then (Option.bind (F_law07_works []) fun r_28 =>
                    onB r_28 fun b_27 ds_32 =>
                    some [(.b b_27)]) else
                   (some [(.b false)])))) else
                (some [(.b false)]))))) else
            (bif (!(b_3 == false)) then (some [(.b false)]) else
             (Option.bind (F_name_Letter [(.s s_0)]) fun r_29 =>
              onB r_29 fun b_28 ds_33 =>
              bif (!b_28) then (Option.bind (F_name_Set [(.s s_0)]) fun r_30 =>
               onB r_30 fun b_29 ds_34 =>
               bif (!b_29) then (Option.bind (F_law07_works []) fun r_31 =>
                onB r_31 fun b_30 ds_35 =>
                some [(.b b_30)]) else
               (bif (decide (14 < (((s_0).length : Nat) : Int))) then (Option.bind (F_law07_works []) fun r_32 =>
                 onB r_32 fun b_31 ds_36 =>
                 some [(.b b_31)]) else
                (Option.bind (nameZone [(.s s_0)]) fun r_33 =>
                 onB r_33 fun b_32 ds_37 =>
                 bif b_32 then (Option.bind (F_law07_works []) fun r_34 =>
                  onB r_34 fun b_33 ds_38 =>
                  some [(.b b_33)]) else
                 (some [(.b false)])))) else
              (Option.bind (F_name_Set [(.s s_0)]) fun r_35 =>
               onB r_35 fun b_34 ds_39 =>
               bif b_34 then (Option.bind (F_name_Set [(.s s_0)]) fun r_36 =>
                onB r_36 fun b_35 ds_40 =>
                bif (!b_35) then (Option.bind (F_law07_works []) fun r_37 =>
                 onB r_37 fun b_36 ds_41 =>
                 some [(.b b_36)]) else
                (bif (decide (14 < (((s_0).length : Nat) : Int))) then (Option.bind (F_law07_works []) fun r_38 =>
                  onB r_38 fun b_37 ds_42 =>
                  some [(.b b_37)]) else
                 (Option.bind (nameZone [(.s s_0)]) fun r_39 =>
                  onB r_39 fun b_38 ds_43 =>
                  bif b_38 then (Option.bind (F_law07_works []) fun r_40 =>
                   onB r_40 fun b_39 ds_44 =>
                   some [(.b b_39)]) else
                  (some [(.b false)])))) else
               (some [(.b false)])))))) else
          (bif (!(b_2 == false)) then (some [(.b false)]) else
           (Option.bind (nameZone [(.s s_0)]) fun r_41 =>
            onB r_41 fun b_40 ds_45 =>
            bif (decide (1 ≤ (i64 (Int.tmod n_0 40)))) then (bif (decide ((i64 (Int.tmod n_0 40)) ≤ 14)) then (bif (!(b_40 == true)) then (some [(.b false)]) else
              (Option.bind (F_name_Letter [(.s s_0)]) fun r_42 =>
               onB r_42 fun b_41 ds_46 =>
               bif (!b_41) then (Option.bind (F_name_Set [(.s s_0)]) fun r_43 =>
                onB r_43 fun b_42 ds_47 =>
                bif (!b_42) then (Option.bind (F_law07_works []) fun r_44 =>
                 onB r_44 fun b_43 ds_48 =>
                 some [(.b b_43)]) else
                (bif (decide (14 < (((s_0).length : Nat) : Int))) then (Option.bind (F_law07_works []) fun r_45 =>
                  onB r_45 fun b_44 ds_49 =>
                  some [(.b b_44)]) else
                 (Option.bind (nameZone [(.s s_0)]) fun r_46 =>
                  onB r_46 fun b_45 ds_50 =>
                  bif b_45 then (Option.bind (F_law07_works []) fun r_47 =>
                   onB r_47 fun b_46 ds_51 =>
                   some [(.b b_46)]) else
                  (some [(.b false)])))) else
               (Option.bind (F_name_Set [(.s s_0)]) fun r_48 =>
                onB r_48 fun b_47 ds_52 =>
                bif b_47 then (Option.bind (F_name_Set [(.s s_0)]) fun r_49 =>
                 onB r_49 fun b_48 ds_53 =>
                 bif (!b_48) then (Option.bind (F_law07_works []) fun r_50 =>
                  onB r_50 fun b_49 ds_54 =>
                  some [(.b b_49)]) else
                 (bif (decide (14 < (((s_0).length : Nat) : Int))) then (Option.bind (F_law07_works []) fun r_51 =>
                   onB r_51 fun b_50 ds_55 =>
                   some [(.b b_50)]) else
                  (Option.bind (nameZone [(.s s_0)]) fun r_52 =>
                   onB r_52 fun b_51 ds_56 =>
                   bif b_51 then (Option.bind (F_law07_works []) fun r_53 =>
                    onB r_53 fun b_52 ds_57 =>
                    some [(.b b_52)]) else
                   (some [(.b false)])))) else
                (some [(.b false)])))) else
             (bif (!(b_40 == false)) then (some [(.b false)]) else
              (Option.bind (F_name_Letter [(.s s_0)]) fun r_54 =>
               onB r_54 fun b_53 ds_58 =>
               bif (!b_53) then (Option.bind (F_name_Set [(.s s_0)]) fun r_55 =>
                onB r_55 fun b_54 ds_59 =>
                bif (!b_54) then (Option.bind (F_law07_works []) fun r_56 =>
                 onB r_56 fun b_55 ds_60 =>
                 some [(.b b_55)]) else
                (bif (decide (14 < (((s_0).length : Nat) : Int))) then (Option.bind (F_law07_works []) fun r_57 =>
                  onB r_57 fun b_56 ds_61 =>
                  some [(.b b_56)]) else
                 (Option.bind (nameZone [(.s s_0)]) fun r_58 =>
                  onB r_58 fun b_57 ds_62 =>
                  bif b_57 then (Option.bind (F_law07_works []) fun r_59 =>
                   onB r_59 fun b_58 ds_63 =>
                   some [(.b b_58)]) else
                  (some [(.b false)])))) else
               (Option.bind (F_name_Set [(.s s_0)]) fun r_60 =>
                onB r_60 fun b_59 ds_64 =>
                bif b_59 then (Option.bind (F_name_Set [(.s s_0)]) fun r_61 =>
                 onB r_61 fun b_60 ds_65 =>
                 bif (!b_60) then (Option.bind (F_law07_works []) fun r_62 =>
                  onB r_62 fun b_61 ds_66 =>
                  some [(.b b_61)]) else
                 (bif (decide (14 < (((s_0).length : Nat) : Int))) then (Option.bind (F_law07_works []) fun r_63 =>
                   onB r_63 fun b_62 ds_67 =>
                   some [(.b b_62)]) else
                  (Option.bind (nameZone [(.s s_0)]) fun r_64 =>
                   onB r_64 fun b_63 ds_68 =>
                   bif b_63 then (Option.bind (F_law07_works []) fun r_65 =>
                    onB r_65 fun b_64 ds_69 =>
                    some [(.b b_64)]) else
                   (some [(.b false)])))) else
                (some [(.b false)]))))) else
            (bif (!(b_40 == false)) then (some [(.b false)]) else
             (Option.bind (F_name_Letter [(.s s_0)]) fun r_66 =>
              onB r_66 fun b_65 ds_70 =>
              bif (!b_65) then (Option.bind (F_name_Set [(.s s_0)]) fun r_67 =>
               onB r_67 fun b_66 ds_71 =>
               bif (!b_66) then (Option.bind (F_law07_works []) fun r_68 =>
                onB r_68 fun b_67 ds_72 =>
                some [(.b b_67)]) else
               (bif (decide (14 < (((s_0).length : Nat) : Int))) then (Option.bind (F_law07_works []) fun r_69 =>
                 onB r_69 fun b_68 ds_73 =>
                 some [(.b b_68)]) else
                (Option.bind (nameZone [(.s s_0)]) fun r_70 =>
                 onB r_70 fun b_69 ds_74 =>
                 bif b_69 then (Option.bind (F_law07_works []) fun r_71 =>
                  onB r_71 fun b_70 ds_75 =>
                  some [(.b b_70)]) else
                 (some [(.b false)])))) else
              (Option.bind (F_name_Set [(.s s_0)]) fun r_72 =>
               onB r_72 fun b_71 ds_76 =>
               bif b_71 then (Option.bind (F_name_Set [(.s s_0)]) fun r_73 =>
                onB r_73 fun b_72 ds_77 =>
                bif (!b_72) then (Option.bind (F_law07_works []) fun r_74 =>
                 onB r_74 fun b_73 ds_78 =>
                 some [(.b b_73)]) else
                (bif (decide (14 < (((s_0).length : Nat) : Int))) then (Option.bind (F_law07_works []) fun r_75 =>
                  onB r_75 fun b_74 ds_79 =>
                  some [(.b b_74)]) else
                 (Option.bind (nameZone [(.s s_0)]) fun r_76 =>
                  onB r_76 fun b_75 ds_80 =>
                  bif b_75 then (Option.bind (F_law07_works []) fun r_77 =>
                   onB r_77 fun b_76 ds_81 =>
                   some [(.b b_76)]) else
                  (some [(.b false)])))) else
               (some [(.b false)]))))))) else
         (bif (!(b_2 == false)) then (some [(.b false)]) else
          (Option.bind (nameZone [(.s s_0)]) fun r_78 =>
           onB r_78 fun b_77 ds_82 =>
           bif (decide (1 ≤ (i64 (Int.tmod n_0 40)))) then (bif (decide ((i64 (Int.tmod n_0 40)) ≤ 14)) then (bif (!(b_77 == true)) then (some [(.b false)]) else
             (Option.bind (F_name_Letter [(.s s_0)]) fun r_79 =>
              onB r_79 fun b_78 ds_83 =>
              bif (!b_78) then (Option.bind (F_name_Set [(.s s_0)]) fun r_80 =>
               onB r_80 fun b_79 ds_84 =>
               bif (!b_79) then (Option.bind (F_law07_works []) fun r_81 =>
                onB r_81 fun b_80 ds_85 =>
                some [(.b b_80)]) else
               (bif (decide (14 < (((s_0).length : Nat) : Int))) then (Option.bind (F_law07_works []) fun r_82 =>
                 onB r_82 fun b_81 ds_86 =>
                 some [(.b b_81)]) else
                (Option.bind (nameZone [(.s s_0)]) fun r_83 =>
                 onB r_83 fun b_82 ds_87 =>
                 bif b_82 then (Option.bind (F_law07_works []) fun r_84 =>
                  onB r_84 fun b_83 ds_88 =>
                  some [(.b b_83)]) else
                 (some [(.b false)])))) else
              (Option.bind (F_name_Set [(.s s_0)]) fun r_85 =>
               onB r_85 fun b_84 ds_89 =>
               bif b_84 then (Option.bind (F_name_Set [(.s s_0)]) fun r_86 =>
                onB r_86 fun b_85 ds_90 =>
                bif (!b_85) then (Option.bind (F_law07_works []) fun r_87 =>
                 onB r_87 fun b_86 ds_91 =>
                 some [(.b b_86)]) else
                (bif (decide (14 < (((s_0).length : Nat) : Int))) then (Option.bind (F_law07_works []) fun r_88 =>
                  onB r_88 fun b_87 ds_92 =>
                  some [(.b b_87)]) else
                 (Option.bind (nameZone [(.s s_0)]) fun r_89 =>
                  onB r_89 fun b_88 ds_93 =>
                  bif b_88 then (Option.bind (F_law07_works []) fun r_90 =>
                   onB r_90 fun b_89 ds_94 =>
                   some [(.b b_89)]) else
                  (some [(.b false)])))) else
               (some [(.b false)])))) else
            (bif (!(b_77 == false)) then (some [(.b false)]) else
             (Option.bind (F_name_Letter [(.s s_0)]) fun r_91 =>
              onB r_91 fun b_90 ds_95 =>
              bif (!b_90) then (Option.bind (F_name_Set [(.s s_0)]) fun r_92 =>
               onB r_92 fun b_91 ds_96 =>
               bif (!b_91) then (Option.bind (F_law07_works []) fun r_93 =>
                onB r_93 fun b_92 ds_97 =>
                some [(.b b_92)]) else
               (bif (decide (14 < (((s_0).length : Nat) : Int))) then (Option.bind (F_law07_works []) fun r_94 =>
                 onB r_94 fun b_93 ds_98 =>
                 some [(.b b_93)]) else
                (Option.bind (nameZone [(.s s_0)]) fun r_95 =>
                 onB r_95 fun b_94 ds_99 =>
                 bif b_94 then (Option.bind (F_law07_works []) fun r_96 =>
                  onB r_96 fun b_95 ds_100 =>
                  some [(.b b_95)]) else
                 (some [(.b false)])))) else
              (Option.bind (F_name_Set [(.s s_0)]) fun r_97 =>
               onB r_97 fun b_96 ds_101 =>
               bif b_96 then (Option.bind (F_name_Set [(.s s_0)]) fun r_98 =>
                onB r_98 fun b_97 ds_102 =>
                bif (!b_97) then (Option.bind (F_law07_works []) fun r_99 =>
                 onB r_99 fun b_98 ds_103 =>
                 some [(.b b_98)]) else
                (bif (decide (14 < (((s_0).length : Nat) : Int))) then (Option.bind (F_law07_works []) fun r_100 =>
                  onB r_100 fun b_99 ds_104 =>
                  some [(.b b_99)]) else
                 (Option.bind (nameZone [(.s s_0)]) fun r_101 =>
                  onB r_101 fun b_100 ds_105 =>
                  bif b_100 then (Option.bind (F_law07_works []) fun r_102 =>
                   onB r_102 fun b_101 ds_106 =>
                   some [(.b b_101)]) else
                  (some [(.b false)])))) else
               (some [(.b false)]))))) else
           (bif (!(b_77 == false)) then (some [(.b false)]) else
            (Option.bind (F_name_Letter [(.s s_0)]) fun r_103 =>
             onB r_103 fun b_102 ds_107 =>
             bif (!b_102) then (Option.bind (F_name_Set [(.s s_0)]) fun r_104 =>
              onB r_104 fun b_103 ds_108 =>
              bif (!b_103) then (Option.bind (F_law07_works []) fun r_105 =>
               onB r_105 fun b_104 ds_109 =>
               some [(.b b_104)]) else
              (bif (decide (14 < (((s_0).length : Nat) : Int))) then (Option.bind (F_law07_works []) fun r_106 =>
                onB r_106 fun b_105 ds_110 =>
                some [(.b b_105)]) else
               (Option.bind (nameZone [(.s s_0)]) fun r_107 =>
                onB r_107 fun b_106 ds_111 =>
                bif b_106 then (Option.bind (F_law07_works []) fun r_108 =>
                 onB r_108 fun b_107 ds_112 =>
                 some [(.b b_107)]) else
                (some [(.b false)])))) else
             (Option.bind (F_name_Set [(.s s_0)]) fun r_109 =>
              onB r_109 fun b_108 ds_113 =>
              bif b_108 then (Option.bind (F_name_Set [(.s s_0)]) fun r_110 =>
               onB r_110 fun b_109 ds_114 =>
               bif (!b_109) then (Option.bind (F_law07_works []) fun r_111 =>
                onB r_111 fun b_110 ds_115 =>
                some [(.b b_110)]) else
               (bif (decide (14 < (((s_0).length : Nat) : Int))) then (Option.bind (F_law07_works []) fun r_112 =>
                 onB r_112 fun b_111 ds_116 =>
                 some [(.b b_111)]) else
                (Option.bind (nameZone [(.s s_0)]) fun r_113 =>
                 onB r_113 fun b_112 ds_117 =>
                 bif b_112 then (Option.bind (F_law07_works []) fun r_114 =>
                  onB r_114 fun b_113 ds_118 =>
                  some [(.b b_113)]) else
                 (some [(.b false)])))) else
              (some [(.b false)])))))))) else
       (bif (!(b_1 == false)) then (some [(.b false)]) else
        (Option.bind (F_name_Set [(.s s_0)]) fun r_115 =>
         onB r_115 fun b_114 ds_119 =>
         bif (decide (1 ≤ (i64 (Int.tmod n_0 40)))) then (bif (decide ((i64 (Int.tmod n_0 40)) ≤ 30)) then (bif (!(b_114 == true)) then (some [(.b false)]) else
           (Option.bind (nameZone [(.s s_0)]) fun r_116 =>
            onB r_116 fun b_115 ds_120 =>
            bif (decide (1 ≤ (i64 (Int.tmod n_0 40)))) then (bif (decide ((i64 (Int.tmod n_0 40)) ≤ 14)) then (bif (!(b_115 == true)) then (some [(.b false)]) else
              (Option.bind (F_name_Letter [(.s s_0)]) fun r_117 =>
               onB r_117 fun b_116 ds_121 =>
               bif (!b_116) then (Option.bind (F_name_Set [(.s s_0)]) fun r_118 =>
                onB r_118 fun b_117 ds_122 =>
                bif (!b_117) then (Option.bind (F_law07_works []) fun r_119 =>
                 onB r_119 fun b_118 ds_123 =>
                 some [(.b b_118)]) else
                (bif (decide (14 < (((s_0).length : Nat) : Int))) then (Option.bind (F_law07_works []) fun r_120 =>
                  onB r_120 fun b_119 ds_124 =>
                  some [(.b b_119)]) else
                 (Option.bind (nameZone [(.s s_0)]) fun r_121 =>
                  onB r_121 fun b_120 ds_125 =>
                  bif b_120 then (Option.bind (F_law07_works []) fun r_122 =>
                   onB r_122 fun b_121 ds_126 =>
                   some [(.b b_121)]) else
                  (some [(.b false)])))) else
               (Option.bind (F_name_Set [(.s s_0)]) fun r_123 =>
                onB r_123 fun b_122 ds_127 =>
                bif b_122 then (Option.bind (F_name_Set [(.s s_0)]) fun r_124 =>
                 onB r_124 fun b_123 ds_128 =>
                 bif (!b_123) then (Option.bind (F_law07_works []) fun r_125 =>
                  onB r_125 fun b_124 ds_129 =>
                  some [(.b b_124)]) else
                 (bif (decide (14 < (((s_0).length : Nat) : Int))) then (Option.bind (F_law07_works []) fun r_126 =>
                   onB r_126 fun b_125 ds_130 =>
                   some [(.b b_125)]) else
                  (Option.bind (nameZone [(.s s_0)]) fun r_127 =>
                   onB r_127 fun b_126 ds_131 =>
                   bif b_126 then (Option.bind (F_law07_works []) fun r_128 =>
                    onB r_128 fun b_127 ds_132 =>
                    some [(.b b_127)]) else
                   (some [(.b false)])))) else
                (some [(.b false)])))) else
             (bif (!(b_115 == false)) then (some [(.b false)]) else
              (Option.bind (F_name_Letter [(.s s_0)]) fun r_129 =>
               onB r_129 fun b_128 ds_133 =>
               bif (!b_128) then (Option.bind (F_name_Set [(.s s_0)]) fun r_130 =>
                onB r_130 fun b_129 ds_134 =>
                bif (!b_129) then (Option.bind (F_law07_works []) fun r_131 =>
                 onB r_131 fun b_130 ds_135 =>
                 some [(.b b_130)]) else
                (bif (decide (14 < (((s_0).length : Nat) : Int))) then (Option.bind (F_law07_works []) fun r_132 =>
                  onB r_132 fun b_131 ds_136 =>
                  some [(.b b_131)]) else
                 (Option.bind (nameZone [(.s s_0)]) fun r_133 =>
                  onB r_133 fun b_132 ds_137 =>
                  bif b_132 then (Option.bind (F_law07_works []) fun r_134 =>
                   onB r_134 fun b_133 ds_138 =>
                   some [(.b b_133)]) else
                  (some [(.b false)])))) else
               (Option.bind (F_name_Set [(.s s_0)]) fun r_135 =>
                onB r_135 fun b_134 ds_139 =>
                bif b_134 then (Option.bind (F_name_Set [(.s s_0)]) fun r_136 =>
                 onB r_136 fun b_135 ds_140 =>
                 bif (!b_135) then (Option.bind (F_law07_works []) fun r_137 =>
                  onB r_137 fun b_136 ds_141 =>
                  some [(.b b_136)]) else
                 (bif (decide (14 < (((s_0).length : Nat) : Int))) then (Option.bind (F_law07_works []) fun r_138 =>
                   onB r_138 fun b_137 ds_142 =>
                   some [(.b b_137)]) else
                  (Option.bind (nameZone [(.s s_0)]) fun r_139 =>
                   onB r_139 fun b_138 ds_143 =>
                   bif b_138 then (Option.bind (F_law07_works []) fun r_140 =>
                    onB r_140 fun b_139 ds_144 =>
                    some [(.b b_139)]) else
                   (some [(.b false)])))) else
                (some [(.b false)]))))) else
            (bif (!(b_115 == false)) then (some [(.b false)]) else
             (Option.bind (F_name_Letter [(.s s_0)]) fun r_141 =>
              onB r_141 fun b_140 ds_145 =>
              bif (!b_140) then (Option.bind (F_name_Set [(.s s_0)]) fun r_142 =>
               onB r_142 fun b_141 ds_146 =>
               bif (!b_141) then (Option.bind (F_law07_works []) fun r_143 =>
                onB r_143 fun b_142 ds_147 =>
                some [(.b b_142)]) else
               (bif (decide (14 < (((s_0).length : Nat) : Int))) then (Option.bind (F_law07_works []) fun r_144 =>
                 onB r_144 fun b_143 ds_148 =>
                 some [(.b b_143)]) else
                (Option.bind (nameZone [(.s s_0)]) fun r_145 =>
                 onB r_145 fun b_144 ds_149 =>
                 bif b_144 then (Option.bind (F_law07_works []) fun r_146 =>
                  onB r_146 fun b_145 ds_150 =>
                  some [(.b b_145)]) else
                 (some [(.b false)])))) else
              (Option.bind (F_name_Set [(.s s_0)]) fun r_147 =>
               onB r_147 fun b_146 ds_151 =>
               bif b_146 then (Option.bind (F_name_Set [(.s s_0)]) fun r_148 =>
                onB r_148 fun b_147 ds_152 =>
                bif (!b_147) then (Option.bind (F_law07_works []) fun r_149 =>
                 onB r_149 fun b_148 ds_153 =>
                 some [(.b b_148)]) else
                (bif (decide (14 < (((s_0).length : Nat) : Int))) then (Option.bind (F_law07_works []) fun r_150 =>
                  onB r_150 fun b_149 ds_154 =>
                  some [(.b b_149)]) else
                 (Option.bind (nameZone [(.s s_0)]) fun r_151 =>
                  onB r_151 fun b_150 ds_155 =>
                  bif b_150 then (Option.bind (F_law07_works []) fun r_152 =>
                   onB r_152 fun b_151 ds_156 =>
                   some [(.b b_151)]) else
                  (some [(.b false)])))) else
               (some [(.b false)])))))) else
          (bif (!(b_114 == false)) then (some [(.b false)]) else
           (Option.bind (nameZone [(.s s_0)]) fun r_153 =>
            onB r_153 fun b_152 ds_157 =>
            bif (decide (1 ≤ (i64 (Int.tmod n_0 40)))) then (bif (decide ((i64 (Int.tmod n_0 40)) ≤ 14)) then (bif (!(b_152 == true)) then (some [(.b false)]) else
              (Option.bind (F_name_Letter [(.s s_0)]) fun r_154 =>
               onB r_154 fun b_153 ds_158 =>
               bif (!b_153) then (Option.bind (F_name_Set [(.s s_0)]) fun r_155 =>
                onB r_155 fun b_154 ds_159 =>
                bif (!b_154) then (Option.bind (F_law07_works []) fun r_156 =>
                 onB r_156 fun b_155 ds_160 =>
                 some [(.b b_155)]) else
                (bif (decide (14 < (((s_0).length : Nat) : Int))) then (Option.bind (F_law07_works []) fun r_157 =>
                  onB r_157 fun b_156 ds_161 =>
                  some [(.b b_156)]) else
                 (Option.bind (nameZone [(.s s_0)]) fun r_158 =>
                  onB r_158 fun b_157 ds_162 =>
                  bif b_157 then (Option.bind (F_law07_works []) fun r_159 =>
                   onB r_159 fun b_158 ds_163 =>
                   some [(.b b_158)]) else
                  (some [(.b false)])))) else
               (Option.bind (F_name_Set [(.s s_0)]) fun r_160 =>
                onB r_160 fun b_159 ds_164 =>
                bif b_159 then (Option.bind (F_name_Set [(.s s_0)]) fun r_161 =>
                 onB r_161 fun b_160 ds_165 =>
                 bif (!b_160) then (Option.bind (F_law07_works []) fun r_162 =>
                  onB r_162 fun b_161 ds_166 =>
                  some [(.b b_161)]) else
                 (bif (decide (14 < (((s_0).length : Nat) : Int))) then (Option.bind (F_law07_works []) fun r_163 =>
                   onB r_163 fun b_162 ds_167 =>
                   some [(.b b_162)]) else
                  (Option.bind (nameZone [(.s s_0)]) fun r_164 =>
                   onB r_164 fun b_163 ds_168 =>
                   bif b_163 then (Option.bind (F_law07_works []) fun r_165 =>
                    onB r_165 fun b_164 ds_169 =>
                    some [(.b b_164)]) else
                   (some [(.b false)])))) else
                (some [(.b false)])))) else
             (bif (!(b_152 == false)) then (some [(.b false)]) else
              (Option.bind (F_name_Letter [(.s s_0)]) fun r_166 =>
               onB r_166 fun b_165 ds_170 =>
               bif (!b_165) then (Option.bind (F_name_Set [(.s s_0)]) fun r_167 =>
                onB r_167 fun b_166 ds_171 =>
                bif (!b_166) then (Option.bind (F_law07_works []) fun r_168 =>
                 onB r_168 fun b_167 ds_172 =>
                 some [(.b b_167)]) else
                (bif (decide (14 < (((s_0).length : Nat) : Int))) then (Option.bind (F_law07_works []) fun r_169 =>
                  onB r_169 fun b_168 ds_173 =>
                  some [(.b b_168)]) else
                 (Option.bind (nameZone [(.s s_0)]) fun r_170 =>
                  onB r_170 fun b_169 ds_174 =>
                  bif b_169 then (Option.bind (F_law07_works []) fun r_171 =>
                   onB r_171 fun b_170 ds_175 =>
                   some [(.b b_170)]) else
                  (some [(.b false)])))) else
               (Option.bind (F_name_Set [(.s s_0)]) fun r_172 =>
                onB r_172 fun b_171 ds_176 =>
                bif b_171 then (Option.bind (F_name_Set [(.s s_0)]) fun r_173 =>
                 onB r_173 fun b_172 ds_177 =>
                 bif (!b_172) then (Option.bind (F_law07_works []) fun r_174 =>
                  onB r_174 fun b_173 ds_178 =>
                  some [(.b b_173)]) else
                 (bif (decide (14 < (((s_0).length : Nat) : Int))) then (Option.bind (F_law07_works []) fun r_175 =>
                   onB r_175 fun b_174 ds_179 =>
                   some [(.b b_174)]) else
                  (Option.bind (nameZone [(.s s_0)]) fun r_176 =>
                   onB r_176 fun b_175 ds_180 =>
                   bif b_175 then (Option.bind (F_law07_works []) fun r_177 =>
                    onB r_177 fun b_176 ds_181 =>
                    some [(.b b_176)]) else
                   (some [(.b false)])))) else
                (some [(.b false)]))))) else
            (bif (!(b_152 == false)) then (some [(.b false)]) else
             (Option.bind (F_name_Letter [(.s s_0)]) fun r_178 =>
              onB r_178 fun b_177 ds_182 =>
              bif (!b_177) then (Option.bind (F_name_Set [(.s s_0)]) fun r_179 =>
               onB r_179 fun b_178 ds_183 =>
               bif (!b_178) then (Option.bind (F_law07_works []) fun r_180 =>
                onB r_180 fun b_179 ds_184 =>
                some [(.b b_179)]) else
               (bif (decide (14 < (((s_0).length : Nat) : Int))) then (Option.bind (F_law07_works []) fun r_181 =>
                 onB r_181 fun b_180 ds_185 =>
                 some [(.b b_180)]) else
                (Option.bind (nameZone [(.s s_0)]) fun r_182 =>
                 onB r_182 fun b_181 ds_186 =>
                 bif b_181 then (Option.bind (F_law07_works []) fun r_183 =>
                  onB r_183 fun b_182 ds_187 =>
                  some [(.b b_182)]) else
                 (some [(.b false)])))) else
              (Option.bind (F_name_Set [(.s s_0)]) fun r_184 =>
               onB r_184 fun b_183 ds_188 =>
               bif b_183 then (Option.bind (F_name_Set [(.s s_0)]) fun r_185 =>
                onB r_185 fun b_184 ds_189 =>
                bif (!b_184) then (Option.bind (F_law07_works []) fun r_186 =>
                 onB r_186 fun b_185 ds_190 =>
                 some [(.b b_185)]) else
                (bif (decide (14 < (((s_0).length : Nat) : Int))) then (Option.bind (F_law07_works []) fun r_187 =>
                  onB r_187 fun b_186 ds_191 =>
                  some [(.b b_186)]) else
                 (Option.bind (nameZone [(.s s_0)]) fun r_188 =>
                  onB r_188 fun b_187 ds_192 =>
                  bif b_187 then (Option.bind (F_law07_works []) fun r_189 =>
                   onB r_189 fun b_188 ds_193 =>
                   some [(.b b_188)]) else
                  (some [(.b false)])))) else
               (some [(.b false)]))))))) else
         (bif (!(b_114 == false)) then (some [(.b false)]) else
          (Option.bind (nameZone [(.s s_0)]) fun r_190 =>
           onB r_190 fun b_189 ds_194 =>
           bif (decide (1 ≤ (i64 (Int.tmod n_0 40)))) then (bif (decide ((i64 (Int.tmod n_0 40)) ≤ 14)) then (bif (!(b_189 == true)) then (some [(.b false)]) else
             (Option.bind (F_name_Letter [(.s s_0)]) fun r_191 =>
              onB r_191 fun b_190 ds_195 =>
              bif (!b_190) then (Option.bind (F_name_Set [(.s s_0)]) fun r_192 =>
               onB r_192 fun b_191 ds_196 =>
               bif (!b_191) then (Option.bind (F_law07_works []) fun r_193 =>
                onB r_193 fun b_192 ds_197 =>
                some [(.b b_192)]) else
               (bif (decide (14 < (((s_0).length : Nat) : Int))) then (Option.bind (F_law07_works []) fun r_194 =>
                 onB r_194 fun b_193 ds_198 =>
                 some [(.b b_193)]) else
                (Option.bind (nameZone [(.s s_0)]) fun r_195 =>
                 onB r_195 fun b_194 ds_199 =>
                 bif b_194 then (Option.bind (F_law07_works []) fun r_196 =>
                  onB r_196 fun b_195 ds_200 =>
                  some [(.b b_195)]) else
                 (some [(.b false)])))) else
              (Option.bind (F_name_Set [(.s s_0)]) fun r_197 =>
               onB r_197 fun b_196 ds_201 =>
               bif b_196 then (Option.bind (F_name_Set [(.s s_0)]) fun r_198 =>
                onB r_198 fun b_197 ds_202 =>
                bif (!b_197) then (Option.bind (F_law07_works []) fun r_199 =>
                 onB r_199 fun b_198 ds_203 =>
                 some [(.b b_198)]) else
                (bif (decide (14 < (((s_0).length : Nat) : Int))) then (Option.bind (F_law07_works []) fun r_200 =>
                  onB r_200 fun b_199 ds_204 =>
                  some [(.b b_199)]) else
                 (Option.bind (nameZone [(.s s_0)]) fun r_201 =>
                  onB r_201 fun b_200 ds_205 =>
                  bif b_200 then (Option.bind (F_law07_works []) fun r_202 =>
                   onB r_202 fun b_201 ds_206 =>
                   some [(.b b_201)]) else
                  (some [(.b false)])))) else
               (some [(.b false)])))) else
            (bif (!(b_189 == false)) then (some [(.b false)]) else
             (Option.bind (F_name_Letter [(.s s_0)]) fun r_203 =>
              onB r_203 fun b_202 ds_207 =>
              bif (!b_202) then (Option.bind (F_name_Set [(.s s_0)]) fun r_204 =>
               onB r_204 fun b_203 ds_208 =>
               bif (!b_203) then (Option.bind (F_law07_works []) fun r_205 =>
                onB r_205 fun b_204 ds_209 =>
                some [(.b b_204)]) else
               (bif (decide (14 < (((s_0).length : Nat) : Int))) then (Option.bind (F_law07_works []) fun r_206 =>
                 onB r_206 fun b_205 ds_210 =>
                 some [(.b b_205)]) else
                (Option.bind (nameZone [(.s s_0)]) fun r_207 =>
                 onB r_207 fun b_206 ds_211 =>
                 bif b_206 then (Option.bind (F_law07_works []) fun r_208 =>
                  onB r_208 fun b_207 ds_212 =>
                  some [(.b b_207)]) else
                 (some [(.b false)])))) else
              (Option.bind (F_name_Set [(.s s_0)]) fun r_209 =>
               onB r_209 fun b_208 ds_213 =>
               bif b_208 then (Option.bind (F_name_Set [(.s s_0)]) fun r_210 =>
                onB r_210 fun b_209 ds_214 =>
                bif (!b_209) then (Option.bind (F_law07_works []) fun r_211 =>
                 onB r_211 fun b_210 ds_215 =>
                 some [(.b b_210)]) else
                (bif (decide (14 < (((s_0).length : Nat) : Int))) then (Option.bind (F_law07_works []) fun r_212 =>
                  onB r_212 fun b_211 ds_216 =>
                  some [(.b b_211)]) else
                 (Option.bind (nameZone [(.s s_0)]) fun r_213 =>
                  onB r_213 fun b_212 ds_217 =>
                  bif b_212 then (Option.bind (F_law07_works []) fun r_214 =>
                   onB r_214 fun b_213 ds_218 =>
                   some [(.b b_213)]) else
                  (some [(.b false)])))) else
               (some [(.b false)]))))) else
           (bif (!(b_189 == false)) then (some [(.b false)]) else
            (Option.bind (F_name_Letter [(.s s_0)]) fun r_215 =>
             onB r_215 fun b_214 ds_219 =>
             bif (!b_214) then (Option.bind (F_name_Set [(.s s_0)]) fun r_216 =>
              onB r_216 fun b_215 ds_220 =>
              bif (!b_215) then (Option.bind (F_law07_works []) fun r_217 =>
               onB r_217 fun b_216 ds_221 =>
               some [(.b b_216)]) else
              (bif (decide (14 < (((s_0).length : Nat) : Int))) then (Option.bind (F_law07_works []) fun r_218 =>
                onB r_218 fun b_217 ds_222 =>
                some [(.b b_217)]) else
               (Option.bind (nameZone [(.s s_0)]) fun r_219 =>
                onB r_219 fun b_218 ds_223 =>
                bif b_218 then (Option.bind (F_law07_works []) fun r_220 =>
                 onB r_220 fun b_219 ds_224 =>
                 some [(.b b_219)]) else
                (some [(.b false)])))) else
             (Option.bind (F_name_Set [(.s s_0)]) fun r_221 =>
              onB r_221 fun b_220 ds_225 =>
              bif b_220 then (Option.bind (F_name_Set [(.s s_0)]) fun r_222 =>
               onB r_222 fun b_221 ds_226 =>
               bif (!b_221) then (Option.bind (F_law07_works []) fun r_223 =>
                onB r_223 fun b_222 ds_227 =>
                some [(.b b_222)]) else
               (bif (decide (14 < (((s_0).length : Nat) : Int))) then (Option.bind (F_law07_works []) fun r_224 =>
                 onB r_224 fun b_223 ds_228 =>
                 some [(.b b_223)]) else
                (Option.bind (nameZone [(.s s_0)]) fun r_225 =>
                 onB r_225 fun b_224 ds_229 =>
                 bif b_224 then (Option.bind (F_law07_works []) fun r_226 =>
                  onB r_226 fun b_225 ds_230 =>
                  some [(.b b_225)]) else
                 (some [(.b false)])))) else
              (some [(.b false)]))))))))) else
      (bif (!(b_1 == false)) then (some [(.b false)]) else
       (Option.bind (F_name_Set [(.s s_0)]) fun r_227 =>
        onB r_227 fun b_226 ds_231 =>
        bif (decide (1 ≤ (i64 (Int.tmod n_0 40)))) then (bif (decide ((i64 (Int.tmod n_0 40)) ≤ 30)) then (bif (!(b_226 == true)) then (some [(.b false)]) else
          (Option.bind (nameZone [(.s s_0)]) fun r_228 =>
           onB r_228 fun b_227 ds_232 =>
           bif (decide (1 ≤ (i64 (Int.tmod n_0 40)))) then (bif (decide ((i64 (Int.tmod n_0 40)) ≤ 14)) then (bif (!(b_227 == true)) then (some [(.b false)]) else
             (Option.bind (F_name_Letter [(.s s_0)]) fun r_229 =>
              onB r_229 fun b_228 ds_233 =>
              bif (!b_228) then (Option.bind (F_name_Set [(.s s_0)]) fun r_230 =>
               onB r_230 fun b_229 ds_234 =>
               bif (!b_229) then (Option.bind (F_law07_works []) fun r_231 =>
                onB r_231 fun b_230 ds_235 =>
                some [(.b b_230)]) else
               (bif (decide (14 < (((s_0).length : Nat) : Int))) then (Option.bind (F_law07_works []) fun r_232 =>
                 onB r_232 fun b_231 ds_236 =>
                 some [(.b b_231)]) else
                (Option.bind (nameZone [(.s s_0)]) fun r_233 =>
                 onB r_233 fun b_232 ds_237 =>
                 bif b_232 then (Option.bind (F_law07_works []) fun r_234 =>
                  onB r_234 fun b_233 ds_238 =>
                  some [(.b b_233)]) else
                 (some [(.b false)])))) else
              (Option.bind (F_name_Set [(.s s_0)]) fun r_235 =>
               onB r_235 fun b_234 ds_239 =>
               bif b_234 then (Option.bind (F_name_Set [(.s s_0)]) fun r_236 =>
                onB r_236 fun b_235 ds_240 =>
                bif (!b_235) then (Option.bind (F_law07_works []) fun r_237 =>
                 onB r_237 fun b_236 ds_241 =>
                 some [(.b b_236)]) else
                (bif (decide (14 < (((s_0).length : Nat) : Int))) then (Option.bind (F_law07_works []) fun r_238 =>
                  onB r_238 fun b_237 ds_242 =>
                  some [(.b b_237)]) else
                 (Option.bind (nameZone [(.s s_0)]) fun r_239 =>
                  onB r_239 fun b_238 ds_243 =>
                  bif b_238 then (Option.bind (F_law07_works []) fun r_240 =>
                   onB r_240 fun b_239 ds_244 =>
                   some [(.b b_239)]) else
                  (some [(.b false)])))) else
               (some [(.b false)])))) else
            (bif (!(b_227 == false)) then (some [(.b false)]) else
             (Option.bind (F_name_Letter [(.s s_0)]) fun r_241 =>
              onB r_241 fun b_240 ds_245 =>
              bif (!b_240) then (Option.bind (F_name_Set [(.s s_0)]) fun r_242 =>
               onB r_242 fun b_241 ds_246 =>
               bif (!b_241) then (Option.bind (F_law07_works []) fun r_243 =>
                onB r_243 fun b_242 ds_247 =>
                some [(.b b_242)]) else
               (bif (decide (14 < (((s_0).length : Nat) : Int))) then (Option.bind (F_law07_works []) fun r_244 =>
                 onB r_244 fun b_243 ds_248 =>
                 some [(.b b_243)]) else
                (Option.bind (nameZone [(.s s_0)]) fun r_245 =>
                 onB r_245 fun b_244 ds_249 =>
                 bif b_244 then (Option.bind (F_law07_works []) fun r_246 =>
                  onB r_246 fun b_245 ds_250 =>
                  some [(.b b_245)]) else
                 (some [(.b false)])))) else
              (Option.bind (F_name_Set [(.s s_0)]) fun r_247 =>
               onB r_247 fun b_246 ds_251 =>
               bif b_246 then (Option.bind (F_name_Set [(.s s_0)]) fun r_248 =>
                onB r_248 fun b_247 ds_252 =>
                bif (!b_247) then (Option.bind (F_law07_works []) fun r_249 =>
                 onB r_249 fun b_248 ds_253 =>
                 some [(.b b_248)]) else
                (bif (decide (14 < (((s_0).length : Nat) : Int))) then (Option.bind (F_law07_works []) fun r_250 =>
                  onB r_250 fun b_249 ds_254 =>
                  some [(.b b_249)]) else
                 (Option.bind (nameZone [(.s s_0)]) fun r_251 =>
                  onB r_251 fun b_250 ds_255 =>
                  bif b_250 then (Option.bind (F_law07_works []) fun r_252 =>
                   onB r_252 fun b_251 ds_256 =>
                   some [(.b b_251)]) else
                  (some [(.b false)])))) else
               (some [(.b false)]))))) else
           (bif (!(b_227 == false)) then (some [(.b false)]) else
            (Option.bind (F_name_Letter [(.s s_0)]) fun r_253 =>
             onB r_253 fun b_252 ds_257 =>
             bif (!b_252) then (Option.bind (F_name_Set [(.s s_0)]) fun r_254 =>
              onB r_254 fun b_253 ds_258 =>
              bif (!b_253) then (Option.bind (F_law07_works []) fun r_255 =>
               onB r_255 fun b_254 ds_259 =>
               some [(.b b_254)]) else
              (bif (decide (14 < (((s_0).length : Nat) : Int))) then (Option.bind (F_law07_works []) fun r_256 =>
                onB r_256 fun b_255 ds_260 =>
                some [(.b b_255)]) else
               (Option.bind (nameZone [(.s s_0)]) fun r_257 =>
                onB r_257 fun b_256 ds_261 =>
                bif b_256 then (Option.bind (F_law07_works []) fun r_258 =>
                 onB r_258 fun b_257 ds_262 =>
                 some [(.b b_257)]) else
                (some [(.b false)])))) else
             (Option.bind (F_name_Set [(.s s_0)]) fun r_259 =>
              onB r_259 fun b_258 ds_263 =>
              bif b_258 then (Option.bind (F_name_Set [(.s s_0)]) fun r_260 =>
               onB r_260 fun b_259 ds_264 =>
               bif (!b_259) then (Option.bind (F_law07_works []) fun r_261 =>
                onB r_261 fun b_260 ds_265 =>
                some [(.b b_260)]) else
               (bif (decide (14 < (((s_0).length : Nat) : Int))) then (Option.bind (F_law07_works []) fun r_262 =>
                 onB r_262 fun b_261 ds_266 =>
                 some [(.b b_261)]) else
                (Option.bind (nameZone [(.s s_0)]) fun r_263 =>
                 onB r_263 fun b_262 ds_267 =>
                 bif b_262 then (Option.bind (F_law07_works []) fun r_264 =>
                  onB r_264 fun b_263 ds_268 =>
                  some [(.b b_263)]) else
                 (some [(.b false)])))) else
              (some [(.b false)])))))) else
         (bif (!(b_226 == false)) then (some [(.b false)]) else
          (Option.bind (nameZone [(.s s_0)]) fun r_265 =>
           onB r_265 fun b_264 ds_269 =>
           bif (decide (1 ≤ (i64 (Int.tmod n_0 40)))) then (bif (decide ((i64 (Int.tmod n_0 40)) ≤ 14)) then (bif (!(b_264 == true)) then (some [(.b false)]) else
             (Option.bind (F_name_Letter [(.s s_0)]) fun r_266 =>
              onB r_266 fun b_265 ds_270 =>
              bif (!b_265) then (Option.bind (F_name_Set [(.s s_0)]) fun r_267 =>
               onB r_267 fun b_266 ds_271 =>
               bif (!b_266) then (Option.bind (F_law07_works []) fun r_268 =>
                onB r_268 fun b_267 ds_272 =>
                some [(.b b_267)]) else
               (bif (decide (14 < (((s_0).length : Nat) : Int))) then (Option.bind (F_law07_works []) fun r_269 =>
                 onB r_269 fun b_268 ds_273 =>
                 some [(.b b_268)]) else
                (Option.bind (nameZone [(.s s_0)]) fun r_270 =>
                 onB r_270 fun b_269 ds_274 =>
                 bif b_269 then (Option.bind (F_law07_works []) fun r_271 =>
                  onB r_271 fun b_270 ds_275 =>
                  some [(.b b_270)]) else
                 (some [(.b false)])))) else
              (Option.bind (F_name_Set [(.s s_0)]) fun r_272 =>
               onB r_272 fun b_271 ds_276 =>
               bif b_271 then (Option.bind (F_name_Set [(.s s_0)]) fun r_273 =>
                onB r_273 fun b_272 ds_277 =>
                bif (!b_272) then (Option.bind (F_law07_works []) fun r_274 =>
                 onB r_274 fun b_273 ds_278 =>
                 some [(.b b_273)]) else
                (bif (decide (14 < (((s_0).length : Nat) : Int))) then (Option.bind (F_law07_works []) fun r_275 =>
                  onB r_275 fun b_274 ds_279 =>
                  some [(.b b_274)]) else
                 (Option.bind (nameZone [(.s s_0)]) fun r_276 =>
                  onB r_276 fun b_275 ds_280 =>
                  bif b_275 then (Option.bind (F_law07_works []) fun r_277 =>
                   onB r_277 fun b_276 ds_281 =>
                   some [(.b b_276)]) else
                  (some [(.b false)])))) else
               (some [(.b false)])))) else
            (bif (!(b_264 == false)) then (some [(.b false)]) else
             (Option.bind (F_name_Letter [(.s s_0)]) fun r_278 =>
              onB r_278 fun b_277 ds_282 =>
              bif (!b_277) then (Option.bind (F_name_Set [(.s s_0)]) fun r_279 =>
               onB r_279 fun b_278 ds_283 =>
               bif (!b_278) then (Option.bind (F_law07_works []) fun r_280 =>
                onB r_280 fun b_279 ds_284 =>
                some [(.b b_279)]) else
               (bif (decide (14 < (((s_0).length : Nat) : Int))) then (Option.bind (F_law07_works []) fun r_281 =>
                 onB r_281 fun b_280 ds_285 =>
                 some [(.b b_280)]) else
                (Option.bind (nameZone [(.s s_0)]) fun r_282 =>
                 onB r_282 fun b_281 ds_286 =>
                 bif b_281 then (Option.bind (F_law07_works []) fun r_283 =>
                  onB r_283 fun b_282 ds_287 =>
                  some [(.b b_282)]) else
                 (some [(.b false)])))) else
              (Option.bind (F_name_Set [(.s s_0)]) fun r_284 =>
               onB r_284 fun b_283 ds_288 =>
               bif b_283 then (Option.bind (F_name_Set [(.s s_0)]) fun r_285 =>
                onB r_285 fun b_284 ds_289 =>
                bif (!b_284) then (Option.bind (F_law07_works []) fun r_286 =>
                 onB r_286 fun b_285 ds_290 =>
                 some [(.b b_285)]) else
                (bif (decide (14 < (((s_0).length : Nat) : Int))) then (Option.bind (F_law07_works []) fun r_287 =>
                  onB r_287 fun b_286 ds_291 =>
                  some [(.b b_286)]) else
                 (Option.bind (nameZone [(.s s_0)]) fun r_288 =>
                  onB r_288 fun b_287 ds_292 =>
                  bif b_287 then (Option.bind (F_law07_works []) fun r_289 =>
                   onB r_289 fun b_288 ds_293 =>
                   some [(.b b_288)]) else
                  (some [(.b false)])))) else
               (some [(.b false)]))))) else
           (bif (!(b_264 == false)) then (some [(.b false)]) else
            (Option.bind (F_name_Letter [(.s s_0)]) fun r_290 =>
             onB r_290 fun b_289 ds_294 =>
             bif (!b_289) then (Option.bind (F_name_Set [(.s s_0)]) fun r_291 =>
              onB r_291 fun b_290 ds_295 =>
              bif (!b_290) then (Option.bind (F_law07_works []) fun r_292 =>
               onB r_292 fun b_291 ds_296 =>
               some [(.b b_291)]) else
              (bif (decide (14 < (((s_0).length : Nat) : Int))) then (Option.bind (F_law07_works []) fun r_293 =>
                onB r_293 fun b_292 ds_297 =>
                some [(.b b_292)]) else
               (Option.bind (nameZone [(.s s_0)]) fun r_294 =>
                onB r_294 fun b_293 ds_298 =>
                bif b_293 then (Option.bind (F_law07_works []) fun r_295 =>
                 onB r_295 fun b_294 ds_299 =>
                 some [(.b b_294)]) else
                (some [(.b false)])))) else
             (Option.bind (F_name_Set [(.s s_0)]) fun r_296 =>
              onB r_296 fun b_295 ds_300 =>
              bif b_295 then (Option.bind (F_name_Set [(.s s_0)]) fun r_297 =>
               onB r_297 fun b_296 ds_301 =>
               bif (!b_296) then (Option.bind (F_law07_works []) fun r_298 =>
                onB r_298 fun b_297 ds_302 =>
                some [(.b b_297)]) else
               (bif (decide (14 < (((s_0).length : Nat) : Int))) then (Option.bind (F_law07_works []) fun r_299 =>
                 onB r_299 fun b_298 ds_303 =>
                 some [(.b b_298)]) else
                (Option.bind (nameZone [(.s s_0)]) fun r_300 =>
                 onB r_300 fun b_299 ds_304 =>
                 bif b_299 then (Option.bind (F_law07_works []) fun r_301 =>
                  onB r_301 fun b_300 ds_305 =>
                  some [(.b b_300)]) else
                 (some [(.b false)])))) else
              (some [(.b false)]))))))) else
        (bif (!(b_226 == false)) then (some [(.b false)]) else
         (Option.bind (nameZone [(.s s_0)]) fun r_302 =>
          onB r_302 fun b_301 ds_306 =>
          bif (decide (1 ≤ (i64 (Int.tmod n_0 40)))) then (bif (decide ((i64 (Int.tmod n_0 40)) ≤ 14)) then (bif (!(b_301 == true)) then (some [(.b false)]) else
            (Option.bind (F_name_Letter [(.s s_0)]) fun r_303 =>
             onB r_303 fun b_302 ds_307 =>
             bif (!b_302) then (Option.bind (F_name_Set [(.s s_0)]) fun r_304 =>
              onB r_304 fun b_303 ds_308 =>
              bif (!b_303) then (Option.bind (F_law07_works []) fun r_305 =>
               onB r_305 fun b_304 ds_309 =>
               some [(.b b_304)]) else
              (bif (decide (14 < (((s_0).length : Nat) : Int))) then (Option.bind (F_law07_works []) fun r_306 =>
                onB r_306 fun b_305 ds_310 =>
                some [(.b b_305)]) else
               (Option.bind (nameZone [(.s s_0)]) fun r_307 =>
                onB r_307 fun b_306 ds_311 =>
                bif b_306 then (Option.bind (F_law07_works []) fun r_308 =>
                 onB r_308 fun b_307 ds_312 =>
                 some [(.b b_307)]) else
                (some [(.b false)])))) else
             (Option.bind (F_name_Set [(.s s_0)]) fun r_309 =>
              onB r_309 fun b_308 ds_313 =>
              bif b_308 then (Option.bind (F_name_Set [(.s s_0)]) fun r_310 =>
               onB r_310 fun b_309 ds_314 =>
               bif (!b_309) then (Option.bind (F_law07_works []) fun r_311 =>
                onB r_311 fun b_310 ds_315 =>
                some [(.b b_310)]) else
               (bif (decide (14 < (((s_0).length : Nat) : Int))) then (Option.bind (F_law07_works []) fun r_312 =>
                 onB r_312 fun b_311 ds_316 =>
                 some [(.b b_311)]) else
                (Option.bind (nameZone [(.s s_0)]) fun r_313 =>
                 onB r_313 fun b_312 ds_317 =>
                 bif b_312 then (Option.bind (F_law07_works []) fun r_314 =>
                  onB r_314 fun b_313 ds_318 =>
                  some [(.b b_313)]) else
                 (some [(.b false)])))) else
              (some [(.b false)])))) else
           (bif (!(b_301 == false)) then (some [(.b false)]) else
            (Option.bind (F_name_Letter [(.s s_0)]) fun r_315 =>
             onB r_315 fun b_314 ds_319 =>
             bif (!b_314) then (Option.bind (F_name_Set [(.s s_0)]) fun r_316 =>
              onB r_316 fun b_315 ds_320 =>
              bif (!b_315) then (Option.bind (F_law07_works []) fun r_317 =>
               onB r_317 fun b_316 ds_321 =>
               some [(.b b_316)]) else
              (bif (decide (14 < (((s_0).length : Nat) : Int))) then (Option.bind (F_law07_works []) fun r_318 =>
                onB r_318 fun b_317 ds_322 =>
                some [(.b b_317)]) else
               (Option.bind (nameZone [(.s s_0)]) fun r_319 =>
                onB r_319 fun b_318 ds_323 =>
                bif b_318 then (Option.bind (F_law07_works []) fun r_320 =>
                 onB r_320 fun b_319 ds_324 =>
                 some [(.b b_319)]) else
                (some [(.b false)])))) else
             (Option.bind (F_name_Set [(.s s_0)]) fun r_321 =>
              onB r_321 fun b_320 ds_325 =>
              bif b_320 then (Option.bind (F_name_Set [(.s s_0)]) fun r_322 =>
               onB r_322 fun b_321 ds_326 =>
               bif (!b_321) then (Option.bind (F_law07_works []) fun r_323 =>
                onB r_323 fun b_322 ds_327 =>
                some [(.b b_322)]) else
               (bif (decide (14 < (((s_0).length : Nat) : Int))) then (Option.bind (F_law07_works []) fun r_324 =>
                 onB r_324 fun b_323 ds_328 =>
                 some [(.b b_323)]) else
                (Option.bind (nameZone [(.s s_0)]) fun r_325 =>
                 onB r_325 fun b_324 ds_329 =>
                 bif b_324 then (Option.bind (F_law07_works []) fun r_326 =>
                  onB r_326 fun b_325 ds_330 =>
                  some [(.b b_325)]) else
                 (some [(.b false)])))) else
              (some [(.b false)]))))) else
          (bif (!(b_301 == false)) then (some [(.b false)]) else
           (Option.bind (F_name_Letter [(.s s_0)]) fun r_327 =>
            onB r_327 fun b_326 ds_331 =>
            bif (!b_326) then (Option.bind (F_name_Set [(.s s_0)]) fun r_328 =>
             onB r_328 fun b_327 ds_332 =>
             bif (!b_327) then (Option.bind (F_law07_works []) fun r_329 =>
              onB r_329 fun b_328 ds_333 =>
              some [(.b b_328)]) else
             (bif (decide (14 < (((s_0).length : Nat) : Int))) then (Option.bind (F_law07_works []) fun r_330 =>
               onB r_330 fun b_329 ds_334 =>
               some [(.b b_329)]) else
              (Option.bind (nameZone [(.s s_0)]) fun r_331 =>
               onB r_331 fun b_330 ds_335 =>
               bif b_330 then (Option.bind (F_law07_works []) fun r_332 =>
                onB r_332 fun b_331 ds_336 =>
                some [(.b b_331)]) else
               (some [(.b false)])))) else
            (Option.bind (F_name_Set [(.s s_0)]) fun r_333 =>
             onB r_333 fun b_332 ds_337 =>
             bif b_332 then (Option.bind (F_name_Set [(.s s_0)]) fun r_334 =>
              onB r_334 fun b_333 ds_338 =>
              bif (!b_333) then (Option.bind (F_law07_works []) fun r_335 =>
               onB r_335 fun b_334 ds_339 =>
               some [(.b b_334)]) else
              (bif (decide (14 < (((s_0).length : Nat) : Int))) then (Option.bind (F_law07_works []) fun r_336 =>
                onB r_336 fun b_335 ds_340 =>
                some [(.b b_335)]) else
               (Option.bind (nameZone [(.s s_0)]) fun r_337 =>
                onB r_337 fun b_336 ds_341 =>
                bif b_336 then (Option.bind (F_law07_works []) fun r_338 =>
                 onB r_338 fun b_337 ds_342 =>
                 some [(.b b_337)]) else
                (some [(.b false)])))) else
             (some [(.b false)])))))))))) else
    (bif (!(b_0 == false)) then (some [(.b false)]) else
     (Option.bind (F_name_Abbr [(.s s_0)]) fun r_339 =>
      onB r_339 fun b_338 ds_343 =>
      bif (decide (3 ≤ (i64 (Int.tmod n_0 40)))) then (bif (decide ((i64 (Int.tmod n_0 40)) ≤ 6)) then (bif (!(b_338 == true)) then (some [(.b false)]) else
        (Option.bind (F_name_Set [(.s s_0)]) fun r_340 =>
         onB r_340 fun b_339 ds_344 =>
         bif (decide (1 ≤ (i64 (Int.tmod n_0 40)))) then (bif (decide ((i64 (Int.tmod n_0 40)) ≤ 30)) then (bif (!(b_339 == true)) then (some [(.b false)]) else
           (Option.bind (nameZone [(.s s_0)]) fun r_341 =>
            onB r_341 fun b_340 ds_345 =>
            bif (decide (1 ≤ (i64 (Int.tmod n_0 40)))) then (bif (decide ((i64 (Int.tmod n_0 40)) ≤ 14)) then (bif (!(b_340 == true)) then (some [(.b false)]) else
              (Option.bind (F_name_Letter [(.s s_0)]) fun r_342 =>
               onB r_342 fun b_341 ds_346 =>
               bif (!b_341) then (Option.bind (F_name_Set [(.s s_0)]) fun r_343 =>
                onB r_343 fun b_342 ds_347 =>
                bif (!b_342) then (Option.bind (F_law07_works []) fun r_344 =>
                 onB r_344 fun b_343 ds_348 =>
                 some [(.b b_343)]) else
                (bif (decide (14 < (((s_0).length : Nat) : Int))) then (Option.bind (F_law07_works []) fun r_345 =>
                  onB r_345 fun b_344 ds_349 =>
                  some [(.b b_344)]) else
                 (Option.bind (nameZone [(.s s_0)]) fun r_346 =>
                  onB r_346 fun b_345 ds_350 =>
                  bif b_345 then (Option.bind (F_law07_works []) fun r_347 =>
                   onB r_347 fun b_346 ds_351 =>
                   some [(.b b_346)]) else
                  (some [(.b false)])))) else
               (Option.bind (F_name_Set [(.s s_0)]) fun r_348 =>
                onB r_348 fun b_347 ds_352 =>
                bif b_347 then (Option.bind (F_name_Set [(.s s_0)]) fun r_349 =>
                 onB r_349 fun b_348 ds_353 =>
                 bif (!b_348) then (Option.bind (F_law07_works []) fun r_350 =>
                  onB r_350 fun b_349 ds_354 =>
                  some [(.b b_349)]) else
                 (bif (decide (14 < (((s_0).length : Nat) : Int))) then (Option.bind (F_law07_works []) fun r_351 =>
                   onB r_351 fun b_350 ds_355 =>
                   some [(.b b_350)]) else
                  (Option.bind (nameZone [(.s s_0)]) fun r_352 =>
                   onB r_352 fun b_351 ds_356 =>
                   bif b_351 then (Option.bind (F_law07_works []) fun r_353 =>
                    onB r_353 fun b_352 ds_357 =>
                    some [(.b b_352)]) else
                   (some [(.b false)])))) else
                (some [(.b false)])))) else
             (bif (!(b_340 == false)) then (some [(.b false)]) else
              (Option.bind (F_name_Letter [(.s s_0)]) fun r_354 =>
               onB r_354 fun b_353 ds_358 =>
               bif (!b_353) then (Option.bind (F_name_Set [(.s s_0)]) fun r_355 =>
                onB r_355 fun b_354 ds_359 =>
                bif (!b_354) then (Option.bind (F_law07_works []) fun r_356 =>
                 onB r_356 fun b_355 ds_360 =>
                 some [(.b b_355)]) else
                (bif (decide (14 < (((s_0).length : Nat) : Int))) then (Option.bind (F_law07_works []) fun r_357 =>
                  onB r_357 fun b_356 ds_361 =>
                  some [(.b b_356)]) else
                 (Option.bind (nameZone [(.s s_0)]) fun r_358 =>
                  onB r_358 fun b_357 ds_362 =>
                  bif b_357 then (Option.bind (F_law07_works []) fun r_359 =>
                   onB r_359 fun b_358 ds_363 =>
                   some [(.b b_358)]) else
                  (some [(.b false)])))) else
               (Option.bind (F_name_Set [(.s s_0)]) fun r_360 =>
                onB r_360 fun b_359 ds_364 =>
                bif b_359 then (Option.bind (F_name_Set [(.s s_0)]) fun r_361 =>
                 onB r_361 fun b_360 ds_365 =>
                 bif (!b_360) then (Option.bind (F_law07_works []) fun r_362 =>
                  onB r_362 fun b_361 ds_366 =>
                  some [(.b b_361)]) else
                 (bif (decide (14 < (((s_0).length : Nat) : Int))) then (Option.bind (F_law07_works []) fun r_363 =>
                   onB r_363 fun b_362 ds_367 =>
                   some [(.b b_362)]) else
                  (Option.bind (nameZone [(.s s_0)]) fun r_364 =>
                   onB r_364 fun b_363 ds_368 =>
                   bif b_363 then (Option.bind (F_law07_works []) fun r_365 =>
                    onB r_365 fun b_364 ds_369 =>
                    some [(.b b_364)]) else
                   (some [(.b false)])))) else
                (some [(.b false)]))))) else
            (bif (!(b_340 == false)) then (some [(.b false)]) else
             (Option.bind (F_name_Letter [(.s s_0)]) fun r_366 =>
              onB r_366 fun b_365 ds_370 =>
              bif (!b_365) then (Option.bind (F_name_Set [(.s s_0)]) fun r_367 =>
               onB r_367 fun b_366 ds_371 =>
               bif (!b_366) then (Option.bind (F_law07_works []) fun r_368 =>
                onB r_368 fun b_367 ds_372 =>
                some [(.b b_367)]) else
               (bif (decide (14 < (((s_0).length : Nat) : Int))) then (Option.bind (F_law07_works []) fun r_369 =>
                 onB r_369 fun b_368 ds_373 =>
                 some [(.b b_368)]) else
                (Option.bind (nameZone [(.s s_0)]) fun r_370 =>
                 onB r_370 fun b_369 ds_374 =>
                 bif b_369 then (Option.bind (F_law07_works []) fun r_371 =>
                  onB r_371 fun b_370 ds_375 =>
                  some [(.b b_370)]) else
                 (some [(.b false)])))) else
              (Option.bind (F_name_Set [(.s s_0)]) fun r_372 =>
               onB r_372 fun b_371 ds_376 =>
               bif b_371 then (Option.bind (F_name_Set [(.s s_0)]) fun r_373 =>
                onB r_373 fun b_372 ds_377 =>
                bif (!b_372) then (Option.bind (F_law07_works []) fun r_374 =>
                 onB r_374 fun b_373 ds_378 =>
                 some [(.b b_373)]) else
                (bif (decide (14 < (((s_0).length : Nat) : Int))) then (Option.bind (F_law07_works []) fun r_375 =>
                  onB r_375 fun b_374 ds_379 =>
                  some [(.b b_374)]) else
                 (Option.bind (nameZone [(.s s_0)]) fun r_376 =>
                  onB r_376 fun b_375 ds_380 =>
                  bif b_375 then (Option.bind (F_law07_works []) fun r_377 =>
                   onB r_377 fun b_376 ds_381 =>
                   some [(.b b_376)]) else
                  (some [(.b false)])))) else
               (some [(.b false)])))))) else
          (bif (!(b_339 == false)) then (some [(.b false)]) else
           (Option.bind (nameZone [(.s s_0)]) fun r_378 =>
            onB r_378 fun b_377 ds_382 =>
            bif (decide (1 ≤ (i64 (Int.tmod n_0 40)))) then (bif (decide ((i64 (Int.tmod n_0 40)) ≤ 14)) then (bif (!(b_377 == true)) then (some [(.b false)]) else
              (Option.bind (F_name_Letter [(.s s_0)]) fun r_379 =>
               onB r_379 fun b_378 ds_383 =>
               bif (!b_378) then (Option.bind (F_name_Set [(.s s_0)]) fun r_380 =>
                onB r_380 fun b_379 ds_384 =>
                bif (!b_379) then (Option.bind (F_law07_works []) fun r_381 =>
                 onB r_381 fun b_380 ds_385 =>
                 some [(.b b_380)]) else
                (bif (decide (14 < (((s_0).length : Nat) : Int))) then (Option.bind (F_law07_works []) fun r_382 =>
                  onB r_382 fun b_381 ds_386 =>
                  some [(.b b_381)]) else
                 (Option.bind (nameZone [(.s s_0)]) fun r_383 =>
                  onB r_383 fun b_382 ds_387 =>
                  bif b_382 then (Option.bind (F_law07_works []) fun r_384 =>
                   onB r_384 fun b_383 ds_388 =>
                   some [(.b b_383)]) else
                  (some [(.b false)])))) else
               (Option.bind (F_name_Set [(.s s_0)]) fun r_385 =>
                onB r_385 fun b_384 ds_389 =>
                bif b_384 then (Option.bind (F_name_Set [(.s s_0)]) fun r_386 =>
                 onB r_386 fun b_385 ds_390 =>
                 bif (!b_385) then (Option.bind (F_law07_works []) fun r_387 =>
                  onB r_387 fun b_386 ds_391 =>
                  some [(.b b_386)]) else
                 (bif (decide (14 < (((s_0).length : Nat) : Int))) then (Option.bind (F_law07_works []) fun r_388 =>
                   onB r_388 fun b_387 ds_392 =>
                   some [(.b b_387)]) else
                  (Option.bind (nameZone [(.s s_0)]) fun r_389 =>
                   onB r_389 fun b_388 ds_393 =>
                   bif b_388 then (Option.bind (F_law07_works []) fun r_390 =>
                    onB r_390 fun b_389 ds_394 =>
                    some [(.b b_389)]) else
                   (some [(.b false)])))) else
                (some [(.b false)])))) else
             (bif (!(b_377 == false)) then (some [(.b false)]) else
              (Option.bind (F_name_Letter [(.s s_0)]) fun r_391 =>
               onB r_391 fun b_390 ds_395 =>
               bif (!b_390) then (Option.bind (F_name_Set [(.s s_0)]) fun r_392 =>
                onB r_392 fun b_391 ds_396 =>
                bif (!b_391) then (Option.bind (F_law07_works []) fun r_393 =>
                 onB r_393 fun b_392 ds_397 =>
                 some [(.b b_392)]) else
                (bif (decide (14 < (((s_0).length : Nat) : Int))) then (Option.bind (F_law07_works []) fun r_394 =>
                  onB r_394 fun b_393 ds_398 =>
                  some [(.b b_393)]) else
                 (Option.bind (nameZone [(.s s_0)]) fun r_395 =>
                  onB r_395 fun b_394 ds_399 =>
                  bif b_394 then (Option.bind (F_law07_works []) fun r_396 =>
                   onB r_396 fun b_395 ds_400 =>
                   some [(.b b_395)]) else
                  (some [(.b false)])))) else
               (Option.bind (F_name_Set [(.s s_0)]) fun r_397 =>
                onB r_397 fun b_396 ds_401 =>
                bif b_396 then (Option.bind (F_name_Set [(.s s_0)]) fun r_398 =>
                 onB r_398 fun b_397 ds_402 =>
                 bif (!b_397) then (Option.bind (F_law07_works []) fun r_399 =>
                  onB r_399 fun b_398 ds_403 =>
                  some [(.b b_398)]) else
                 (bif (decide (14 < (((s_0).length : Nat) : Int))) then (Option.bind (F_law07_works []) fun r_400 =>
                   onB r_400 fun b_399 ds_404 =>
                   some [(.b b_399)]) else
                  (Option.bind (nameZone [(.s s_0)]) fun r_401 =>
                   onB r_401 fun b_400 ds_405 =>
                   bif b_400 then (Option.bind (F_law07_works []) fun r_402 =>
                    onB r_402 fun b_401 ds_406 =>
                    some [(.b b_401)]) else
                   (some [(.b false)])))) else
                (some [(.b false)]))))) else
            (bif (!(b_377 == false)) then (some [(.b false)]) else
             (Option.bind (F_name_Letter [(.s s_0)]) fun r_403 =>
              onB r_403 fun b_402 ds_407 =>
              bif (!b_402) then (Option.bind (F_name_Set [(.s s_0)]) fun r_404 =>
               onB r_404 fun b_403 ds_408 =>
               bif (!b_403) then (Option.bind (F_law07_works []) fun r_405 =>
                onB r_405 fun b_404 ds_409 =>
                some [(.b b_404)]) else
               (bif (decide (14 < (((s_0).length : Nat) : Int))) then (Option.bind (F_law07_works []) fun r_406 =>
                 onB r_406 fun b_405 ds_410 =>
                 some [(.b b_405)]) else
                (Option.bind (nameZone [(.s s_0)]) fun r_407 =>
                 onB r_407 fun b_406 ds_411 =>
                 bif b_406 then (Option.bind (F_law07_works []) fun r_408 =>
                  onB r_408 fun b_407 ds_412 =>
                  some [(.b b_407)]) else
                 (some [(.b false)])))) else
              (Option.bind (F_name_Set [(.s s_0)]) fun r_409 =>
               onB r_409 fun b_408 ds_413 =>
               bif b_408 then (Option.bind (F_name_Set [(.s s_0)]) fun r_410 =>
                onB r_410 fun b_409 ds_414 =>
                bif (!b_409) then (Option.bind (F_law07_works []) fun r_411 =>
                 onB r_411 fun b_410 ds_415 =>
                 some [(.b b_410)]) else
                (bif (decide (14 < (((s_0).length : Nat) : Int))) then (Option.bind (F_law07_works []) fun r_412 =>
                  onB r_412 fun b_411 ds_416 =>
                  some [(.b b_411)]) else
                 (Option.bind (nameZone [(.s s_0)]) fun r_413 =>
                  onB r_413 fun b_412 ds_417 =>
                  bif b_412 then (Option.bind (F_law07_works []) fun r_414 =>
                   onB r_414 fun b_413 ds_418 =>
                   some [(.b b_413)]) else
                  (some [(.b false)])))) else
               (some [(.b false)]))))))) else
         (bif (!(b_339 == false)) then (some [(.b false)]) else
          (Option.bind (nameZone [(.s s_0)]) fun r_415 =>
           onB r_415 fun b_414 ds_419 =>
           bif (decide (1 ≤ (i64 (Int.tmod n_0 40)))) then (bif (decide ((i64 (Int.tmod n_0 40)) ≤ 14)) then (bif (!(b_414 == true)) then (some [(.b false)]) else
             (Option.bind (F_name_Letter [(.s s_0)]) fun r_416 =>
              onB r_416 fun b_415 ds_420 =>
              bif (!b_415) then (Option.bind (F_name_Set [(.s s_0)]) fun r_417 =>
               onB r_417 fun b_416 ds_421 =>
               bif (!b_416) then (Option.bind (F_law07_works []) fun r_418 =>
                onB r_418 fun b_417 ds_422 =>
                some [(.b b_417)]) else
               (bif (decide (14 < (((s_0).length : Nat) : Int))) then (Option.bind (F_law07_works []) fun r_419 =>
                 onB r_419 fun b_418 ds_423 =>
                 some [(.b b_418)]) else
                (Option.bind (nameZone [(.s s_0)]) fun r_420 =>
                 onB r_420 fun b_419 ds_424 =>
                 bif b_419 then (Option.bind (F_law07_works []) fun r_421 =>
                  onB r_421 fun b_420 ds_425 =>
                  some [(.b b_420)]) else
                 (some [(.b false)])))) else
              (Option.bind (F_name_Set [(.s s_0)]) fun r_422 =>
               onB r_422 fun b_421 ds_426 =>
               bif b_421 then (Option.bind (F_name_Set [(.s s_0)]) fun r_423 =>
                onB r_423 fun b_422 ds_427 =>
                bif (!b_422) then (Option.bind (F_law07_works []) fun r_424 =>
                 onB r_424 fun b_423 ds_428 =>
                 some [(.b b_423)]) else
                (bif (decide (14 < (((s_0).length : Nat) : Int))) then (Option.bind (F_law07_works []) fun r_425 =>
                  onB r_425 fun b_424 ds_429 =>
                  some [(.b b_424)]) else
                 (Option.bind (nameZone [(.s s_0)]) fun r_426 =>
                  onB r_426 fun b_425 ds_430 =>
                  bif b_425 then (Option.bind (F_law07_works []) fun r_427 =>
                   onB r_427 fun b_426 ds_431 =>
                   some [(.b b_426)]) else
                  (some [(.b false)])))) else
               (some [(.b false)])))) else
            (bif (!(b_414 == false)) then (some [(.b false)]) else
             (Option.bind (F_name_Letter [(.s s_0)]) fun r_428 =>
              onB r_428 fun b_427 ds_432 =>
              bif (!b_427) then (Option.bind (F_name_Set [(.s s_0)]) fun r_429 =>
               onB r_429 fun b_428 ds_433 =>
               bif (!b_428) then (Option.bind (F_law07_works []) fun r_430 =>
                onB r_430 fun b_429 ds_434 =>
                some [(.b b_429)]) else
               (bif (decide (14 < (((s_0).length : Nat) : Int))) then (Option.bind (F_law07_works []) fun r_431 =>
                 onB r_431 fun b_430 ds_435 =>
                 some [(.b b_430)]) else
                (Option.bind (nameZone [(.s s_0)]) fun r_432 =>
                 onB r_432 fun b_431 ds_436 =>
                 bif b_431 then (Option.bind (F_law07_works []) fun r_433 =>
                  onB r_433 fun b_432 ds_437 =>
                  some [(.b b_432)]) else
                 (some [(.b false)])))) else
              (Option.bind (F_name_Set [(.s s_0)]) fun r_434 =>
               onB r_434 fun b_433 ds_438 =>
               bif b_433 then (Option.bind (F_name_Set [(.s s_0)]) fun r_435 =>
                onB r_435 fun b_434 ds_439 =>
                bif (!b_434) then (Option.bind (F_law07_works []) fun r_436 =>
                 onB r_436 fun b_435 ds_440 =>
                 some [(.b b_435)]) else
                (bif (decide (14 < (((s_0).length : Nat) : Int))) then (Option.bind (F_law07_works []) fun r_437 =>
                  onB r_437 fun b_436 ds_441 =>
                  some [(.b b_436)]) else
                 (Option.bind (nameZone [(.s s_0)]) fun r_438 =>
                  onB r_438 fun b_437 ds_442 =>
                  bif b_437 then (Option.bind (F_law07_works []) fun r_439 =>
                   onB r_439 fun b_438 ds_443 =>
                   some [(.b b_438)]) else
                  (some [(.b false)])))) else
               (some [(.b false)]))))) else
           (bif (!(b_414 == false)) then (some [(.b false)]) else
            (Option.bind (F_name_Letter [(.s s_0)]) fun r_440 =>
             onB r_440 fun b_439 ds_444 =>
             bif (!b_439) then (Option.bind (F_name_Set [(.s s_0)]) fun r_441 =>
              onB r_441 fun b_440 ds_445 =>
              bif (!b_440) then (Option.bind (F_law07_works []) fun r_442 =>
               onB r_442 fun b_441 ds_446 =>
               some [(.b b_441)]) else
              (bif (decide (14 < (((s_0).length : Nat) : Int))) then (Option.bind (F_law07_works []) fun r_443 =>
                onB r_443 fun b_442 ds_447 =>
                some [(.b b_442)]) else
               (Option.bind (nameZone [(.s s_0)]) fun r_444 =>
                onB r_444 fun b_443 ds_448 =>
                bif b_443 then (Option.bind (F_law07_works []) fun r_445 =>
                 onB r_445 fun b_444 ds_449 =>
                 some [(.b b_444)]) else
                (some [(.b false)])))) else
             (Option.bind (F_name_Set [(.s s_0)]) fun r_446 =>
              onB r_446 fun b_445 ds_450 =>
              bif b_445 then (Option.bind (F_name_Set [(.s s_0)]) fun r_447 =>
               onB r_447 fun b_446 ds_451 =>
               bif (!b_446) then (Option.bind (F_law07_works []) fun r_448 =>
                onB r_448 fun b_447 ds_452 =>
                some [(.b b_447)]) else
               (bif (decide (14 < (((s_0).length : Nat) : Int))) then (Option.bind (F_law07_works []) fun r_449 =>
                 onB r_449 fun b_448 ds_453 =>
                 some [(.b b_448)]) else
                (Option.bind (nameZone [(.s s_0)]) fun r_450 =>
                 onB r_450 fun b_449 ds_454 =>
                 bif b_449 then (Option.bind (F_law07_works []) fun r_451 =>
                  onB r_451 fun b_450 ds_455 =>
                  some [(.b b_450)]) else
                 (some [(.b false)])))) else
              (some [(.b false)])))))))) else
       (bif (!(b_338 == false)) then (some [(.b false)]) else
        (Option.bind (F_name_Set [(.s s_0)]) fun r_452 =>
         onB r_452 fun b_451 ds_456 =>
         bif (decide (1 ≤ (i64 (Int.tmod n_0 40)))) then (bif (decide ((i64 (Int.tmod n_0 40)) ≤ 30)) then (bif (!(b_451 == true)) then (some [(.b false)]) else
           (Option.bind (nameZone [(.s s_0)]) fun r_453 =>
            onB r_453 fun b_452 ds_457 =>
            bif (decide (1 ≤ (i64 (Int.tmod n_0 40)))) then (bif (decide ((i64 (Int.tmod n_0 40)) ≤ 14)) then (bif (!(b_452 == true)) then (some [(.b false)]) else
              (Option.bind (F_name_Letter [(.s s_0)]) fun r_454 =>
               onB r_454 fun b_453 ds_458 =>
               bif (!b_453) then (Option.bind (F_name_Set [(.s s_0)]) fun r_455 =>
                onB r_455 fun b_454 ds_459 =>
                bif (!b_454) then (Option.bind (F_law07_works []) fun r_456 =>
                 onB r_456 fun b_455 ds_460 =>
                 some [(.b b_455)]) else
                (bif (decide (14 < (((s_0).length : Nat) : Int))) then (Option.bind (F_law07_works []) fun r_457 =>
                  onB r_457 fun b_456 ds_461 =>
                  some [(.b b_456)]) else
                 (Option.bind (nameZone [(.s s_0)]) fun r_458 =>
                  onB r_458 fun b_457 ds_462 =>
                  bif b_457 then (Option.bind (F_law07_works []) fun r_459 =>
                   onB r_459 fun b_458 ds_463 =>
                   some [(.b b_458)]) else
                  (some [(.b false)])))) else
               (Option.bind (F_name_Set [(.s s_0)]) fun r_460 =>
                onB r_460 fun b_459 ds_464 =>
                bif b_459 then (Option.bind (F_name_Set [(.s s_0)]) fun r_461 =>
                 onB r_461 fun b_460 ds_465 =>
                 bif (!b_460) then (Option.bind (F_law07_works []) fun r_462 =>
                  onB r_462 fun b_461 ds_466 =>
                  some [(.b b_461)]) else
                 (bif (decide (14 < (((s_0).length : Nat) : Int))) then (Option.bind (F_law07_works []) fun r_463 =>
                   onB r_463 fun b_462 ds_467 =>
                   some [(.b b_462)]) else
                  (Option.bind (nameZone [(.s s_0)]) fun r_464 =>
                   onB r_464 fun b_463 ds_468 =>
                   bif b_463 then (Option.bind (F_law07_works []) fun r_465 =>
                    onB r_465 fun b_464 ds_469 =>
                    some [(.b b_464)]) else
                   (some [(.b false)])))) else
                (some [(.b false)])))) else
             (bif (!(b_452 == false)) then (some [(.b false)]) else
              (Option.bind (F_name_Letter [(.s s_0)]) fun r_466 =>
               onB r_466 fun b_465 ds_470 =>
               bif (!b_465) then (Option.bind (F_name_Set [(.s s_0)]) fun r_467 =>
                onB r_467 fun b_466 ds_471 =>
                bif (!b_466) then (Option.bind (F_law07_works []) fun r_468 =>
                 onB r_468 fun b_467 ds_472 =>
                 some [(.b b_467)]) else
                (bif (decide (14 < (((s_0).length : Nat) : Int))) then (Option.bind (F_law07_works []) fun r_469 =>
                  onB r_469 fun b_468 ds_473 =>
                  some [(.b b_468)]) else
                 (Option.bind (nameZone [(.s s_0)]) fun r_470 =>
                  onB r_470 fun b_469 ds_474 =>
                  bif b_469 then (Option.bind (F_law07_works []) fun r_471 =>
                   onB r_471 fun b_470 ds_475 =>
                   some [(.b b_470)]) else
                  (some [(.b false)])))) else
               (Option.bind (F_name_Set [(.s s_0)]) fun r_472 =>
                onB r_472 fun b_471 ds_476 =>
                bif b_471 then (Option.bind (F_name_Set [(.s s_0)]) fun r_473 =>
                 onB r_473 fun b_472 ds_477 =>
                 bif (!b_472) then (Option.bind (F_law07_works []) fun r_474 =>
                  onB r_474 fun b_473 ds_478 =>
                  some [(.b b_473)]) else
                 (bif (decide (14 < (((s_0).length : Nat) : Int))) then (Option.bind (F_law07_works []) fun r_475 =>
                   onB r_475 fun b_474 ds_479 =>
                   some [(.b b_474)]) else
                  (Option.bind (nameZone [(.s s_0)]) fun r_476 =>
                   onB r_476 fun b_475 ds_480 =>
                   bif b_475 then (Option.bind (F_law07_works []) fun r_477 =>
                    onB r_477 fun b_476 ds_481 =>
                    some [(.b b_476)]) else
                   (some [(.b false)])))) else
                (some [(.b false)]))))) else
            (bif (!(b_452 == false)) then (some [(.b false)]) else
             (Option.bind (F_name_Letter [(.s s_0)]) fun r_478 =>
              onB r_478 fun b_477 ds_482 =>
              bif (!b_477) then (Option.bind (F_name_Set [(.s s_0)]) fun r_479 =>
               onB r_479 fun b_478 ds_483 =>
               bif (!b_478) then (Option.bind (F_law07_works []) fun r_480 =>
                onB r_480 fun b_479 ds_484 =>
                some [(.b b_479)]) else
               (bif (decide (14 < (((s_0).length : Nat) : Int))) then (Option.bind (F_law07_works []) fun r_481 =>
                 onB r_481 fun b_480 ds_485 =>
                 some [(.b b_480)]) else
                (Option.bind (nameZone [(.s s_0)]) fun r_482 =>
                 onB r_482 fun b_481 ds_486 =>
                 bif b_481 then (Option.bind (F_law07_works []) fun r_483 =>
                  onB r_483 fun b_482 ds_487 =>
                  some [(.b b_482)]) else
                 (some [(.b false)])))) else
              (Option.bind (F_name_Set [(.s s_0)]) fun r_484 =>
               onB r_484 fun b_483 ds_488 =>
               bif b_483 then (Option.bind (F_name_Set [(.s s_0)]) fun r_485 =>
                onB r_485 fun b_484 ds_489 =>
                bif (!b_484) then (Option.bind (F_law07_works []) fun r_486 =>
                 onB r_486 fun b_485 ds_490 =>
                 some [(.b b_485)]) else
                (bif (decide (14 < (((s_0).length : Nat) : Int))) then (Option.bind (F_law07_works []) fun r_487 =>
                  onB r_487 fun b_486 ds_491 =>
                  some [(.b b_486)]) else
                 (Option.bind (nameZone [(.s s_0)]) fun r_488 =>
                  onB r_488 fun b_487 ds_492 =>
                  bif b_487 then (Option.bind (F_law07_works []) fun r_489 =>
                   onB r_489 fun b_488 ds_493 =>
                   some [(.b b_488)]) else
                  (some [(.b false)])))) else
               (some [(.b false)])))))) else
          (bif (!(b_451 == false)) then (some [(.b false)]) else
           (Option.bind (nameZone [(.s s_0)]) fun r_490 =>
            onB r_490 fun b_489 ds_494 =>
            bif (decide (1 ≤ (i64 (Int.tmod n_0 40)))) then (bif (decide ((i64 (Int.tmod n_0 40)) ≤ 14)) then (bif (!(b_489 == true)) then (some [(.b false)]) else
              (Option.bind (F_name_Letter [(.s s_0)]) fun r_491 =>
               onB r_491 fun b_490 ds_495 =>
               bif (!b_490) then (Option.bind (F_name_Set [(.s s_0)]) fun r_492 =>
                onB r_492 fun b_491 ds_496 =>
                bif (!b_491) then (Option.bind (F_law07_works []) fun r_493 =>
                 onB r_493 fun b_492 ds_497 =>
                 some [(.b b_492)]) else
                (bif (decide (14 < (((s_0).length : Nat) : Int))) then (Option.bind (F_law07_works []) fun r_494 =>
                  onB r_494 fun b_493 ds_498 =>
                  some [(.b b_493)]) else
                 (Option.bind (nameZone [(.s s_0)]) fun r_495 =>
                  onB r_495 fun b_494 ds_499 =>
                  bif b_494 then (Option.bind (F_law07_works []) fun r_496 =>
                   onB r_496 fun b_495 ds_500 =>
                   some [(.b b_495)]) else
                  (some [(.b false)])))) else
               (Option.bind (F_name_Set [(.s s_0)]) fun r_497 =>
                onB r_497 fun b_496 ds_501 =>
                bif b_496 then (Option.bind (F_name_Set [(.s s_0)]) fun r_498 =>
                 onB r_498 fun b_497 ds_502 =>
                 bif (!b_497) then (Option.bind (F_law07_works []) fun r_499 =>
                  onB r_499 fun b_498 ds_503 =>
                  some [(.b b_498)]) else
                 (bif (decide (14 < (((s_0).length : Nat) : Int))) then (Option.bind (F_law07_works []) fun r_500 =>
                   onB r_500 fun b_499 ds_504 =>
                   some [(.b b_499)]) else
                  (Option.bind (nameZone [(.s s_0)]) fun r_501 =>
                   onB r_501 fun b_500 ds_505 =>
                   bif b_500 then (Option.bind (F_law07_works []) fun r_502 =>
                    onB r_502 fun b_501 ds_506 =>
                    some [(.b b_501)]) else
                   (some [(.b false)])))) else
                (some [(.b false)])))) else
             (bif (!(b_489 == false)) then (some [(.b false)]) else
              (Option.bind (F_name_Letter [(.s s_0)]) fun r_503 =>
               onB r_503 fun b_502 ds_507 =>
               bif (!b_502) then (Option.bind (F_name_Set [(.s s_0)]) fun r_504 =>
                onB r_504 fun b_503 ds_508 =>
                bif (!b_503) then (Option.bind (F_law07_works []) fun r_505 =>
                 onB r_505 fun b_504 ds_509 =>
                 some [(.b b_504)]) else
                (bif (decide (14 < (((s_0).length : Nat) : Int))) then (Option.bind (F_law07_works []) fun r_506 =>
                  onB r_506 fun b_505 ds_510 =>
                  some [(.b b_505)]) else
                 (Option.bind (nameZone [(.s s_0)]) fun r_507 =>
                  onB r_507 fun b_506 ds_511 =>
                  bif b_506 then (Option.bind (F_law07_works []) fun r_508 =>
                   onB r_508 fun b_507 ds_512 =>
                   some [(.b b_507)]) else
                  (some [(.b false)])))) else
               (Option.bind (F_name_Set [(.s s_0)]) fun r_509 =>
                onB r_509 fun b_508 ds_513 =>
                bif b_508 then (Option.bind (F_name_Set [(.s s_0)]) fun r_510 =>
                 onB r_510 fun b_509 ds_514 =>
                 bif (!b_509) then (Option.bind (F_law07_works []) fun r_511 =>
                  onB r_511 fun b_510 ds_515 =>
                  some [(.b b_510)]) else
                 (bif (decide (14 < (((s_0).length : Nat) : Int))) then (Option.bind (F_law07_works []) fun r_512 =>
                   onB r_512 fun b_511 ds_516 =>
                   some [(.b b_511)]) else
                  (Option.bind (nameZone [(.s s_0)]) fun r_513 =>
                   onB r_513 fun b_512 ds_517 =>
                   bif b_512 then (Option.bind (F_law07_works []) fun r_514 =>
                    onB r_514 fun b_513 ds_518 =>
                    some [(.b b_513)]) else
                   (some [(.b false)])))) else
                (some [(.b false)]))))) else
            (bif (!(b_489 == false)) then (some [(.b false)]) else
             (Option.bind (F_name_Letter [(.s s_0)]) fun r_515 =>
              onB r_515 fun b_514 ds_519 =>
              bif (!b_514) then (Option.bind (F_name_Set [(.s s_0)]) fun r_516 =>
               onB r_516 fun b_515 ds_520 =>
               bif (!b_515) then (Option.bind (F_law07_works []) fun r_517 =>
                onB r_517 fun b_516 ds_521 =>
                some [(.b b_516)]) else
               (bif (decide (14 < (((s_0).length : Nat) : Int))) then (Option.bind (F_law07_works []) fun r_518 =>
                 onB r_518 fun b_517 ds_522 =>
                 some [(.b b_517)]) else
                (Option.bind (nameZone [(.s s_0)]) fun r_519 =>
                 onB r_519 fun b_518 ds_523 =>
                 bif b_518 then (Option.bind (F_law07_works []) fun r_520 =>
                  onB r_520 fun b_519 ds_524 =>
                  some [(.b b_519)]) else
                 (some [(.b false)])))) else
              (Option.bind (F_name_Set [(.s s_0)]) fun r_521 =>
               onB r_521 fun b_520 ds_525 =>
               bif b_520 then (Option.bind (F_name_Set [(.s s_0)]) fun r_522 =>
                onB r_522 fun b_521 ds_526 =>
                bif (!b_521) then (Option.bind (F_law07_works []) fun r_523 =>
                 onB r_523 fun b_522 ds_527 =>
                 some [(.b b_522)]) else
                (bif (decide (14 < (((s_0).length : Nat) : Int))) then (Option.bind (F_law07_works []) fun r_524 =>
                  onB r_524 fun b_523 ds_528 =>
                  some [(.b b_523)]) else
                 (Option.bind (nameZone [(.s s_0)]) fun r_525 =>
                  onB r_525 fun b_524 ds_529 =>
                  bif b_524 then (Option.bind (F_law07_works []) fun r_526 =>
                   onB r_526 fun b_525 ds_530 =>
                   some [(.b b_525)]) else
                  (some [(.b false)])))) else
               (some [(.b false)]))))))) else
         (bif (!(b_451 == false)) then (some [(.b false)]) else
          (Option.bind (nameZone [(.s s_0)]) fun r_527 =>
           onB r_527 fun b_526 ds_531 =>
           bif (decide (1 ≤ (i64 (Int.tmod n_0 40)))) then (bif (decide ((i64 (Int.tmod n_0 40)) ≤ 14)) then (bif (!(b_526 == true)) then (some [(.b false)]) else
             (Option.bind (F_name_Letter [(.s s_0)]) fun r_528 =>
              onB r_528 fun b_527 ds_532 =>
              bif (!b_527) then (Option.bind (F_name_Set [(.s s_0)]) fun r_529 =>
               onB r_529 fun b_528 ds_533 =>
               bif (!b_528) then (Option.bind (F_law07_works []) fun r_530 =>
                onB r_530 fun b_529 ds_534 =>
                some [(.b b_529)]) else
               (bif (decide (14 < (((s_0).length : Nat) : Int))) then (Option.bind (F_law07_works []) fun r_531 =>
                 onB r_531 fun b_530 ds_535 =>
                 some [(.b b_530)]) else
                (Option.bind (nameZone [(.s s_0)]) fun r_532 =>
                 onB r_532 fun b_531 ds_536 =>
                 bif b_531 then (Option.bind (F_law07_works []) fun r_533 =>
                  onB r_533 fun b_532 ds_537 =>
                  some [(.b b_532)]) else
                 (some [(.b false)])))) else
              (Option.bind (F_name_Set [(.s s_0)]) fun r_534 =>
               onB r_534 fun b_533 ds_538 =>
               bif b_533 then (Option.bind (F_name_Set [(.s s_0)]) fun r_535 =>
                onB r_535 fun b_534 ds_539 =>
                bif (!b_534) then (Option.bind (F_law07_works []) fun r_536 =>
                 onB r_536 fun b_535 ds_540 =>
                 some [(.b b_535)]) else
                (bif (decide (14 < (((s_0).length : Nat) : Int))) then (Option.bind (F_law07_works []) fun r_537 =>
                  onB r_537 fun b_536 ds_541 =>
                  some [(.b b_536)]) else
                 (Option.bind (nameZone [(.s s_0)]) fun r_538 =>
                  onB r_538 fun b_537 ds_542 =>
                  bif b_537 then (Option.bind (F_law07_works []) fun r_539 =>
                   onB r_539 fun b_538 ds_543 =>
                   some [(.b b_538)]) else
                  (some [(.b false)])))) else
               (some [(.b false)])))) else
            (bif (!(b_526 == false)) then (some [(.b false)]) else
             (Option.bind (F_name_Letter [(.s s_0)]) fun r_540 =>
              onB r_540 fun b_539 ds_544 =>
              bif (!b_539) then (Option.bind (F_name_Set [(.s s_0)]) fun r_541 =>
               onB r_541 fun b_540 ds_545 =>
               bif (!b_540) then (Option.bind (F_law07_works []) fun r_542 =>
                onB r_542 fun b_541 ds_546 =>
                some [(.b b_541)]) else
               (bif (decide (14 < (((s_0).length : Nat) : Int))) then (Option.bind (F_law07_works []) fun r_543 =>
                 onB r_543 fun b_542 ds_547 =>
                 some [(.b b_542)]) else
                (Option.bind (nameZone [(.s s_0)]) fun r_544 =>
                 onB r_544 fun b_543 ds_548 =>
                 bif b_543 then (Option.bind (F_law07_works []) fun r_545 =>
                  onB r_545 fun b_544 ds_549 =>
                  some [(.b b_544)]) else
                 (some [(.b false)])))) else
              (Option.bind (F_name_Set [(.s s_0)]) fun r_546 =>
               onB r_546 fun b_545 ds_550 =>
               bif b_545 then (Option.bind (F_name_Set [(.s s_0)]) fun r_547 =>
                onB r_547 fun b_546 ds_551 =>
                bif (!b_546) then (Option.bind (F_law07_works []) fun r_548 =>
                 onB r_548 fun b_547 ds_552 =>
                 some [(.b b_547)]) else
                (bif (decide (14 < (((s_0).length : Nat) : Int))) then (Option.bind (F_law07_works []) fun r_549 =>
                  onB r_549 fun b_548 ds_553 =>
                  some [(.b b_548)]) else
                 (Option.bind (nameZone [(.s s_0)]) fun r_550 =>
                  onB r_550 fun b_549 ds_554 =>
                  bif b_549 then (Option.bind (F_law07_works []) fun r_551 =>
                   onB r_551 fun b_550 ds_555 =>
                   some [(.b b_550)]) else
                  (some [(.b false)])))) else
               (some [(.b false)]))))) else
           (bif (!(b_526 == false)) then (some [(.b false)]) else
            (Option.bind (F_name_Letter [(.s s_0)]) fun r_552 =>
             onB r_552 fun b_551 ds_556 =>
             bif (!b_551) then (Option.bind (F_name_Set [(.s s_0)]) fun r_553 =>
              onB r_553 fun b_552 ds_557 =>
              bif (!b_552) then (Option.bind (F_law07_works []) fun r_554 =>
               onB r_554 fun b_553 ds_558 =>
               some [(.b b_553)]) else
              (bif (decide (14 < (((s_0).length : Nat) : Int))) then (Option.bind (F_law07_works []) fun r_555 =>
                onB r_555 fun b_554 ds_559 =>
                some [(.b b_554)]) else
               (Option.bind (nameZone [(.s s_0)]) fun r_556 =>
                onB r_556 fun b_555 ds_560 =>
                bif b_555 then (Option.bind (F_law07_works []) fun r_557 =>
                 onB r_557 fun b_556 ds_561 =>
                 some [(.b b_556)]) else
                (some [(.b false)])))) else
             (Option.bind (F_name_Set [(.s s_0)]) fun r_558 =>
              onB r_558 fun b_557 ds_562 =>
              bif b_557 then (Option.bind (F_name_Set [(.s s_0)]) fun r_559 =>
               onB r_559 fun b_558 ds_563 =>
               bif (!b_558) then (Option.bind (F_law07_works []) fun r_560 =>
                onB r_560 fun b_559 ds_564 =>
                some [(.b b_559)]) else
               (bif (decide (14 < (((s_0).length : Nat) : Int))) then (Option.bind (F_law07_works []) fun r_561 =>
                 onB r_561 fun b_560 ds_565 =>
                 some [(.b b_560)]) else
                (Option.bind (nameZone [(.s s_0)]) fun r_562 =>
                 onB r_562 fun b_561 ds_566 =>
                 bif b_561 then (Option.bind (F_law07_works []) fun r_563 =>
                  onB r_563 fun b_562 ds_567 =>
                  some [(.b b_562)]) else
                 (some [(.b false)])))) else
              (some [(.b false)]))))))))) else
      (bif (!(b_338 == false)) then (some [(.b false)]) else
       (Option.bind (F_name_Set [(.s s_0)]) fun r_564 =>
        onB r_564 fun b_563 ds_568 =>
        bif (decide (1 ≤ (i64 (Int.tmod n_0 40)))) then (bif (decide ((i64 (Int.tmod n_0 40)) ≤ 30)) then (bif (!(b_563 == true)) then (some [(.b false)]) else
          (Option.bind (nameZone [(.s s_0)]) fun r_565 =>
           onB r_565 fun b_564 ds_569 =>
           bif (decide (1 ≤ (i64 (Int.tmod n_0 40)))) then (bif (decide ((i64 (Int.tmod n_0 40)) ≤ 14)) then (bif (!(b_564 == true)) then (some [(.b false)]) else
             (Option.bind (F_name_Letter [(.s s_0)]) fun r_566 =>
              onB r_566 fun b_565 ds_570 =>
              bif (!b_565) then (Option.bind (F_name_Set [(.s s_0)]) fun r_567 =>
               onB r_567 fun b_566 ds_571 =>
               bif (!b_566) then (Option.bind (F_law07_works []) fun r_568 =>
                onB r_568 fun b_567 ds_572 =>
                some [(.b b_567)]) else
               (bif (decide (14 < (((s_0).length : Nat) : Int))) then (Option.bind (F_law07_works []) fun r_569 =>
                 onB r_569 fun b_568 ds_573 =>
                 some [(.b b_568)]) else
                (Option.bind (nameZone [(.s s_0)]) fun r_570 =>
                 onB r_570 fun b_569 ds_574 =>
                 bif b_569 then (Option.bind (F_law07_works []) fun r_571 =>
                  onB r_571 fun b_570 ds_575 =>
                  some [(.b b_570)]) else
                 (some [(.b false)])))) else
              (Option.bind (F_name_Set [(.s s_0)]) fun r_572 =>
               onB r_572 fun b_571 ds_576 =>
               bif b_571 then (Option.bind (F_name_Set [(.s s_0)]) fun r_573 =>
                onB r_573 fun b_572 ds_577 =>
                bif (!b_572) then (Option.bind (F_law07_works []) fun r_574 =>
                 onB r_574 fun b_573 ds_578 =>
                 some [(.b b_573)]) else
                (bif (decide (14 < (((s_0).length : Nat) : Int))) then (Option.bind (F_law07_works []) fun r_575 =>
                  onB r_575 fun b_574 ds_579 =>
                  some [(.b b_574)]) else
                 (Option.bind (nameZone [(.s s_0)]) fun r_576 =>
                  onB r_576 fun b_575 ds_580 =>
                  bif b_575 then (Option.bind (F_law07_works []) fun r_577 =>
                   onB r_577 fun b_576 ds_581 =>
                   some [(.b b_576)]) else
                  (some [(.b false)])))) else
               (some [(.b false)])))) else
            (bif (!(b_564 == false)) then (some [(.b false)]) else
             (Option.bind (F_name_Letter [(.s s_0)]) fun r_578 =>
              onB r_578 fun b_577 ds_582 =>
              bif (!b_577) then (Option.bind (F_name_Set [(.s s_0)]) fun r_579 =>
               onB r_579 fun b_578 ds_583 =>
               bif (!b_578) then (Option.bind (F_law07_works []) fun r_580 =>
                onB r_580 fun b_579 ds_584 =>
                some [(.b b_579)]) else
               (bif (decide (14 < (((s_0).length : Nat) : Int))) then (Option.bind (F_law07_works []) fun r_581 =>
                 onB r_581 fun b_580 ds_585 =>
                 some [(.b b_580)]) else
                (Option.bind (nameZone [(.s s_0)]) fun r_582 =>
                 onB r_582 fun b_581 ds_586 =>
                 bif b_581 then (Option.bind (F_law07_works []) fun r_583 =>
                  onB r_583 fun b_582 ds_587 =>
                  some [(.b b_582)]) else
                 (some [(.b false)])))) else
              (Option.bind (F_name_Set [(.s s_0)]) fun r_584 =>
               onB r_584 fun b_583 ds_588 =>
               bif b_583 then (Option.bind (F_name_Set [(.s s_0)]) fun r_585 =>
                onB r_585 fun b_584 ds_589 =>
                bif (!b_584) then (Option.bind (F_law07_works []) fun r_586 =>
                 onB r_586 fun b_585 ds_590 =>
                 some [(.b b_585)]) else
                (bif (decide (14 < (((s_0).length : Nat) : Int))) then (Option.bind (F_law07_works []) fun r_587 =>
                  onB r_587 fun b_586 ds_591 =>
                  some [(.b b_586)]) else
                 (Option.bind (nameZone [(.s s_0)]) fun r_588 =>
                  onB r_588 fun b_587 ds_592 =>
                  bif b_587 then (Option.bind (F_law07_works []) fun r_589 =>
                   onB r_589 fun b_588 ds_593 =>
                   some [(.b b_588)]) else
                  (some [(.b false)])))) else
               (some [(.b false)]))))) else
           (bif (!(b_564 == false)) then (some [(.b false)]) else
            (Option.bind (F_name_Letter [(.s s_0)]) fun r_590 =>
             onB r_590 fun b_589 ds_594 =>
             bif (!b_589) then (Option.bind (F_name_Set [(.s s_0)]) fun r_591 =>
              onB r_591 fun b_590 ds_595 =>
              bif (!b_590) then (Option.bind (F_law07_works []) fun r_592 =>
               onB r_592 fun b_591 ds_596 =>
               some [(.b b_591)]) else
              (bif (decide (14 < (((s_0).length : Nat) : Int))) then (Option.bind (F_law07_works []) fun r_593 =>
                onB r_593 fun b_592 ds_597 =>
                some [(.b b_592)]) else
               (Option.bind (nameZone [(.s s_0)]) fun r_594 =>
                onB r_594 fun b_593 ds_598 =>
                bif b_593 then (Option.bind (F_law07_works []) fun r_595 =>
                 onB r_595 fun b_594 ds_599 =>
                 some [(.b b_594)]) else
                (some [(.b false)])))) else
             (Option.bind (F_name_Set [(.s s_0)]) fun r_596 =>
              onB r_596 fun b_595 ds_600 =>
              bif b_595 then (Option.bind (F_name_Set [(.s s_0)]) fun r_597 =>
               onB r_597 fun b_596 ds_601 =>
               bif (!b_596) then (Option.bind (F_law07_works []) fun r_598 =>
                onB r_598 fun b_597 ds_602 =>
                some [(.b b_597)]) else
               (bif (decide (14 < (((s_0).length : Nat) : Int))) then (Option.bind (F_law07_works []) fun r_599 =>
                 onB r_599 fun b_598 ds_603 =>
                 some [(.b b_598)]) else
                (Option.bind (nameZone [(.s s_0)]) fun r_600 =>
                 onB r_600 fun b_599 ds_604 =>
                 bif b_599 then (Option.bind (F_law07_works []) fun r_601 =>
                  onB r_601 fun b_600 ds_605 =>
                  some [(.b b_600)]) else
                 (some [(.b false)])))) else
              (some [(.b false)])))))) else
         (bif (!(b_563 == false)) then (some [(.b false)]) else
          (Option.bind (nameZone [(.s s_0)]) fun r_602 =>
           onB r_602 fun b_601 ds_606 =>
           bif (decide (1 ≤ (i64 (Int.tmod n_0 40)))) then (bif (decide ((i64 (Int.tmod n_0 40)) ≤ 14)) then (bif (!(b_601 == true)) then (some [(.b false)]) else
             (Option.bind (F_name_Letter [(.s s_0)]) fun r_603 =>
              onB r_603 fun b_602 ds_607 =>
              bif (!b_602) then (Option.bind (F_name_Set [(.s s_0)]) fun r_604 =>
               onB r_604 fun b_603 ds_608 =>
               bif (!b_603) then (Option.bind (F_law07_works []) fun r_605 =>
                onB r_605 fun b_604 ds_609 =>
                some [(.b b_604)]) else
               (bif (decide (14 < (((s_0).length : Nat) : Int))) then (Option.bind (F_law07_works []) fun r_606 =>
                 onB r_606 fun b_605 ds_610 =>
                 some [(.b b_605)]) else
                (Option.bind (nameZone [(.s s_0)]) fun r_607 =>
                 onB r_607 fun b_606 ds_611 =>
                 bif b_606 then (Option.bind (F_law07_works []) fun r_608 =>
                  onB r_608 fun b_607 ds_612 =>
                  some [(.b b_607)]) else
                 (some [(.b false)])))) else
              (Option.bind (F_name_Set [(.s s_0)]) fun r_609 =>
               onB r_609 fun b_608 ds_613 =>
               bif b_608 then (Option.bind (F_name_Set [(.s s_0)]) fun r_610 =>
                onB r_610 fun b_609 ds_614 =>
                bif (!b_609) then (Option.bind (F_law07_works []) fun r_611 =>
                 onB r_611 fun b_610 ds_615 =>
                 some [(.b b_610)]) else
                (bif (decide (14 < (((s_0).length : Nat) : Int))) then (Option.bind (F_law07_works []) fun r_612 =>
                  onB r_612 fun b_611 ds_616 =>
                  some [(.b b_611)]) else
                 (Option.bind (nameZone [(.s s_0)]) fun r_613 =>
                  onB r_613 fun b_612 ds_617 =>
                  bif b_612 then (Option.bind (F_law07_works []) fun r_614 =>
                   onB r_614 fun b_613 ds_618 =>
                   some [(.b b_613)]) else
                  (some [(.b false)])))) else
               (some [(.b false)])))) else
            (bif (!(b_601 == false)) then (some [(.b false)]) else
             (Option.bind (F_name_Letter [(.s s_0)]) fun r_615 =>
              onB r_615 fun b_614 ds_619 =>
              bif (!b_614) then (Option.bind (F_name_Set [(.s s_0)]) fun r_616 =>
               onB r_616 fun b_615 ds_620 =>
               bif (!b_615) then (Option.bind (F_law07_works []) fun r_617 =>
                onB r_617 fun b_616 ds_621 =>
                some [(.b b_616)]) else
               (bif (decide (14 < (((s_0).length : Nat) : Int))) then (Option.bind (F_law07_works []) fun r_618 =>
                 onB r_618 fun b_617 ds_622 =>
                 some [(.b b_617)]) else
                (Option.bind (nameZone [(.s s_0)]) fun r_619 =>
                 onB r_619 fun b_618 ds_623 =>
                 bif b_618 then (Option.bind (F_law07_works []) fun r_620 =>
                  onB r_620 fun b_619 ds_624 =>
                  some [(.b b_619)]) else
                 (some [(.b false)])))) else
              (Option.bind (F_name_Set [(.s s_0)]) fun r_621 =>
               onB r_621 fun b_620 ds_625 =>
               bif b_620 then (Option.bind (F_name_Set [(.s s_0)]) fun r_622 =>
                onB r_622 fun b_621 ds_626 =>
                bif (!b_621) then (Option.bind (F_law07_works []) fun r_623 =>
                 onB r_623 fun b_622 ds_627 =>
                 some [(.b b_622)]) else
                (bif (decide (14 < (((s_0).length : Nat) : Int))) then (Option.bind (F_law07_works []) fun r_624 =>
                  onB r_624 fun b_623 ds_628 =>
                  some [(.b b_623)]) else
                 (Option.bind (nameZone [(.s s_0)]) fun r_625 =>
                  onB r_625 fun b_624 ds_629 =>
                  bif b_624 then (Option.bind (F_law07_works []) fun r_626 =>
                   onB r_626 fun b_625 ds_630 =>
                   some [(.b b_625)]) else
                  (some [(.b false)])))) else
               (some [(.b false)]))))) else
           (bif (!(b_601 == false)) then (some [(.b false)]) else
            (Option.bind (F_name_Letter [(.s s_0)]) fun r_627 =>
             onB r_627 fun b_626 ds_631 =>
             bif (!b_626) then (Option.bind (F_name_Set [(.s s_0)]) fun r_628 =>
              onB r_628 fun b_627 ds_632 =>
              bif (!b_627) then (Option.bind (F_law07_works []) fun r_629 =>
               onB r_629 fun b_628 ds_633 =>
               some [(.b b_628)]) else
              (bif (decide (14 < (((s_0).length : Nat) : Int))) then (Option.bind (F_law07_works []) fun r_630 =>
                onB r_630 fun b_629 ds_634 =>
                some [(.b b_629)]) else
               (Option.bind (nameZone [(.s s_0)]) fun r_631 =>
                onB r_631 fun b_630 ds_635 =>
                bif b_630 then (Option.bind (F_law07_works []) fun r_632 =>
                 onB r_632 fun b_631 ds_636 =>
                 some [(.b b_631)]) else
                (some [(.b false)])))) else
             (Option.bind (F_name_Set [(.s s_0)]) fun r_633 =>
              onB r_633 fun b_632 ds_637 =>
              bif b_632 then (Option.bind (F_name_Set [(.s s_0)]) fun r_634 =>
               onB r_634 fun b_633 ds_638 =>
               bif (!b_633) then (Option.bind (F_law07_works []) fun r_635 =>
                onB r_635 fun b_634 ds_639 =>
                some [(.b b_634)]) else
               (bif (decide (14 < (((s_0).length : Nat) : Int))) then (Option.bind (F_law07_works []) fun r_636 =>
                 onB r_636 fun b_635 ds_640 =>
                 some [(.b b_635)]) else
                (Option.bind (nameZone [(.s s_0)]) fun r_637 =>
                 onB r_637 fun b_636 ds_641 =>
                 bif b_636 then (Option.bind (F_law07_works []) fun r_638 =>
                  onB r_638 fun b_637 ds_642 =>
                  some [(.b b_637)]) else
                 (some [(.b false)])))) else
              (some [(.b false)]))))))) else
        (bif (!(b_563 == false)) then (some [(.b false)]) else
         (Option.bind (nameZone [(.s s_0)]) fun r_639 =>
          onB r_639 fun b_638 ds_643 =>
          bif (decide (1 ≤ (i64 (Int.tmod n_0 40)))) then (bif (decide ((i64 (Int.tmod n_0 40)) ≤ 14)) then (bif (!(b_638 == true)) then (some [(.b false)]) else
            (Option.bind (F_name_Letter [(.s s_0)]) fun r_640 =>
             onB r_640 fun b_639 ds_644 =>
             bif (!b_639) then (Option.bind (F_name_Set [(.s s_0)]) fun r_641 =>
              onB r_641 fun b_640 ds_645 =>
              bif (!b_640) then (Option.bind (F_law07_works []) fun r_642 =>
               onB r_642 fun b_641 ds_646 =>
               some [(.b b_641)]) else
              (bif (decide (14 < (((s_0).length : Nat) : Int))) then (Option.bind (F_law07_works []) fun r_643 =>
                onB r_643 fun b_642 ds_647 =>
                some [(.b b_642)]) else
               (Option.bind (nameZone [(.s s_0)]) fun r_644 =>
                onB r_644 fun b_643 ds_648 =>
                bif b_643 then (Option.bind (F_law07_works []) fun r_645 =>
                 onB r_645 fun b_644 ds_649 =>
                 some [(.b b_644)]) else
                (some [(.b false)])))) else
             (Option.bind (F_name_Set [(.s s_0)]) fun r_646 =>
              onB r_646 fun b_645 ds_650 =>
              bif b_645 then (Option.bind (F_name_Set [(.s s_0)]) fun r_647 =>
               onB r_647 fun b_646 ds_651 =>
               bif (!b_646) then (Option.bind (F_law07_works []) fun r_648 =>
                onB r_648 fun b_647 ds_652 =>
                some [(.b b_647)]) else
               (bif (decide (14 < (((s_0).length : Nat) : Int))) then (Option.bind (F_law07_works []) fun r_649 =>
                 onB r_649 fun b_648 ds_653 =>
                 some [(.b b_648)]) else
                (Option.bind (nameZone [(.s s_0)]) fun r_650 =>
                 onB r_650 fun b_649 ds_654 =>
                 bif b_649 then (Option.bind (F_law07_works []) fun r_651 =>
                  onB r_651 fun b_650 ds_655 =>
                  some [(.b b_650)]) else
                 (some [(.b false)])))) else
              (some [(.b false)])))) else
           (bif (!(b_638 == false)) then (some [(.b false)]) else
            (Option.bind (F_name_Letter [(.s s_0)]) fun r_652 =>
             onB r_652 fun b_651 ds_656 =>
             bif (!b_651) then (Option.bind (F_name_Set [(.s s_0)]) fun r_653 =>
              onB r_653 fun b_652 ds_657 =>
              bif (!b_652) then (Option.bind (F_law07_works []) fun r_654 =>
               onB r_654 fun b_653 ds_658 =>
               some [(.b b_653)]) else
              (bif (decide (14 < (((s_0).length : Nat) : Int))) then (Option.bind (F_law07_works []) fun r_655 =>
                onB r_655 fun b_654 ds_659 =>
                some [(.b b_654)]) else
               (Option.bind (nameZone [(.s s_0)]) fun r_656 =>
                onB r_656 fun b_655 ds_660 =>
                bif b_655 then (Option.bind (F_law07_works []) fun r_657 =>
                 onB r_657 fun b_656 ds_661 =>
                 some [(.b b_656)]) else
                (some [(.b false)])))) else
             (Option.bind (F_name_Set [(.s s_0)]) fun r_658 =>
              onB r_658 fun b_657 ds_662 =>
              bif b_657 then (Option.bind (F_name_Set [(.s s_0)]) fun r_659 =>
               onB r_659 fun b_658 ds_663 =>
               bif (!b_658) then (Option.bind (F_law07_works []) fun r_660 =>
                onB r_660 fun b_659 ds_664 =>
                some [(.b b_659)]) else
               (bif (decide (14 < (((s_0).length : Nat) : Int))) then (Option.bind (F_law07_works []) fun r_661 =>
                 onB r_661 fun b_660 ds_665 =>
                 some [(.b b_660)]) else
                (Option.bind (nameZone [(.s s_0)]) fun r_662 =>
                 onB r_662 fun b_661 ds_666 =>
                 bif b_661 then (Option.bind (F_law07_works []) fun r_663 =>
                  onB r_663 fun b_662 ds_667 =>
                  some [(.b b_662)]) else
                 (some [(.b false)])))) else
              (some [(.b false)]))))) else
          (bif (!(b_638 == false)) then (some [(.b false)]) else
           (Option.bind (F_name_Letter [(.s s_0)]) fun r_664 =>
            onB r_664 fun b_663 ds_668 =>
            bif (!b_663) then (Option.bind (F_name_Set [(.s s_0)]) fun r_665 =>
             onB r_665 fun b_664 ds_669 =>
             bif (!b_664) then (Option.bind (F_law07_works []) fun r_666 =>
              onB r_666 fun b_665 ds_670 =>
              some [(.b b_665)]) else
             (bif (decide (14 < (((s_0).length : Nat) : Int))) then (Option.bind (F_law07_works []) fun r_667 =>
               onB r_667 fun b_666 ds_671 =>
               some [(.b b_666)]) else
              (Option.bind (nameZone [(.s s_0)]) fun r_668 =>
               onB r_668 fun b_667 ds_672 =>
               bif b_667 then (Option.bind (F_law07_works []) fun r_669 =>
                onB r_669 fun b_668 ds_673 =>
                some [(.b b_668)]) else
               (some [(.b false)])))) else
            (Option.bind (F_name_Set [(.s s_0)]) fun r_670 =>
             onB r_670 fun b_669 ds_674 =>
             bif b_669 then (Option.bind (F_name_Set [(.s s_0)]) fun r_671 =>
              onB r_671 fun b_670 ds_675 =>
              bif (!b_670) then (Option.bind (F_law07_works []) fun r_672 =>
               onB r_672 fun b_671 ds_676 =>
               some [(.b b_671)]) else
              (bif (decide (14 < (((s_0).length : Nat) : Int))) then (Option.bind (F_law07_works []) fun r_673 =>
                onB r_673 fun b_672 ds_677 =>
                some [(.b b_672)]) else
               (Option.bind (nameZone [(.s s_0)]) fun r_674 =>
                onB r_674 fun b_673 ds_678 =>
                bif b_673 then (Option.bind (F_law07_works []) fun r_675 =>
                 onB r_675 fun b_674 ds_679 =>
                 some [(.b b_674)]) else
                (some [(.b false)])))) else
             (some [(.b false)]))))))))))) else
   (bif (!(b_0 == false)) then (some [(.b false)]) else
    (Option.bind (F_name_Abbr [(.s s_0)]) fun r_676 =>
     onB r_676 fun b_675 ds_680 =>
     bif (decide (3 ≤ (i64 (Int.tmod n_0 40)))) then (bif (decide ((i64 (Int.tmod n_0 40)) ≤ 6)) then (bif (!(b_675 == true)) then (some [(.b false)]) else
       (Option.bind (F_name_Set [(.s s_0)]) fun r_677 =>
        onB r_677 fun b_676 ds_681 =>
        bif (decide (1 ≤ (i64 (Int.tmod n_0 40)))) then (bif (decide ((i64 (Int.tmod n_0 40)) ≤ 30)) then (bif (!(b_676 == true)) then (some [(.b false)]) else
          (Option.bind (nameZone [(.s s_0)]) fun r_678 =>
           onB r_678 fun b_677 ds_682 =>
           bif (decide (1 ≤ (i64 (Int.tmod n_0 40)))) then (bif (decide ((i64 (Int.tmod n_0 40)) ≤ 14)) then (bif (!(b_677 == true)) then (some [(.b false)]) else
             (Option.bind (F_name_Letter [(.s s_0)]) fun r_679 =>
              onB r_679 fun b_678 ds_683 =>
              bif (!b_678) then (Option.bind (F_name_Set [(.s s_0)]) fun r_680 =>
               onB r_680 fun b_679 ds_684 =>
               bif (!b_679) then (Option.bind (F_law07_works []) fun r_681 =>
                onB r_681 fun b_680 ds_685 =>
                some [(.b b_680)]) else
               (bif (decide (14 < (((s_0).length : Nat) : Int))) then (Option.bind (F_law07_works []) fun r_682 =>
                 onB r_682 fun b_681 ds_686 =>
                 some [(.b b_681)]) else
                (Option.bind (nameZone [(.s s_0)]) fun r_683 =>
                 onB r_683 fun b_682 ds_687 =>
                 bif b_682 then (Option.bind (F_law07_works []) fun r_684 =>
                  onB r_684 fun b_683 ds_688 =>
                  some [(.b b_683)]) else
                 (some [(.b false)])))) else
              (Option.bind (F_name_Set [(.s s_0)]) fun r_685 =>
               onB r_685 fun b_684 ds_689 =>
               bif b_684 then (Option.bind (F_name_Set [(.s s_0)]) fun r_686 =>
                onB r_686 fun b_685 ds_690 =>
                bif (!b_685) then (Option.bind (F_law07_works []) fun r_687 =>
                 onB r_687 fun b_686 ds_691 =>
                 some [(.b b_686)]) else
                (bif (decide (14 < (((s_0).length : Nat) : Int))) then (Option.bind (F_law07_works []) fun r_688 =>
                  onB r_688 fun b_687 ds_692 =>
                  some [(.b b_687)]) else
                 (Option.bind (nameZone [(.s s_0)]) fun r_689 =>
                  onB r_689 fun b_688 ds_693 =>
                  bif b_688 then (Option.bind (F_law07_works []) fun r_690 =>
                   onB r_690 fun b_689 ds_694 =>
                   some [(.b b_689)]) else
                  (some [(.b false)])))) else
               (some [(.b false)])))) else
            (bif (!(b_677 == false)) then (some [(.b false)]) else
             (Option.bind (F_name_Letter [(.s s_0)]) fun r_691 =>
              onB r_691 fun b_690 ds_695 =>
              bif (!b_690) then (Option.bind (F_name_Set [(.s s_0)]) fun r_692 =>
               onB r_692 fun b_691 ds_696 =>
               bif (!b_691) then (Option.bind (F_law07_works []) fun r_693 =>
                onB r_693 fun b_692 ds_697 =>
                some [(.b b_692)]) else
               (bif (decide (14 < (((s_0).length : Nat) : Int))) then (Option.bind (F_law07_works []) fun r_694 =>
                 onB r_694 fun b_693 ds_698 =>
                 some [(.b b_693)]) else
                (Option.bind (nameZone [(.s s_0)]) fun r_695 =>
                 onB r_695 fun b_694 ds_699 =>
                 bif b_694 then (Option.bind (F_law07_works []) fun r_696 =>
                  onB r_696 fun b_695 ds_700 =>
                  some [(.b b_695)]) else
                 (some [(.b false)])))) else
              (Option.bind (F_name_Set [(.s s_0)]) fun r_697 =>
               onB r_697 fun b_696 ds_701 =>
               bif b_696 then (Option.bind (F_name_Set [(.s s_0)]) fun r_698 =>
                onB r_698 fun b_697 ds_702 =>
                bif (!b_697) then (Option.bind (F_law07_works []) fun r_699 =>
                 onB r_699 fun b_698 ds_703 =>
                 some [(.b b_698)]) else
                (bif (decide (14 < (((s_0).length : Nat) : Int))) then (Option.bind (F_law07_works []) fun r_700 =>
                  onB r_700 fun b_699 ds_704 =>
                  some [(.b b_699)]) else
                 (Option.bind (nameZone [(.s s_0)]) fun r_701 =>
                  onB r_701 fun b_700 ds_705 =>
                  bif b_700 then (Option.bind (F_law07_works []) fun r_702 =>
                   onB r_702 fun b_701 ds_706 =>
                   some [(.b b_701)]) else
                  (some [(.b false)])))) else
               (some [(.b false)]))))) else
           (bif (!(b_677 == false)) then (some [(.b false)]) else
            (Option.bind (F_name_Letter [(.s s_0)]) fun r_703 =>
             onB r_703 fun b_702 ds_707 =>
             bif (!b_702) then (Option.bind (F_name_Set [(.s s_0)]) fun r_704 =>
              onB r_704 fun b_703 ds_708 =>
              bif (!b_703) then (Option.bind (F_law07_works []) fun r_705 =>
               onB r_705 fun b_704 ds_709 =>
               some [(.b b_704)]) else
              (bif (decide (14 < (((s_0).length : Nat) : Int))) then (Option.bind (F_law07_works []) fun r_706 =>
                onB r_706 fun b_705 ds_710 =>
                some [(.b b_705)]) else
               (Option.bind (nameZone [(.s s_0)]) fun r_707 =>
                onB r_707 fun b_706 ds_711 =>
                bif b_706 then (Option.bind (F_law07_works []) fun r_708 =>
                 onB r_708 fun b_707 ds_712 =>
                 some [(.b b_707)]) else
                (some [(.b false)])))) else
             (Option.bind (F_name_Set [(.s s_0)]) fun r_709 =>
              onB r_709 fun b_708 ds_713 =>
              bif b_708 then (Option.bind (F_name_Set [(.s s_0)]) fun r_710 =>
               onB r_710 fun b_709 ds_714 =>
               bif (!b_709) then (Option.bind (F_law07_works []) fun r_711 =>
                onB r_711 fun b_710 ds_715 =>
                some [(.b b_710)]) else
               (bif (decide (14 < (((s_0).length : Nat) : Int))) then (Option.bind (F_law07_works []) fun r_712 =>
                 onB r_712 fun b_711 ds_716 =>
                 some [(.b b_711)]) else
                (Option.bind (nameZone [(.s s_0)]) fun r_713 =>
                 onB r_713 fun b_712 ds_717 =>
                 bif b_712 then (Option.bind (F_law07_works []) fun r_714 =>
                  onB r_714 fun b_713 ds_718 =>
                  some [(.b b_713)]) else
                 (some [(.b false)])))) else
              (some [(.b false)])))))) else
         (bif (!(b_676 == false)) then (some [(.b false)]) else
          (Option.bind (nameZone [(.s s_0)]) fun r_715 =>
           onB r_715 fun b_714 ds_719 =>
           bif (decide (1 ≤ (i64 (Int.tmod n_0 40)))) then (bif (decide ((i64 (Int.tmod n_0 40)) ≤ 14)) then (bif (!(b_714 == true)) then (some [(.b false)]) else
             (Option.bind (F_name_Letter [(.s s_0)]) fun r_716 =>
              onB r_716 fun b_715 ds_720 =>
              bif (!b_715) then (Option.bind (F_name_Set [(.s s_0)]) fun r_717 =>
               onB r_717 fun b_716 ds_721 =>
               bif (!b_716) then (Option.bind (F_law07_works []) fun r_718 =>
                onB r_718 fun b_717 ds_722 =>
                some [(.b b_717)]) else
               (bif (decide (14 < (((s_0).length : Nat) : Int))) then (Option.bind (F_law07_works []) fun r_719 =>
                 onB r_719 fun b_718 ds_723 =>
                 some [(.b b_718)]) else
                (Option.bind (nameZone [(.s s_0)]) fun r_720 =>
                 onB r_720 fun b_719 ds_724 =>
                 bif b_719 then (Option.bind (F_law07_works []) fun r_721 =>
                  onB r_721 fun b_720 ds_725 =>
                  some [(.b b_720)]) else
                 (some [(.b false)])))) else
              (Option.bind (F_name_Set [(.s s_0)]) fun r_722 =>
               onB r_722 fun b_721 ds_726 =>
               bif b_721 then (Option.bind (F_name_Set [(.s s_0)]) fun r_723 =>
                onB r_723 fun b_722 ds_727 =>
                bif (!b_722) then (Option.bind (F_law07_works []) fun r_724 =>
                 onB r_724 fun b_723 ds_728 =>
                 some [(.b b_723)]) else
                (bif (decide (14 < (((s_0).length : Nat) : Int))) then (Option.bind (F_law07_works []) fun r_725 =>
                  onB r_725 fun b_724 ds_729 =>
                  some [(.b b_724)]) else
                 (Option.bind (nameZone [(.s s_0)]) fun r_726 =>
                  onB r_726 fun b_725 ds_730 =>
                  bif b_725 then (Option.bind (F_law07_works []) fun r_727 =>
                   onB r_727 fun b_726 ds_731 =>
                   some [(.b b_726)]) else
                  (some [(.b false)])))) else
               (some [(.b false)])))) else
            (bif (!(b_714 == false)) then (some [(.b false)]) else
             (Option.bind (F_name_Letter [(.s s_0)]) fun r_728 =>
              onB r_728 fun b_727 ds_732 =>
              bif (!b_727) then (Option.bind (F_name_Set [(.s s_0)]) fun r_729 =>
               onB r_729 fun b_728 ds_733 =>
               bif (!b_728) then (Option.bind (F_law07_works []) fun r_730 =>
                onB r_730 fun b_729 ds_734 =>
                some [(.b b_729)]) else
               (bif (decide (14 < (((s_0).length : Nat) : Int))) then (Option.bind (F_law07_works []) fun r_731 =>
                 onB r_731 fun b_730 ds_735 =>
                 some [(.b b_730)]) else
                (Option.bind (nameZone [(.s s_0)]) fun r_732 =>
                 onB r_732 fun b_731 ds_736 =>
                 bif b_731 then (Option.bind (F_law07_works []) fun r_733 =>
                  onB r_733 fun b_732 ds_737 =>
                  some [(.b b_732)]) else
                 (some [(.b false)])))) else
              (Option.bind (F_name_Set [(.s s_0)]) fun r_734 =>
               onB r_734 fun b_733 ds_738 =>
               bif b_733 then (Option.bind (F_name_Set [(.s s_0)]) fun r_735 =>
                onB r_735 fun b_734 ds_739 =>
                bif (!b_734) then (Option.bind (F_law07_works []) fun r_736 =>
                 onB r_736 fun b_735 ds_740 =>
                 some [(.b b_735)]) else
                (bif (decide (14 < (((s_0).length : Nat) : Int))) then (Option.bind (F_law07_works []) fun r_737 =>
                  onB r_737 fun b_736 ds_741 =>
                  some [(.b b_736)]) else
                 (Option.bind (nameZone [(.s s_0)]) fun r_738 =>
                  onB r_738 fun b_737 ds_742 =>
                  bif b_737 then (Option.bind (F_law07_works []) fun r_739 =>
                   onB r_739 fun b_738 ds_743 =>
                   some [(.b b_738)]) else
                  (some [(.b false)])))) else
               (some [(.b false)]))))) else
           (bif (!(b_714 == false)) then (some [(.b false)]) else
            (Option.bind (F_name_Letter [(.s s_0)]) fun r_740 =>
             onB r_740 fun b_739 ds_744 =>
             bif (!b_739) then (Option.bind (F_name_Set [(.s s_0)]) fun r_741 =>
              onB r_741 fun b_740 ds_745 =>
              bif (!b_740) then (Option.bind (F_law07_works []) fun r_742 =>
               onB r_742 fun b_741 ds_746 =>
               some [(.b b_741)]) else
              (bif (decide (14 < (((s_0).length : Nat) : Int))) then (Option.bind (F_law07_works []) fun r_743 =>
                onB r_743 fun b_742 ds_747 =>
                some [(.b b_742)]) else
               (Option.bind (nameZone [(.s s_0)]) fun r_744 =>
                onB r_744 fun b_743 ds_748 =>
                bif b_743 then (Option.bind (F_law07_works []) fun r_745 =>
                 onB r_745 fun b_744 ds_749 =>
                 some [(.b b_744)]) else
                (some [(.b false)])))) else
             (Option.bind (F_name_Set [(.s s_0)]) fun r_746 =>
              onB r_746 fun b_745 ds_750 =>
              bif b_745 then (Option.bind (F_name_Set [(.s s_0)]) fun r_747 =>
               onB r_747 fun b_746 ds_751 =>
               bif (!b_746) then (Option.bind (F_law07_works []) fun r_748 =>
                onB r_748 fun b_747 ds_752 =>
                some [(.b b_747)]) else
               (bif (decide (14 < (((s_0).length : Nat) : Int))) then (Option.bind (F_law07_works []) fun r_749 =>
                 onB r_749 fun b_748 ds_753 =>
                 some [(.b b_748)]) else
                (Option.bind (nameZone [(.s s_0)]) fun r_750 =>
                 onB r_750 fun b_749 ds_754 =>
                 bif b_749 then (Option.bind (F_law07_works []) fun r_751 =>
                  onB r_751 fun b_750 ds_755 =>
                  some [(.b b_750)]) else
                 (some [(.b false)])))) else
              (some [(.b false)]))))))) else
        (bif (!(b_676 == false)) then (some [(.b false)]) else
         (Option.bind (nameZone [(.s s_0)]) fun r_752 =>
          onB r_752 fun b_751 ds_756 =>
          bif (decide (1 ≤ (i64 (Int.tmod n_0 40)))) then (bif (decide ((i64 (Int.tmod n_0 40)) ≤ 14)) then (bif (!(b_751 == true)) then (some [(.b false)]) else
            (Option.bind (F_name_Letter [(.s s_0)]) fun r_753 =>
             onB r_753 fun b_752 ds_757 =>
             bif (!b_752) then (Option.bind (F_name_Set [(.s s_0)]) fun r_754 =>
              onB r_754 fun b_753 ds_758 =>
              bif (!b_753) then (Option.bind (F_law07_works []) fun r_755 =>
               onB r_755 fun b_754 ds_759 =>
               some [(.b b_754)]) else
              (bif (decide (14 < (((s_0).length : Nat) : Int))) then (Option.bind (F_law07_works []) fun r_756 =>
                onB r_756 fun b_755 ds_760 =>
                some [(.b b_755)]) else
               (Option.bind (nameZone [(.s s_0)]) fun r_757 =>
                onB r_757 fun b_756 ds_761 =>
                bif b_756 then (Option.bind (F_law07_works []) fun r_758 =>
                 onB r_758 fun b_757 ds_762 =>
                 some [(.b b_757)]) else
                (some [(.b false)])))) else
             (Option.bind (F_name_Set [(.s s_0)]) fun r_759 =>
              onB r_759 fun b_758 ds_763 =>
              bif b_758 then (Option.bind (F_name_Set [(.s s_0)]) fun r_760 =>
               onB r_760 fun b_759 ds_764 =>
               bif (!b_759) then (Option.bind (F_law07_works []) fun r_761 =>
                onB r_761 fun b_760 ds_765 =>
                some [(.b b_760)]) else
               (bif (decide (14 < (((s_0).length : Nat) : Int))) then (Option.bind (F_law07_works []) fun r_762 =>
                 onB r_762 fun b_761 ds_766 =>
                 some [(.b b_761)]) else
                (Option.bind (nameZone [(.s s_0)]) fun r_763 =>
                 onB r_763 fun b_762 ds_767 =>
                 bif b_762 then (Option.bind (F_law07_works []) fun r_764 =>
                  onB r_764 fun b_763 ds_768 =>
                  some [(.b b_763)]) else
                 (some [(.b false)])))) else
              (some [(.b false)])))) else
           (bif (!(b_751 == false)) then (some [(.b false)]) else
            (Option.bind (F_name_Letter [(.s s_0)]) fun r_765 =>
             onB r_765 fun b_764 ds_769 =>
             bif (!b_764) then (Option.bind (F_name_Set [(.s s_0)]) fun r_766 =>
              onB r_766 fun b_765 ds_770 =>
              bif (!b_765) then (Option.bind (F_law07_works []) fun r_767 =>
               onB r_767 fun b_766 ds_771 =>
               some [(.b b_766)]) else
              (bif (decide (14 < (((s_0).length : Nat) : Int))) then (Option.bind (F_law07_works []) fun r_768 =>
                onB r_768 fun b_767 ds_772 =>
                some [(.b b_767)]) else
               (Option.bind (nameZone [(.s s_0)]) fun r_769 =>
                onB r_769 fun b_768 ds_773 =>
                bif b_768 then (Option.bind (F_law07_works []) fun r_770 =>
                 onB r_770 fun b_769 ds_774 =>
                 some [(.b b_769)]) else
                (some [(.b false)])))) else
             (Option.bind (F_name_Set [(.s s_0)]) fun r_771 =>
              onB r_771 fun b_770 ds_775 =>
              bif b_770 then (Option.bind (F_name_Set [(.s s_0)]) fun r_772 =>
               onB r_772 fun b_771 ds_776 =>
               bif (!b_771) then (Option.bind (F_law07_works []) fun r_773 =>
                onB r_773 fun b_772 ds_777 =>
                some [(.b b_772)]) else
               (bif (decide (14 < (((s_0).length : Nat) : Int))) then (Option.bind (F_law07_works []) fun r_774 =>
                 onB r_774 fun b_773 ds_778 =>
                 some [(.b b_773)]) else
                (Option.bind (nameZone [(.s s_0)]) fun r_775 =>
                 onB r_775 fun b_774 ds_779 =>
                 bif b_774 then (Option.bind (F_law07_works []) fun r_776 =>
                  onB r_776 fun b_775 ds_780 =>
                  some [(.b b_775)]) else
                 (some [(.b false)])))) else
              (some [(.b false)]))))) else
          (bif (!(b_751 == false)) then (some [(.b false)]) else
           (Option.bind (F_name_Letter [(.s s_0)]) fun r_777 =>
            onB r_777 fun b_776 ds_781 =>
            bif (!b_776) then (Option.bind (F_name_Set [(.s s_0)]) fun r_778 =>
             onB r_778 fun b_777 ds_782 =>
             bif (!b_777) then (Option.bind (F_law07_works []) fun r_779 =>
              onB r_779 fun b_778 ds_783 =>
              some [(.b b_778)]) else
             (bif (decide (14 < (((s_0).length : Nat) : Int))) then (Option.bind (F_law07_works []) fun r_780 =>
               onB r_780 fun b_779 ds_784 =>
               some [(.b b_779)]) else
              (Option.bind (nameZone [(.s s_0)]) fun r_781 =>
               onB r_781 fun b_780 ds_785 =>
               bif b_780 then (Option.bind (F_law07_works []) fun r_782 =>
                onB r_782 fun b_781 ds_786 =>
                some [(.b b_781)]) else
               (some [(.b false)])))) else
            (Option.bind (F_name_Set [(.s s_0)]) fun r_783 =>
             onB r_783 fun b_782 ds_787 =>
             bif b_782 then (Option.bind (F_name_Set [(.s s_0)]) fun r_784 =>
              onB r_784 fun b_783 ds_788 =>
              bif (!b_783) then (Option.bind (F_law07_works []) fun r_785 =>
               onB r_785 fun b_784 ds_789 =>
               some [(.b b_784)]) else
              (bif (decide (14 < (((s_0).length : Nat) : Int))) then (Option.bind (F_law07_works []) fun r_786 =>
                onB r_786 fun b_785 ds_790 =>
                some [(.b b_785)]) else
               (Option.bind (nameZone [(.s s_0)]) fun r_787 =>
                onB r_787 fun b_786 ds_791 =>
                bif b_786 then (Option.bind (F_law07_works []) fun r_788 =>
                 onB r_788 fun b_787 ds_792 =>
                 some [(.b b_787)]) else
                (some [(.b false)])))) else
             (some [(.b false)])))))))) else
      (bif (!(b_675 == false)) then (some [(.b false)]) else
       (Option.bind (F_name_Set [(.s s_0)]) fun r_789 =>
        onB r_789 fun b_788 ds_793 =>
        bif (decide (1 ≤ (i64 (Int.tmod n_0 40)))) then (bif (decide ((i64 (Int.tmod n_0 40)) ≤ 30)) then (bif (!(b_788 == true)) then (some [(.b false)]) else
          (Option.bind (nameZone [(.s s_0)]) fun r_790 =>
           onB r_790 fun b_789 ds_794 =>
           bif (decide (1 ≤ (i64 (Int.tmod n_0 40)))) then (bif (decide ((i64 (Int.tmod n_0 40)) ≤ 14)) then (bif (!(b_789 == true)) then (some [(.b false)]) else
             (Option.bind (F_name_Letter [(.s s_0)]) fun r_791 =>
              onB r_791 fun b_790 ds_795 =>
              bif (!b_790) then (Option.bind (F_name_Set [(.s s_0)]) fun r_792 =>
               onB r_792 fun b_791 ds_796 =>
               bif (!b_791) then (Option.bind (F_law07_works []) fun r_793 =>
                onB r_793 fun b_792 ds_797 =>
                some [(.b b_792)]) else
               (bif (decide (14 < (((s_0).length : Nat) : Int))) then (Option.bind (F_law07_works []) fun r_794 =>
                 onB r_794 fun b_793 ds_798 =>
                 some [(.b b_793)]) else
                (Option.bind (nameZone [(.s s_0)]) fun r_795 =>
                 onB r_795 fun b_794 ds_799 =>
                 bif b_794 then (Option.bind (F_law07_works []) fun r_796 =>
                  onB r_796 fun b_795 ds_800 =>
                  some [(.b b_795)]) else
                 (some [(.b false)])))) else
              (Option.bind (F_name_Set [(.s s_0)]) fun r_797 =>
               onB r_797 fun b_796 ds_801 =>
               bif b_796 then (Option.bind (F_name_Set [(.s s_0)]) fun r_798 =>
                onB r_798 fun b_797 ds_802 =>
                bif (!b_797) then (Option.bind (F_law07_works []) fun r_799 =>
                 onB r_799 fun b_798 ds_803 =>
                 some [(.b b_798)]) else
                (bif (decide (14 < (((s_0).length : Nat) : Int))) then (Option.bind (F_law07_works []) fun r_800 =>
                  onB r_800 fun b_799 ds_804 =>
                  some [(.b b_799)]) else
                 (Option.bind (nameZone [(.s s_0)]) fun r_801 =>
                  onB r_801 fun b_800 ds_805 =>
                  bif b_800 then (Option.bind (F_law07_works []) fun r_802 =>
                   onB r_802 fun b_801 ds_806 =>
                   some [(.b b_801)]) else
                  (some [(.b false)])))) else
               (some [(.b false)])))) else
            (bif (!(b_789 == false)) then (some [(.b false)]) else
             (Option.bind (F_name_Letter [(.s s_0)]) fun r_803 =>
              onB r_803 fun b_802 ds_807 =>
              bif (!b_802) then (Option.bind (F_name_Set [(.s s_0)]) fun r_804 =>
               onB r_804 fun b_803 ds_808 =>
               bif (!b_803) then (Option.bind (F_law07_works []) fun r_805 =>
                onB r_805 fun b_804 ds_809 =>
                some [(.b b_804)]) else
               (bif (decide (14 < (((s_0).length : Nat) : Int))) then (Option.bind (F_law07_works []) fun r_806 =>
                 onB r_806 fun b_805 ds_810 =>
                 some [(.b b_805)]) else
                (Option.bind (nameZone [(.s s_0)]) fun r_807 =>
                 onB r_807 fun b_806 ds_811 =>
                 bif b_806 then (Option.bind (F_law07_works []) fun r_808 =>
                  onB r_808 fun b_807 ds_812 =>
                  some [(.b b_807)]) else
                 (some [(.b false)])))) else
              (Option.bind (F_name_Set [(.s s_0)]) fun r_809 =>
               onB r_809 fun b_808 ds_813 =>
               bif b_808 then (Option.bind (F_name_Set [(.s s_0)]) fun r_810 =>
                onB r_810 fun b_809 ds_814 =>
                bif (!b_809) then (Option.bind (F_law07_works []) fun r_811 =>
                 onB r_811 fun b_810 ds_815 =>
                 some [(.b b_810)]) else
                (bif (decide (14 < (((s_0).length : Nat) : Int))) then (Option.bind (F_law07_works []) fun r_812 =>
                  onB r_812 fun b_811 ds_816 =>
                  some [(.b b_811)]) else
                 (Option.bind (nameZone [(.s s_0)]) fun r_813 =>
                  onB r_813 fun b_812 ds_817 =>
                  bif b_812 then (Option.bind (F_law07_works []) fun r_814 =>
                   onB r_814 fun b_813 ds_818 =>
                   some [(.b b_813)]) else
                  (some [(.b false)])))) else
               (some [(.b false)]))))) else
           (bif (!(b_789 == false)) then (some [(.b false)]) else
            (Option.bind (F_name_Letter [(.s s_0)]) fun r_815 =>
             onB r_815 fun b_814 ds_819 =>
             bif (!b_814) then (Option.bind (F_name_Set [(.s s_0)]) fun r_816 =>
              onB r_816 fun b_815 ds_820 =>
              bif (!b_815) then (Option.bind (F_law07_works []) fun r_817 =>
               onB r_817 fun b_816 ds_821 =>
               some [(.b b_816)]) else
              (bif (decide (14 < (((s_0).length : Nat) : Int))) then (Option.bind (F_law07_works []) fun r_818 =>
                onB r_818 fun b_817 ds_822 =>
                some [(.b b_817)]) else
               (Option.bind (nameZone [(.s s_0)]) fun r_819 =>
                onB r_819 fun b_818 ds_823 =>
                bif b_818 then (Option.bind (F_law07_works []) fun r_820 =>
                 onB r_820 fun b_819 ds_824 =>
                 some [(.b b_819)]) else
                (some [(.b false)])))) else
             (Option.bind (F_name_Set [(.s s_0)]) fun r_821 =>
              onB r_821 fun b_820 ds_825 =>
              bif b_820 then (Option.bind (F_name_Set [(.s s_0)]) fun r_822 =>
               onB r_822 fun b_821 ds_826 =>
               bif (!b_821) then (Option.bind (F_law07_works []) fun r_823 =>
                onB r_823 fun b_822 ds_827 =>
                some [(.b b_822)]) else
               (bif (decide (14 < (((s_0).length : Nat) : Int))) then (Option.bind (F_law07_works []) fun r_824 =>
                 onB r_824 fun b_823 ds_828 =>
                 some [(.b b_823)]) else
                (Option.bind (nameZone [(.s s_0)]) fun r_825 =>
                 onB r_825 fun b_824 ds_829 =>
                 bif b_824 then (Option.bind (F_law07_works []) fun r_826 =>
                  onB r_826 fun b_825 ds_830 =>
                  some [(.b b_825)]) else
                 (some [(.b false)])))) else
              (some [(.b false)])))))) else
         (bif (!(b_788 == false)) then (some [(.b false)]) else
          (Option.bind (nameZone [(.s s_0)]) fun r_827 =>
           onB r_827 fun b_826 ds_831 =>
           bif (decide (1 ≤ (i64 (Int.tmod n_0 40)))) then (bif (decide ((i64 (Int.tmod n_0 40)) ≤ 14)) then (bif (!(b_826 == true)) then (some [(.b false)]) else
             (Option.bind (F_name_Letter [(.s s_0)]) fun r_828 =>
              onB r_828 fun b_827 ds_832 =>
              bif (!b_827) then (Option.bind (F_name_Set [(.s s_0)]) fun r_829 =>
               onB r_829 fun b_828 ds_833 =>
               bif (!b_828) then (Option.bind (F_law07_works []) fun r_830 =>
                onB r_830 fun b_829 ds_834 =>
                some [(.b b_829)]) else
               (bif (decide (14 < (((s_0).length : Nat) : Int))) then (Option.bind (F_law07_works []) fun r_831 =>
                 onB r_831 fun b_830 ds_835 =>
                 some [(.b b_830)]) else
                (Option.bind (nameZone [(.s s_0)]) fun r_832 =>
                 onB r_832 fun b_831 ds_836 =>
                 bif b_831 then (Option.bind (F_law07_works []) fun r_833 =>
                  onB r_833 fun b_832 ds_837 =>
                  some [(.b b_832)]) else
                 (some [(.b false)])))) else
              (Option.bind (F_name_Set [(.s s_0)]) fun r_834 =>
               onB r_834 fun b_833 ds_838 =>
               bif b_833 then (Option.bind (F_name_Set [(.s s_0)]) fun r_835 =>
                onB r_835 fun b_834 ds_839 =>
                bif (!b_834) then (Option.bind (F_law07_works []) fun r_836 =>
                 onB r_836 fun b_835 ds_840 =>
                 some [(.b b_835)]) else
                (bif (decide (14 < (((s_0).length : Nat) : Int))) then (Option.bind (F_law07_works []) fun r_837 =>
                  onB r_837 fun b_836 ds_841 =>
                  some [(.b b_836)]) else
                 (Option.bind (nameZone [(.s s_0)]) fun r_838 =>
                  onB r_838 fun b_837 ds_842 =>
                  bif b_837 then (Option.bind (F_law07_works []) fun r_839 =>
                   onB r_839 fun b_838 ds_843 =>
                   some [(.b b_838)]) else
                  (some [(.b false)])))) else
               (some [(.b false)])))) else
            (bif (!(b_826 == false)) then (some [(.b false)]) else
             (Option.bind (F_name_Letter [(.s s_0)]) fun r_840 =>
              onB r_840 fun b_839 ds_844 =>
              bif (!b_839) then (Option.bind (F_name_Set [(.s s_0)]) fun r_841 =>
               onB r_841 fun b_840 ds_845 =>
               bif (!b_840) then (Option.bind (F_law07_works []) fun r_842 =>
                onB r_842 fun b_841 ds_846 =>
                some [(.b b_841)]) else
               (bif (decide (14 < (((s_0).length : Nat) : Int))) then (Option.bind (F_law07_works []) fun r_843 =>
                 onB r_843 fun b_842 ds_847 =>
                 some [(.b b_842)]) else
                (Option.bind (nameZone [(.s s_0)]) fun r_844 =>
                 onB r_844 fun b_843 ds_848 =>
                 bif b_843 then (Option.bind (F_law07_works []) fun r_845 =>
                  onB r_845 fun b_844 ds_849 =>
                  some [(.b b_844)]) else
                 (some [(.b false)])))) else
              (Option.bind (F_name_Set [(.s s_0)]) fun r_846 =>
               onB r_846 fun b_845 ds_850 =>
               bif b_845 then (Option.bind (F_name_Set [(.s s_0)]) fun r_847 =>
                onB r_847 fun b_846 ds_851 =>
                bif (!b_846) then (Option.bind (F_law07_works []) fun r_848 =>
                 onB r_848 fun b_847 ds_852 =>
                 some [(.b b_847)]) else
                (bif (decide (14 < (((s_0).length : Nat) : Int))) then (Option.bind (F_law07_works []) fun r_849 =>
                  onB r_849 fun b_848 ds_853 =>
                  some [(.b b_848)]) else
                 (Option.bind (nameZone [(.s s_0)]) fun r_850 =>
                  onB r_850 fun b_849 ds_854 =>
                  bif b_849 then (Option.bind (F_law07_works []) fun r_851 =>
                   onB r_851 fun b_850 ds_855 =>
                   some [(.b b_850)]) else
                  (some [(.b false)])))) else
               (some [(.b false)]))))) else
           (bif (!(b_826 == false)) then (some [(.b false)]) else
            (Option.bind (F_name_Letter [(.s s_0)]) fun r_852 =>
             onB r_852 fun b_851 ds_856 =>
             bif (!b_851) then (Option.bind (F_name_Set [(.s s_0)]) fun r_853 =>
              onB r_853 fun b_852 ds_857 =>
              bif (!b_852) then (Option.bind (F_law07_works []) fun r_854 =>
               onB r_854 fun b_853 ds_858 =>
               some [(.b b_853)]) else
              (bif (decide (14 < (((s_0).length : Nat) : Int))) then (Option.bind (F_law07_works []) fun r_855 =>
                onB r_855 fun b_854 ds_859 =>
                some [(.b b_854)]) else
               (Option.bind (nameZone [(.s s_0)]) fun r_856 =>
                onB r_856 fun b_855 ds_860 =>
                bif b_855 then (Option.bind (F_law07_works []) fun r_857 =>
                 onB r_857 fun b_856 ds_861 =>
                 some [(.b b_856)]) else
                (some [(.b false)])))) else
             (Option.bind (F_name_Set [(.s s_0)]) fun r_858 =>
              onB r_858 fun b_857 ds_862 =>
              bif b_857 then (Option.bind (F_name_Set [(.s s_0)]) fun r_859 =>
               onB r_859 fun b_858 ds_863 =>
               bif (!b_858) then (Option.bind (F_law07_works []) fun r_860 =>
                onB r_860 fun b_859 ds_864 =>
                some [(.b b_859)]) else
               (bif (decide (14 < (((s_0).length : Nat) : Int))) then (Option.bind (F_law07_works []) fun r_861 =>
                 onB r_861 fun b_860 ds_865 =>
                 some [(.b b_860)]) else
                (Option.bind (nameZone [(.s s_0)]) fun r_862 =>
                 onB r_862 fun b_861 ds_866 =>
                 bif b_861 then (Option.bind (F_law07_works []) fun r_863 =>
                  onB r_863 fun b_862 ds_867 =>
                  some [(.b b_862)]) else
                 (some [(.b false)])))) else
              (some [(.b false)]))))))) else
        (bif (!(b_788 == false)) then (some [(.b false)]) else
         (Option.bind (nameZone [(.s s_0)]) fun r_864 =>
          onB r_864 fun b_863 ds_868 =>
          bif (decide (1 ≤ (i64 (Int.tmod n_0 40)))) then (bif (decide ((i64 (Int.tmod n_0 40)) ≤ 14)) then (bif (!(b_863 == true)) then (some [(.b false)]) else
            (Option.bind (F_name_Letter [(.s s_0)]) fun r_865 =>
             onB r_865 fun b_864 ds_869 =>
             bif (!b_864) then (Option.bind (F_name_Set [(.s s_0)]) fun r_866 =>
              onB r_866 fun b_865 ds_870 =>
              bif (!b_865) then (Option.bind (F_law07_works []) fun r_867 =>
               onB r_867 fun b_866 ds_871 =>
               some [(.b b_866)]) else
              (bif (decide (14 < (((s_0).length : Nat) : Int))) then (Option.bind (F_law07_works []) fun r_868 =>
                onB r_868 fun b_867 ds_872 =>
                some [(.b b_867)]) else
               (Option.bind (nameZone [(.s s_0)]) fun r_869 =>
                onB r_869 fun b_868 ds_873 =>
                bif b_868 then (Option.bind (F_law07_works []) fun r_870 =>
                 onB r_870 fun b_869 ds_874 =>
                 some [(.b b_869)]) else
                (some [(.b false)])))) else
             (Option.bind (F_name_Set [(.s s_0)]) fun r_871 =>
              onB r_871 fun b_870 ds_875 =>
              bif b_870 then (Option.bind (F_name_Set [(.s s_0)]) fun r_872 =>
               onB r_872 fun b_871 ds_876 =>
               bif (!b_871) then (Option.bind (F_law07_works []) fun r_873 =>
                onB r_873 fun b_872 ds_877 =>
                some [(.b b_872)]) else
               (bif (decide (14 < (((s_0).length : Nat) : Int))) then (Option.bind (F_law07_works []) fun r_874 =>
                 onB r_874 fun b_873 ds_878 =>
                 some [(.b b_873)]) else
                (Option.bind (nameZone [(.s s_0)]) fun r_875 =>
                 onB r_875 fun b_874 ds_879 =>
                 bif b_874 then (Option.bind (F_law07_works []) fun r_876 =>
                  onB r_876 fun b_875 ds_880 =>
                  some [(.b b_875)]) else
                 (some [(.b false)])))) else
              (some [(.b false)])))) else
           (bif (!(b_863 == false)) then (some [(.b false)]) else
            (Option.bind (F_name_Letter [(.s s_0)]) fun r_877 =>
             onB r_877 fun b_876 ds_881 =>
             bif (!b_876) then (Option.bind (F_name_Set [(.s s_0)]) fun r_878 =>
              onB r_878 fun b_877 ds_882 =>
              bif (!b_877) then (Option.bind (F_law07_works []) fun r_879 =>
               onB r_879 fun b_878 ds_883 =>
               some [(.b b_878)]) else
              (bif (decide (14 < (((s_0).length : Nat) : Int))) then (Option.bind (F_law07_works []) fun r_880 =>
                onB r_880 fun b_879 ds_884 =>
                some [(.b b_879)]) else
               (Option.bind (nameZone [(.s s_0)]) fun r_881 =>
                onB r_881 fun b_880 ds_885 =>
                bif b_880 then (Option.bind (F_law07_works []) fun r_882 =>
                 onB r_882 fun b_881 ds_886 =>
                 some [(.b b_881)]) else
                (some [(.b false)])))) else
             (Option.bind (F_name_Set [(.s s_0)]) fun r_883 =>
              onB r_883 fun b_882 ds_887 =>
              bif b_882 then (Option.bind (F_name_Set [(.s s_0)]) fun r_884 =>
               onB r_884 fun b_883 ds_888 =>
               bif (!b_883) then (Option.bind (F_law07_works []) fun r_885 =>
                onB r_885 fun b_884 ds_889 =>
                some [(.b b_884)]) else
               (bif (decide (14 < (((s_0).length : Nat) : Int))) then (Option.bind (F_law07_works []) fun r_886 =>
                 onB r_886 fun b_885 ds_890 =>
                 some [(.b b_885)]) else
                (Option.bind (nameZone [(.s s_0)]) fun r_887 =>
                 onB r_887 fun b_886 ds_891 =>
                 bif b_886 then (Option.bind (F_law07_works []) fun r_888 =>
                  onB r_888 fun b_887 ds_892 =>
                  some [(.b b_887)]) else
                 (some [(.b false)])))) else
              (some [(.b false)]))))) else
          (bif (!(b_863 == false)) then (some [(.b false)]) else
           (Option.bind (F_name_Letter [(.s s_0)]) fun r_889 =>
            onB r_889 fun b_888 ds_893 =>
            bif (!b_888) then (Option.bind (F_name_Set [(.s s_0)]) fun r_890 =>
             onB r_890 fun b_889 ds_894 =>
             bif (!b_889) then (Option.bind (F_law07_works []) fun r_891 =>
              onB r_891 fun b_890 ds_895 =>
              some [(.b b_890)]) else
             (bif (decide (14 < (((s_0).length : Nat) : Int))) then (Option.bind (F_law07_works []) fun r_892 =>
               onB r_892 fun b_891 ds_896 =>
               some [(.b b_891)]) else
              (Option.bind (nameZone [(.s s_0)]) fun r_893 =>
               onB r_893 fun b_892 ds_897 =>
               bif b_892 then (Option.bind (F_law07_works []) fun r_894 =>
                onB r_894 fun b_893 ds_898 =>
                some [(.b b_893)]) else
               (some [(.b false)])))) else
            (Option.bind (F_name_Set [(.s s_0)]) fun r_895 =>
             onB r_895 fun b_894 ds_899 =>
             bif b_894 then (Option.bind (F_name_Set [(.s s_0)]) fun r_896 =>
              onB r_896 fun b_895 ds_900 =>
              bif (!b_895) then (Option.bind (F_law07_works []) fun r_897 =>
               onB r_897 fun b_896 ds_901 =>
               some [(.b b_896)]) else
              (bif (decide (14 < (((s_0).length : Nat) : Int))) then (Option.bind (F_law07_works []) fun r_898 =>
                onB r_898 fun b_897 ds_902 =>
                some [(.b b_897)]) else
               (Option.bind (nameZone [(.s s_0)]) fun r_899 =>
                onB r_899 fun b_898 ds_903 =>
                bif b_898 then (Option.bind (F_law07_works []) fun r_900 =>
                 onB r_900 fun b_899 ds_904 =>
                 some [(.b b_899)]) else
                (some [(.b false)])))) else
             (some [(.b false)]))))))))) else
     (bif (!(b_675 == false)) then (some [(.b false)]) else
      (Option.bind (F_name_Set [(.s s_0)]) fun r_901 =>
       onB r_901 fun b_900 ds_905 =>
       bif (decide (1 ≤ (i64 (Int.tmod n_0 40)))) then (bif (decide ((i64 (Int.tmod n_0 40)) ≤ 30)) then (bif (!(b_900 == true)) then (some [(.b false)]) else
         (Option.bind (nameZone [(.s s_0)]) fun r_902 =>
          onB r_902 fun b_901 ds_906 =>
          bif (decide (1 ≤ (i64 (Int.tmod n_0 40)))) then (bif (decide ((i64 (Int.tmod n_0 40)) ≤ 14)) then (bif (!(b_901 == true)) then (some [(.b false)]) else
            (Option.bind (F_name_Letter [(.s s_0)]) fun r_903 =>
             onB r_903 fun b_902 ds_907 =>
             bif (!b_902) then (Option.bind (F_name_Set [(.s s_0)]) fun r_904 =>
              onB r_904 fun b_903 ds_908 =>
              bif (!b_903) then (Option.bind (F_law07_works []) fun r_905 =>
               onB r_905 fun b_904 ds_909 =>
               some [(.b b_904)]) else
              (bif (decide (14 < (((s_0).length : Nat) : Int))) then (Option.bind (F_law07_works []) fun r_906 =>
                onB r_906 fun b_905 ds_910 =>
                some [(.b b_905)]) else
               (Option.bind (nameZone [(.s s_0)]) fun r_907 =>
                onB r_907 fun b_906 ds_911 =>
                bif b_906 then (Option.bind (F_law07_works []) fun r_908 =>
                 onB r_908 fun b_907 ds_912 =>
                 some [(.b b_907)]) else
                (some [(.b false)])))) else
             (Option.bind (F_name_Set [(.s s_0)]) fun r_909 =>
              onB r_909 fun b_908 ds_913 =>
              bif b_908 then (Option.bind (F_name_Set [(.s s_0)]) fun r_910 =>
               onB r_910 fun b_909 ds_914 =>
               bif (!b_909) then (Option.bind (F_law07_works []) fun r_911 =>
                onB r_911 fun b_910 ds_915 =>
                some [(.b b_910)]) else
               (bif (decide (14 < (((s_0).length : Nat) : Int))) then (Option.bind (F_law07_works []) fun r_912 =>
                 onB r_912 fun b_911 ds_916 =>
                 some [(.b b_911)]) else
                (Option.bind (nameZone [(.s s_0)]) fun r_913 =>
                 onB r_913 fun b_912 ds_917 =>
                 bif b_912 then (Option.bind (F_law07_works []) fun r_914 =>
                  onB r_914 fun b_913 ds_918 =>
                  some [(.b b_913)]) else
                 (some [(.b false)])))) else
              (some [(.b false)])))) else
           (bif (!(b_901 == false)) then (some [(.b false)]) else
            (Option.bind (F_name_Letter [(.s s_0)]) fun r_915 =>
             onB r_915 fun b_914 ds_919 =>
             bif (!b_914) then (Option.bind (F_name_Set [(.s s_0)]) fun r_916 =>
              onB r_916 fun b_915 ds_920 =>
              bif (!b_915) then (Option.bind (F_law07_works []) fun r_917 =>
               onB r_917 fun b_916 ds_921 =>
               some [(.b b_916)]) else
              (bif (decide (14 < (((s_0).length : Nat) : Int))) then (Option.bind (F_law07_works []) fun r_918 =>
                onB r_918 fun b_917 ds_922 =>
                some [(.b b_917)]) else
               (Option.bind (nameZone [(.s s_0)]) fun r_919 =>
                onB r_919 fun b_918 ds_923 =>
                bif b_918 then (Option.bind (F_law07_works []) fun r_920 =>
                 onB r_920 fun b_919 ds_924 =>
                 some [(.b b_919)]) else
                (some [(.b false)])))) else
             (Option.bind (F_name_Set [(.s s_0)]) fun r_921 =>
              onB r_921 fun b_920 ds_925 =>
              bif b_920 then (Option.bind (F_name_Set [(.s s_0)]) fun r_922 =>
               onB r_922 fun b_921 ds_926 =>
               bif (!b_921) then (Option.bind (F_law07_works []) fun r_923 =>
                onB r_923 fun b_922 ds_927 =>
                some [(.b b_922)]) else
               (bif (decide (14 < (((s_0).length : Nat) : Int))) then (Option.bind (F_law07_works []) fun r_924 =>
                 onB r_924 fun b_923 ds_928 =>
                 some [(.b b_923)]) else
                (Option.bind (nameZone [(.s s_0)]) fun r_925 =>
                 onB r_925 fun b_924 ds_929 =>
                 bif b_924 then (Option.bind (F_law07_works []) fun r_926 =>
                  onB r_926 fun b_925 ds_930 =>
                  some [(.b b_925)]) else
                 (some [(.b false)])))) else
              (some [(.b false)]))))) else
          (bif (!(b_901 == false)) then (some [(.b false)]) else
           (Option.bind (F_name_Letter [(.s s_0)]) fun r_927 =>
            onB r_927 fun b_926 ds_931 =>
            bif (!b_926) then (Option.bind (F_name_Set [(.s s_0)]) fun r_928 =>
             onB r_928 fun b_927 ds_932 =>
             bif (!b_927) then (Option.bind (F_law07_works []) fun r_929 =>
              onB r_929 fun b_928 ds_933 =>
              some [(.b b_928)]) else
             (bif (decide (14 < (((s_0).length : Nat) : Int))) then (Option.bind (F_law07_works []) fun r_930 =>
               onB r_930 fun b_929 ds_934 =>
               some [(.b b_929)]) else
              (Option.bind (nameZone [(.s s_0)]) fun r_931 =>
               onB r_931 fun b_930 ds_935 =>
               bif b_930 then (Option.bind (F_law07_works []) fun r_932 =>
                onB r_932 fun b_931 ds_936 =>
                some [(.b b_931)]) else
               (some [(.b false)])))) else
            (Option.bind (F_name_Set [(.s s_0)]) fun r_933 =>
             onB r_933 fun b_932 ds_937 =>
             bif b_932 then (Option.bind (F_name_Set [(.s s_0)]) fun r_934 =>
              onB r_934 fun b_933 ds_938 =>
              bif (!b_933) then (Option.bind (F_law07_works []) fun r_935 =>
               onB r_935 fun b_934 ds_939 =>
               some [(.b b_934)]) else
              (bif (decide (14 < (((s_0).length : Nat) : Int))) then (Option.bind (F_law07_works []) fun r_936 =>
                onB r_936 fun b_935 ds_940 =>
                some [(.b b_935)]) else
               (Option.bind (nameZone [(.s s_0)]) fun r_937 =>
                onB r_937 fun b_936 ds_941 =>
                bif b_936 then (Option.bind (F_law07_works []) fun r_938 =>
                 onB r_938 fun b_937 ds_942 =>
                 some [(.b b_937)]) else
                (some [(.b false)])))) else
             (some [(.b false)])))))) else
        (bif (!(b_900 == false)) then (some [(.b false)]) else
         (Option.bind (nameZone [(.s s_0)]) fun r_939 =>
          onB r_939 fun b_938 ds_943 =>
          bif (decide (1 ≤ (i64 (Int.tmod n_0 40)))) then (bif (decide ((i64 (Int.tmod n_0 40)) ≤ 14)) then (bif (!(b_938 == true)) then (some [(.b false)]) else
            (Option.bind (F_name_Letter [(.s s_0)]) fun r_940 =>
             onB r_940 fun b_939 ds_944 =>
             bif (!b_939) then (Option.bind (F_name_Set [(.s s_0)]) fun r_941 =>
              onB r_941 fun b_940 ds_945 =>
              bif (!b_940) then (Option.bind (F_law07_works []) fun r_942 =>
               onB r_942 fun b_941 ds_946 =>
               some [(.b b_941)]) else
              (bif (decide (14 < (((s_0).length : Nat) : Int))) then (Option.bind (F_law07_works []) fun r_943 =>
                onB r_943 fun b_942 ds_947 =>
                some [(.b b_942)]) else
               (Option.bind (nameZone [(.s s_0)]) fun r_944 =>
                onB r_944 fun b_943 ds_948 =>
                bif b_943 then (Option.bind (F_law07_works []) fun r_945 =>
                 onB r_945 fun b_944 ds_949 =>
                 some [(.b b_944)]) else
                (some [(.b false)])))) else
             (Option.bind (F_name_Set [(.s s_0)]) fun r_946 =>
              onB r_946 fun b_945 ds_950 =>
              bif b_945 then (Option.bind (F_name_Set [(.s s_0)]) fun r_947 =>
               onB r_947 fun b_946 ds_951 =>
               bif (!b_946) then (Option.bind (F_law07_works []) fun r_948 =>
                onB r_948 fun b_947 ds_952 =>
                some [(.b b_947)]) else
               (bif (decide (14 < (((s_0).length : Nat) : Int))) then (Option.bind (F_law07_works []) fun r_949 =>
                 onB r_949 fun b_948 ds_953 =>
                 some [(.b b_948)]) else
                (Option.bind (nameZone [(.s s_0)]) fun r_950 =>
                 onB r_950 fun b_949 ds_954 =>
                 bif b_949 then (Option.bind (F_law07_works []) fun r_951 =>
                  onB r_951 fun b_950 ds_955 =>
                  some [(.b b_950)]) else
                 (some [(.b false)])))) else
              (some [(.b false)])))) else
           (bif (!(b_938 == false)) then (some [(.b false)]) else
            (Option.bind (F_name_Letter [(.s s_0)]) fun r_952 =>
             onB r_952 fun b_951 ds_956 =>
             bif (!b_951) then (Option.bind (F_name_Set [(.s s_0)]) fun r_953 =>
              onB r_953 fun b_952 ds_957 =>
              bif (!b_952) then (Option.bind (F_law07_works []) fun r_954 =>
               onB r_954 fun b_953 ds_958 =>
               some [(.b b_953)]) else
              (bif (decide (14 < (((s_0).length : Nat) : Int))) then (Option.bind (F_law07_works []) fun r_955 =>
                onB r_955 fun b_954 ds_959 =>
                some [(.b b_954)]) else
               (Option.bind (nameZone [(.s s_0)]) fun r_956 =>
                onB r_956 fun b_955 ds_960 =>
                bif b_955 then (Option.bind (F_law07_works []) fun r_957 =>
                 onB r_957 fun b_956 ds_961 =>
                 some [(.b b_956)]) else
                (some [(.b false)])))) else
             (Option.bind (F_name_Set [(.s s_0)]) fun r_958 =>
              onB r_958 fun b_957 ds_962 =>
              bif b_957 then (Option.bind (F_name_Set [(.s s_0)]) fun r_959 =>
               onB r_959 fun b_958 ds_963 =>
               bif (!b_958) then (Option.bind (F_law07_works []) fun r_960 =>
                onB r_960 fun b_959 ds_964 =>
                some [(.b b_959)]) else
               (bif (decide (14 < (((s_0).length : Nat) : Int))) then (Option.bind (F_law07_works []) fun r_961 =>
                 onB r_961 fun b_960 ds_965 =>
                 some [(.b b_960)]) else
                (Option.bind (nameZone [(.s s_0)]) fun r_962 =>
                 onB r_962 fun b_961 ds_966 =>
                 bif b_961 then (Option.bind (F_law07_works []) fun r_963 =>
                  onB r_963 fun b_962 ds_967 =>
                  some [(.b b_962)]) else
                 (some [(.b false)])))) else
              (some [(.b false)]))))) else
          (bif (!(b_938 == false)) then (some [(.b false)]) else
           (Option.bind (F_name_Letter [(.s s_0)]) fun r_964 =>
            onB r_964 fun b_963 ds_968 =>
            bif (!b_963) then (Option.bind (F_name_Set [(.s s_0)]) fun r_965 =>
             onB r_965 fun b_964 ds_969 =>
             bif (!b_964) then (Option.bind (F_law07_works []) fun r_966 =>
              onB r_966 fun b_965 ds_970 =>
              some [(.b b_965)]) else
             (bif (decide (14 < (((s_0).length : Nat) : Int))) then (Option.bind (F_law07_works []) fun r_967 =>
               onB r_967 fun b_966 ds_971 =>
               some [(.b b_966)]) else
              (Option.bind (nameZone [(.s s_0)]) fun r_968 =>
               onB r_968 fun b_967 ds_972 =>
               bif b_967 then (Option.bind (F_law07_works []) fun r_969 =>
                onB r_969 fun b_968 ds_973 =>
                some [(.b b_968)]) else
               (some [(.b false)])))) else
            (Option.bind (F_name_Set [(.s s_0)]) fun r_970 =>
             onB r_970 fun b_969 ds_974 =>
             bif b_969 then (Option.bind (F_name_Set [(.s s_0)]) fun r_971 =>
              onB r_971 fun b_970 ds_975 =>
              bif (!b_970) then (Option.bind (F_law07_works []) fun r_972 =>
               onB r_972 fun b_971 ds_976 =>
               some [(.b b_971)]) else
              (bif (decide (14 < (((s_0).length : Nat) : Int))) then (Option.bind (F_law07_works []) fun r_973 =>
                onB r_973 fun b_972 ds_977 =>
                some [(.b b_972)]) else
               (Option.bind (nameZone [(.s s_0)]) fun r_974 =>
                onB r_974 fun b_973 ds_978 =>
                bif b_973 then (Option.bind (F_law07_works []) fun r_975 =>
                 onB r_975 fun b_974 ds_979 =>
                 some [(.b b_974)]) else
                (some [(.b false)])))) else
             (some [(.b false)]))))))) else
       (bif (!(b_900 == false)) then (some [(.b false)]) else
        (Option.bind (nameZone [(.s s_0)]) fun r_976 =>
         onB r_976 fun b_975 ds_980 =>
         bif (decide (1 ≤ (i64 (Int.tmod n_0 40)))) then (bif (decide ((i64 (Int.tmod n_0 40)) ≤ 14)) then (bif (!(b_975 == true)) then (some [(.b false)]) else
           (Option.bind (F_name_Letter [(.s s_0)]) fun r_977 =>
            onB r_977 fun b_976 ds_981 =>
            bif (!b_976) then (Option.bind (F_name_Set [(.s s_0)]) fun r_978 =>
             onB r_978 fun b_977 ds_982 =>
             bif (!b_977) then (Option.bind (F_law07_works []) fun r_979 =>
              onB r_979 fun b_978 ds_983 =>
              some [(.b b_978)]) else
             (bif (decide (14 < (((s_0).length : Nat) : Int))) then (Option.bind (F_law07_works []) fun r_980 =>
               onB r_980 fun b_979 ds_984 =>
               some [(.b b_979)]) else
              (Option.bind (nameZone [(.s s_0)]) fun r_981 =>
               onB r_981 fun b_980 ds_985 =>
               bif b_980 then (Option.bind (F_law07_works []) fun r_982 =>
                onB r_982 fun b_981 ds_986 =>
                some [(.b b_981)]) else
               (some [(.b false)])))) else
            (Option.bind (F_name_Set [(.s s_0)]) fun r_983 =>
             onB r_983 fun b_982 ds_987 =>
             bif b_982 then (Option.bind (F_name_Set [(.s s_0)]) fun r_984 =>
              onB r_984 fun b_983 ds_988 =>
              bif (!b_983) then (Option.bind (F_law07_works []) fun r_985 =>
               onB r_985 fun b_984 ds_989 =>
               some [(.b b_984)]) else
              (bif (decide (14 < (((s_0).length : Nat) : Int))) then (Option.bind (F_law07_works []) fun r_986 =>
                onB r_986 fun b_985 ds_990 =>
                some [(.b b_985)]) else
               (Option.bind (nameZone [(.s s_0)]) fun r_987 =>
                onB r_987 fun b_986 ds_991 =>
                bif b_986 then (Option.bind (F_law07_works []) fun r_988 =>
                 onB r_988 fun b_987 ds_992 =>
                 some [(.b b_987)]) else
                (some [(.b false)])))) else
             (some [(.b false)])))) else
          (bif (!(b_975 == false)) then (some [(.b false)]) else
           (Option.bind (F_name_Letter [(.s s_0)]) fun r_989 =>
            onB r_989 fun b_988 ds_993 =>
            bif (!b_988) then (Option.bind (F_name_Set [(.s s_0)]) fun r_990 =>
             onB r_990 fun b_989 ds_994 =>
             bif (!b_989) then (Option.bind (F_law07_works []) fun r_991 =>
              onB r_991 fun b_990 ds_995 =>
              some [(.b b_990)]) else
             (bif (decide (14 < (((s_0).length : Nat) : Int))) then (Option.bind (F_law07_works []) fun r_992 =>
               onB r_992 fun b_991 ds_996 =>
               some [(.b b_991)]) else
              (Option.bind (nameZone [(.s s_0)]) fun r_993 =>
               onB r_993 fun b_992 ds_997 =>
               bif b_992 then (Option.bind (F_law07_works []) fun r_994 =>
                onB r_994 fun b_993 ds_998 =>
                some [(.b b_993)]) else
               (some [(.b false)])))) else
            (Option.bind (F_name_Set [(.s s_0)]) fun r_995 =>
             onB r_995 fun b_994 ds_999 =>
             bif b_994 then (Option.bind (F_name_Set [(.s s_0)]) fun r_996 =>
              onB r_996 fun b_995 ds_1000 =>
              bif (!b_995) then (Option.bind (F_law07_works []) fun r_997 =>
               onB r_997 fun b_996 ds_1001 =>
               some [(.b b_996)]) else
              (bif (decide (14 < (((s_0).length : Nat) : Int))) then (Option.bind (F_law07_works []) fun r_998 =>
                onB r_998 fun b_997 ds_1002 =>
                some [(.b b_997)]) else
               (Option.bind (nameZone [(.s s_0)]) fun r_999 =>
                onB r_999 fun b_998 ds_1003 =>
                bif b_998 then (Option.bind (F_law07_works []) fun r_1000 =>
                 onB r_1000 fun b_999 ds_1004 =>
                 some [(.b b_999)]) else
                (some [(.b false)])))) else
             (some [(.b false)]))))) else
         (bif (!(b_975 == false)) then (some [(.b false)]) else
          (Option.bind (F_name_Letter [(.s s_0)]) fun r_1001 =>
           onB r_1001 fun b_1000 ds_1005 =>
           bif (!b_1000) then (Option.bind (F_name_Set [(.s s_0)]) fun r_1002 =>
            onB r_1002 fun b_1001 ds_1006 =>
            bif (!b_1001) then (Option.bind (F_law07_works []) fun r_1003 =>
             onB r_1003 fun b_1002 ds_1007 =>
             some [(.b b_1002)]) else
            (bif (decide (14 < (((s_0).length : Nat) : Int))) then (Option.bind (F_law07_works []) fun r_1004 =>
              onB r_1004 fun b_1003 ds_1008 =>
              some [(.b b_1003)]) else
             (Option.bind (nameZone [(.s s_0)]) fun r_1005 =>
              onB r_1005 fun b_1004 ds_1009 =>
              bif b_1004 then (Option.bind (F_law07_works []) fun r_1006 =>
               onB r_1006 fun b_1005 ds_1010 =>
               some [(.b b_1005)]) else
              (some [(.b false)])))) else
           (Option.bind (F_name_Set [(.s s_0)]) fun r_1007 =>
            onB r_1007 fun b_1006 ds_1011 =>
            bif b_1006 then (Option.bind (F_name_Set [(.s s_0)]) fun r_1008 =>
             onB r_1008 fun b_1007 ds_1012 =>
             bif (!b_1007) then (Option.bind (F_law07_works []) fun r_1009 =>
              onB r_1009 fun b_1008 ds_1013 =>
              some [(.b b_1008)]) else
             (bif (decide (14 < (((s_0).length : Nat) : Int))) then (Option.bind (F_law07_works []) fun r_1010 =>
               onB r_1010 fun b_1009 ds_1014 =>
               some [(.b b_1009)]) else
              (Option.bind (nameZone [(.s s_0)]) fun r_1011 =>
               onB r_1011 fun b_1010 ds_1015 =>
               bif b_1010 then (Option.bind (F_law07_works []) fun r_1012 =>
                onB r_1012 fun b_1011 ds_1016 =>
                some [(.b b_1011)]) else
               (some [(.b false)])))) else
            (some [(.b false)])))))))))))
end Go.Proofs.YtgmmcmfnniaekaaDoor
