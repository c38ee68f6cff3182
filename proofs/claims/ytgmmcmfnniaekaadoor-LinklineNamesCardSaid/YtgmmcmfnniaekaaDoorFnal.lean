/-
  The functions of plain data that the laws of this group reach, as the program has them.
-/
import Derived.Test.YtgmmcmfnniaekaaDoorAx33
import Derived.Test.YtgmmcmfnniaekaaDoorAx36
import Derived.Test.YtgmmcmfnniaekaaDoorAx37
import Derived.Test.YtgmmcmfnniaekaaDoorAx39
import Derived.Test.YtgmmcmfnniaekaaDoorAx40
namespace Go.Proofs.YtgmmcmfnniaekaaDoor.Za
open Go.Ax
open Go.Proofs.YtgmmcmfnniaekaaDoor
set_option linter.all false
set_option maxRecDepth 100000
noncomputable def F_name_all_L0 : List Dat → Option (List Dat ⊕ List Dat) := fun ds_4 =>
  onS ds_4 fun s_1 ds_5 =>
  onI ds_5 fun v_0 ds_6 =>
  onI ds_6 fun v_1 ds_7 =>
  bif (decide (v_1 < v_0)) then (bif (decide ((0 ≤ v_1) ∧ (v_1 < (((s_1).length : Nat) : Int)))) then (bif (decide (128 ≤ ((((List.getD s_1 (v_1).toNat 0)).toNat : Nat) : Int))) then (Option.map .inr (some [(.b false)])) else
   (bif (decide ((0 ≤ v_1) ∧ (v_1 < (((s_1).length : Nat) : Int)))) then (bif (decide ((0 ≤ v_1) ∧ (v_1 < (((s_1).length : Nat) : Int)))) then (bif (decide ((0 ≤ ((((List.getD s_1 (v_1).toNat 0)).toNat : Nat) : Int)) ∧ (((((List.getD s_1 (v_1).toNat 0)).toNat : Nat) : Int) < 128))) then (Option.bind (asI .u8 ([(Ax.AV.int .u8 (Ax.I.lit 0)), (Ax.AV.int .u8 (Ax.I.lit 0)), (Ax.AV.int .u8 (Ax.I.lit 0)), (Ax.AV.int .u8 (Ax.I.lit 0)), (Ax.AV.int .u8 (Ax.I.lit 0)), (Ax.AV.int .u8 (Ax.I.lit 0)), (Ax.AV.int .u8 (Ax.I.lit 0)), (Ax.AV.int .u8 (Ax.I.lit 0)), (Ax.AV.int .u8 (Ax.I.lit 0)), (Ax.AV.int .u8 (Ax.I.lit 0)), (Ax.AV.int .u8 (Ax.I.lit 0)), (Ax.AV.int .u8 (Ax.I.lit 0)), (Ax.AV.int .u8 (Ax.I.lit 0)), (Ax.AV.int .u8 (Ax.I.lit 0)), (Ax.AV.int .u8 (Ax.I.lit 0)), (Ax.AV.int .u8 (Ax.I.lit 0)), (Ax.AV.int .u8 (Ax.I.lit 0)), (Ax.AV.int .u8 (Ax.I.lit 0)), (Ax.AV.int .u8 (Ax.I.lit 0)), (Ax.AV.int .u8 (Ax.I.lit 0)), (Ax.AV.int .u8 (Ax.I.lit 0)), (Ax.AV.int .u8 (Ax.I.lit 0)), (Ax.AV.int .u8 (Ax.I.lit 0)), (Ax.AV.int .u8 (Ax.I.lit 0)), (Ax.AV.int .u8 (Ax.I.lit 0)), (Ax.AV.int .u8 (Ax.I.lit 0)), (Ax.AV.int .u8 (Ax.I.lit 0)), (Ax.AV.int .u8 (Ax.I.lit 0)), (Ax.AV.int .u8 (Ax.I.lit 0)), (Ax.AV.int .u8 (Ax.I.lit 0)), (Ax.AV.int .u8 (Ax.I.lit 0)), (Ax.AV.int .u8 (Ax.I.lit 0)), (Ax.AV.int .u8 (Ax.I.lit 0)), (Ax.AV.int .u8 (Ax.I.lit 0)), (Ax.AV.int .u8 (Ax.I.lit 0)), (Ax.AV.int .u8 (Ax.I.lit 0)), (Ax.AV.int .u8 (Ax.I.lit 0)), (Ax.AV.int .u8 (Ax.I.lit 0)), (Ax.AV.int .u8 (Ax.I.lit 0)), (Ax.AV.int .u8 (Ax.I.lit 0)), (Ax.AV.int .u8 (Ax.I.lit 0)), (Ax.AV.int .u8 (Ax.I.lit 0)), (Ax.AV.int .u8 (Ax.I.lit 0)), (Ax.AV.int .u8 (Ax.I.lit 16)), (Ax.AV.int .u8 (Ax.I.lit 0)), (Ax.AV.int .u8 (Ax.I.lit 4)), (Ax.AV.int .u8 (Ax.I.lit 8)), (Ax.AV.int .u8 (Ax.I.lit 0)), (Ax.AV.int .u8 (Ax.I.lit 2)), (Ax.AV.int .u8 (Ax.I.lit 2)), (Ax.AV.int .u8 (Ax.I.lit 2)), (Ax.AV.int .u8 (Ax.I.lit 2)), (Ax.AV.int .u8 (Ax.I.lit 2)), (Ax.AV.int .u8 (Ax.I.lit 2)), (Ax.AV.int .u8 (Ax.I.lit 2)), (Ax.AV.int .u8 (Ax.I.lit 2)), (Ax.AV.int .u8 (Ax.I.lit 2)), (Ax.AV.int .u8 (Ax.I.lit 2)), (Ax.AV.int .u8 (Ax.I.lit 0)), (Ax.AV.int .u8 (Ax.I.lit 0)), (Ax.AV.int .u8 (Ax.I.lit 0)), (Ax.AV.int .u8 (Ax.I.lit 0)), (Ax.AV.int .u8 (Ax.I.lit 0)), (Ax.AV.int .u8 (Ax.I.lit 0)), (Ax.AV.int .u8 (Ax.I.lit 0)), (Ax.AV.int .u8 (Ax.I.lit 1)), (Ax.AV.int .u8 (Ax.I.lit 1)), (Ax.AV.int .u8 (Ax.I.lit 1)), (Ax.AV.int .u8 (Ax.I.lit 1)), (Ax.AV.int .u8 (Ax.I.lit 1)), (Ax.AV.int .u8 (Ax.I.lit 1)), (Ax.AV.int .u8 (Ax.I.lit 1)), (Ax.AV.int .u8 (Ax.I.lit 1)), (Ax.AV.int .u8 (Ax.I.lit 1)), (Ax.AV.int .u8 (Ax.I.lit 1)), (Ax.AV.int .u8 (Ax.I.lit 1)), (Ax.AV.int .u8 (Ax.I.lit 1)), (Ax.AV.int .u8 (Ax.I.lit 1)), (Ax.AV.int .u8 (Ax.I.lit 1)), (Ax.AV.int .u8 (Ax.I.lit 1)), (Ax.AV.int .u8 (Ax.I.lit 1)), (Ax.AV.int .u8 (Ax.I.lit 1)), (Ax.AV.int .u8 (Ax.I.lit 1)), (Ax.AV.int .u8 (Ax.I.lit 1)), (Ax.AV.int .u8 (Ax.I.lit 1)), (Ax.AV.int .u8 (Ax.I.lit 1)), (Ax.AV.int .u8 (Ax.I.lit 1)), (Ax.AV.int .u8 (Ax.I.lit 1)), (Ax.AV.int .u8 (Ax.I.lit 1)), (Ax.AV.int .u8 (Ax.I.lit 1)), (Ax.AV.int .u8 (Ax.I.lit 1)), (Ax.AV.int .u8 (Ax.I.lit 0)), (Ax.AV.int .u8 (Ax.I.lit 0)), (Ax.AV.int .u8 (Ax.I.lit 0)), (Ax.AV.int .u8 (Ax.I.lit 0)), (Ax.AV.int .u8 (Ax.I.lit 4)), (Ax.AV.int .u8 (Ax.I.lit 0)), (Ax.AV.int .u8 (Ax.I.lit 1)), (Ax.AV.int .u8 (Ax.I.lit 1)), (Ax.AV.int .u8 (Ax.I.lit 1)), (Ax.AV.int .u8 (Ax.I.lit 1)), (Ax.AV.int .u8 (Ax.I.lit 1)), (Ax.AV.int .u8 (Ax.I.lit 1)), (Ax.AV.int .u8 (Ax.I.lit 1)), (Ax.AV.int .u8 (Ax.I.lit 1)), (Ax.AV.int .u8 (Ax.I.lit 1)), (Ax.AV.int .u8 (Ax.I.lit 1)), (Ax.AV.int .u8 (Ax.I.lit 1)), (Ax.AV.int .u8 (Ax.I.lit 1)), (Ax.AV.int .u8 (Ax.I.lit 1)), (Ax.AV.int .u8 (Ax.I.lit 1)), (Ax.AV.int .u8 (Ax.I.lit 1)), (Ax.AV.int .u8 (Ax.I.lit 1)), (Ax.AV.int .u8 (Ax.I.lit 1)), (Ax.AV.int .u8 (Ax.I.lit 1)), (Ax.AV.int .u8 (Ax.I.lit 1)), (Ax.AV.int .u8 (Ax.I.lit 1)), (Ax.AV.int .u8 (Ax.I.lit 1)), (Ax.AV.int .u8 (Ax.I.lit 1)), (Ax.AV.int .u8 (Ax.I.lit 1)), (Ax.AV.int .u8 (Ax.I.lit 1)), (Ax.AV.int .u8 (Ax.I.lit 1)), (Ax.AV.int .u8 (Ax.I.lit 1)), (Ax.AV.int .u8 (Ax.I.lit 0)), (Ax.AV.int .u8 (Ax.I.lit 0)), (Ax.AV.int .u8 (Ax.I.lit 0)), (Ax.AV.int .u8 (Ax.I.lit 0)), (Ax.AV.int .u8 (Ax.I.lit 0))])[(((((List.getD s_1 (v_1).toNat 0)).toNat : Nat) : Int)).toNat]?) fun x_0 =>
    Option.bind (bif (!decide (x_0 = 0)) then (bif (decide (0 < v_1)) then (some true) else
      (bif (!decide (((((List.getD s_1 (v_1).toNat 0)).toNat : Nat) : Int) = 46)) then (bif (!decide (((((List.getD s_1 (v_1).toNat 0)).toNat : Nat) : Int) = 45)) then (some true) else
        (some false)) else
       (some false))) else
     (some false)) fun b_1 =>
    bif (!b_1) then (Option.map .inr (some [(.b false)])) else
    (some (.inl [(.s s_1), (.i v_0), (.i (i64 (v_1 + 1)))]))) else none) else none) else none)) else none) else
  (Option.map .inr (some [(.b true)]))
noncomputable def F_name_all : List Dat → Option (List Dat) := fun ds_0 =>
  onS ds_0 fun s_0 ds_1 =>
  onI ds_1 fun least_0 ds_2 =>
  onI ds_2 fun most_0 ds_3 =>
  Option.bind (bif (decide ((((s_0).length : Nat) : Int) < least_0)) then (some true) else
   (bif (decide (most_0 < (((s_0).length : Nat) : Int))) then (some true) else
    (some false))) fun b_0 =>
  bif b_0 then (some [(.b false)]) else
  (iter F_name_all_L0 [(.s s_0), (.i (((s_0).length : Nat) : Int)), (.i 0)])
end Go.Proofs.YtgmmcmfnniaekaaDoor.Za
