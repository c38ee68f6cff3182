/-
  The functions of plain data that the laws of this group reach, as the program has them.
-/
import Derived.Test.YtgmmcmfnniaekaaDoorAx33
import Derived.Test.YtgmmcmfnniaekaaDoorAx36
import Derived.Test.YtgmmcmfnniaekaaDoorAx37
import Derived.Test.YtgmmcmfnniaekaaDoorAx39
import Derived.Test.YtgmmcmfnniaekaaDoorAx40
import Derived.Test.YtgmmcmfnniaekaaDoorHBuilder
import Derived.Test.YtgmmcmfnniaekaaDoorHZone
namespace Go.Proofs.YtgmmcmfnniaekaaDoor
open Go.Ax
set_option linter.all false
set_option maxRecDepth 100000
noncomputable def F_law12_few_L0 : List Dat → Option (List Dat ⊕ List Dat) := fun ds_3 =>
  onN ds_3 fun ln_1 ds_4 =>
  onL ds_4 fun ll_1 ds_5 =>
  onI ds_5 fun i_0 ds_6 =>
  bif (decide (i_0 < ((ln_1 : Nat) : Int))) then (bif (decide ((0 ≤ i_0) ∧ (i_0 < ((ln_1 : Nat) : Int)))) then (Option.bind (asS (ll_1)[(i_0).toNat]?) fun s_0 =>
   bif (decide (200 < (((s_0).length : Nat) : Int))) then (Option.map .inr (some [(.b false)])) else
   (some (.inl [(.n ln_1), (.l ll_1), (.i (i64 (i_0 + 1)))]))) else none) else
  (Option.map .inr (Option.bind (bif (decide (((ln_1 : Nat) : Int) ≤ 10)) then (some true) else
     (some false)) fun b_0 =>
    some [(.b b_0)]))
noncomputable def F_law12_few : List Dat → Option (List Dat) := fun ds_0 =>
  onN ds_0 fun ln_0 ds_1 =>
  onL ds_1 fun ll_0 ds_2 =>
  iter F_law12_few_L0 [(.n ln_0), (.l ll_0), (.i 0)]
noncomputable def F_linkline_Link_L0 (fieldsn_0 : Nat) (fieldsl_0 : List AV) : List Dat → Option (List Dat ⊕ List Dat) := fun ds_3 =>
  onN ds_3 fun sn_0 ds_4 =>
  onL ds_4 fun sl_0 ds_5 =>
  onI ds_5 fun v_0 ds_6 =>
  onI ds_6 fun v_1 ds_7 =>
  onS ds_7 fun c_0 ds_8 =>
  onS ds_8 fun c_1 ds_9 =>
  bif (decide (v_1 < v_0)) then (bif (decide ((0 ≤ v_1) ∧ (v_1 < ((sn_0 : Nat) : Int)))) then (Option.bind (asS (sl_0)[(v_1).toNat]?) fun s_0 =>
   Option.bind (nameZone [(.s s_0)]) fun r_0 =>
   onB r_0 fun b_0 ds_10 =>
   bif (!b_0) then (Option.map .inr (bif (decide (0 ≤ v_1)) then (some [(.s ([] : List UInt8)), (.s ([] : List UInt8)), (.i 9)]) else
     (bif (decide (((0 : Int) ≤ 0) ∧ (0 < ((fieldsn_0 : Nat) : Int)))) then (Option.bind (asS (fieldsl_0)[0]?) fun s_1 =>
      bif (decide (((0 : Int) ≤ 1) ∧ (1 < ((fieldsn_0 : Nat) : Int)))) then (Option.bind (asS (fieldsl_0)[1]?) fun s_2 =>
      some [(.s s_1), (.s s_2), (.i 0)]) else none) else none))) else
   (some (.inl [(.n sn_0), (.l sl_0), (.i v_0), (.i (i64 (v_1 + 1))), (.s c_0), (.s c_1)]))) else none) else
  (Option.map .inr (bif (decide (((0 : Int) ≤ 0) ∧ (0 < ((fieldsn_0 : Nat) : Int)))) then (Option.bind (asS (fieldsl_0)[0]?) fun s_3 =>
    bif (decide (((0 : Int) ≤ 1) ∧ (1 < ((fieldsn_0 : Nat) : Int)))) then (Option.bind (asS (fieldsl_0)[1]?) fun s_4 =>
    some [(.s s_3), (.s s_4), (.i 0)]) else none) else none))
noncomputable def F_linkline_Link : List Dat → Option (List Dat) := fun ds_0 =>
  onN ds_0 fun fieldsn_0 ds_1 =>
  onL ds_1 fun fieldsl_0 ds_2 =>
  bif (!decide (((fieldsn_0 : Nat) : Int) = 2)) then (some [(.s ([] : List UInt8)), (.s ([] : List UInt8)), (.i 5)]) else
  (iter (F_linkline_Link_L0 fieldsn_0 fieldsl_0) [(.n fieldsn_0), (.l fieldsl_0), (.i ((fieldsn_0 : Nat) : Int)), (.i 0), (.s ([] : List UInt8)), (.s ([] : List UInt8))])
noncomputable def F_name_Set_L0 : List Dat → Option (List Dat ⊕ List Dat) := fun ds_2 =>
  onS ds_2 fun s_1 ds_3 =>
  onI ds_3 fun v_0 ds_4 =>
  onI ds_4 fun v_1 ds_5 =>
  bif (decide (v_1 < v_0)) then (bif (decide ((0 ≤ v_1) ∧ (v_1 < (((s_1).length : Nat) : Int)))) then (bif (decide (128 ≤ ((((List.getD s_1 (v_1).toNat 0)).toNat : Nat) : Int))) then (Option.map .inr (some [(.b false)])) else
   (bif (decide ((0 ≤ v_1) ∧ (v_1 < (((s_1).length : Nat) : Int)))) then (bif (decide ((0 ≤ v_1) ∧ (v_1 < (((s_1).length : Nat) : Int)))) then (bif (decide ((0 ≤ ((((List.getD s_1 (v_1).toNat 0)).toNat : Nat) : Int)) ∧ (((((List.getD s_1 (v_1).toNat 0)).toNat : Nat) : Int) < 128))) then (Option.bind (asI .u8 ([(Ax.AV.int .u8 (Ax.I.lit 0)), (Ax.AV.int .u8 (Ax.I.lit 0)), (Ax.AV.int .u8 (Ax.I.lit 0)), (Ax.AV.int .u8 (Ax.I.lit 0)), (Ax.AV.int .u8 (Ax.I.lit 0)), (Ax.AV.int .u8 (Ax.I.lit 0)), (Ax.AV.int .u8 (Ax.I.lit 0)), (Ax.AV.int .u8 (Ax.I.lit 0)), (Ax.AV.int .u8 (Ax.I.lit 0)), (Ax.AV.int .u8 (Ax.I.lit 0)), (Ax.AV.int .u8 (Ax.I.lit 0)), (Ax.AV.int .u8 (Ax.I.lit 0)), (Ax.AV.int .u8 (Ax.I.lit 0)), (Ax.AV.int .u8 (Ax.I.lit 0)), (Ax.AV.int .u8 (Ax.I.lit 0)), (Ax.AV.int .u8 (Ax.I.lit 0)), (Ax.AV.int .u8 (Ax.I.lit 0)), (Ax.AV.int .u8 (Ax.I.lit 0)), (Ax.AV.int .u8 (Ax.I.lit 0)), (Ax.AV.int .u8 (Ax.I.lit 0)), (Ax.AV.int .u8 (Ax.I.lit 0)), (Ax.AV.int .u8 (Ax.I.lit 0)), (Ax.AV.int .u8 (Ax.I.lit 0)), (Ax.AV.int .u8 (Ax.I.lit 0)), (Ax.AV.int .u8 (Ax.I.lit 0)), (Ax.AV.int .u8 (Ax.I.lit 0)), (Ax.AV.int .u8 (Ax.I.lit 0)), (Ax.AV.int .u8 (Ax.I.lit 0)), (Ax.AV.int .u8 (Ax.I.lit 0)), (Ax.AV.int .u8 (Ax.I.lit 0)), (Ax.AV.int .u8 (Ax.I.lit 0)), (Ax.AV.int .u8 (Ax.I.lit 0)), (Ax.AV.int .u8 (Ax.I.lit 0)), (Ax.AV.int .u8 (Ax.I.lit 0)), (Ax.AV.int .u8 (Ax.I.lit 0)), (Ax.AV.int .u8 (Ax.I.lit 0)), (Ax.AV.int .u8 (Ax.I.lit 0)), (Ax.AV.int .u8 (Ax.I.lit 0)), (Ax.AV.int .u8 (Ax.I.lit 0)), (Ax.AV.int .u8 (Ax.I.lit 0)), (Ax.AV.int .u8 (Ax.I.lit 0)), (Ax.AV.int .u8 (Ax.I.lit 0)), (Ax.AV.int .u8 (Ax.I.lit 0)), (Ax.AV.int .u8 (Ax.I.lit 16)), (Ax.AV.int .u8 (Ax.I.lit 0)), (Ax.AV.int .u8 (Ax.I.lit 4)), (Ax.AV.int .u8 (Ax.I.lit 8)), (Ax.AV.int .u8 (Ax.I.lit 0)), (Ax.AV.int .u8 (Ax.I.lit 2)), (Ax.AV.int .u8 (Ax.I.lit 2)), (Ax.AV.int .u8 (Ax.I.lit 2)), (Ax.AV.int .u8 (Ax.I.lit 2)), (Ax.AV.int .u8 (Ax.I.lit 2)), (Ax.AV.int .u8 (Ax.I.lit 2)), (Ax.AV.int .u8 (Ax.I.lit 2)), (Ax.AV.int .u8 (Ax.I.lit 2)), (Ax.AV.int .u8 (Ax.I.lit 2)), (Ax.AV.int .u8 (Ax.I.lit 2)), (Ax.AV.int .u8 (Ax.I.lit 0)), (Ax.AV.int .u8 (Ax.I.lit 0)), (Ax.AV.int .u8 (Ax.I.lit 0)), (Ax.AV.int .u8 (Ax.I.lit 0)), (Ax.AV.int .u8 (Ax.I.lit 0)), (Ax.AV.int .u8 (Ax.I.lit 0)), (Ax.AV.int .u8 (Ax.I.lit 0)), (Ax.AV.int .u8 (Ax.I.lit 1)), (Ax.AV.int .u8 (Ax.I.lit 1)), (Ax.AV.int .u8 (Ax.I.lit 1)), (Ax.AV.int .u8 (Ax.I.lit 1)), (Ax.AV.int .u8 (Ax.I.lit 1)), (Ax.AV.int .u8 (Ax.I.lit 1)), (Ax.AV.int .u8 (Ax.I.lit 1)), (Ax.AV.int .u8 (Ax.I.lit 1)), (Ax.AV.int .u8 (Ax.I.lit 1)), (Ax.AV.int .u8 (Ax.I.lit 1)), (Ax.AV.int .u8 (Ax.I.lit 1)), (Ax.AV.int .u8 (Ax.I.lit 1)), (Ax.AV.int .u8 (Ax.I.lit 1)), (Ax.AV.int .u8 (Ax.I.lit 1)), (Ax.AV.int .u8 (Ax.I.lit 1)), (Ax.AV.int .u8 (Ax.I.lit 1)), (Ax.AV.int .u8 (Ax.I.lit 1)), (Ax.AV.int .u8 (Ax.I.lit 1)), (Ax.AV.int .u8 (Ax.I.lit 1)), (Ax.AV.int .u8 (Ax.I.lit 1)), (Ax.AV.int .u8 (Ax.I.lit 1)), (Ax.AV.int .u8 (Ax.I.lit 1)), (Ax.AV.int .u8 (Ax.I.lit 1)), (Ax.AV.int .u8 (Ax.I.lit 1)), (Ax.AV.int .u8 (Ax.I.lit 1)), (Ax.AV.int .u8 (Ax.I.lit 1)), (Ax.AV.int .u8 (Ax.I.lit 0)), (Ax.AV.int .u8 (Ax.I.lit 0)), (Ax.AV.int .u8 (Ax.I.lit 0)), (Ax.AV.int .u8 (Ax.I.lit 0)), (Ax.AV.int .u8 (Ax.I.lit 4)), (Ax.AV.int .u8 (Ax.I.lit 0)), (Ax.AV.int .u8 (Ax.I.lit 1)), (Ax.AV.int .u8 (Ax.I.lit 1)), (Ax.AV.int .u8 (Ax.I.lit 1)), (Ax.AV.int .u8 (Ax.I.lit 1)), (Ax.AV.int .u8 (Ax.I.lit 1)), (Ax.AV.int .u8 (Ax.I.lit 1)), (Ax.AV.int .u8 (Ax.I.lit 1)), (Ax.AV.int .u8 (Ax.I.lit 1)), (Ax.AV.int .u8 (Ax.I.lit 1)), (Ax.AV.int .u8 (Ax.I.lit 1)), (Ax.AV.int .u8 (Ax.I.lit 1)), (Ax.AV.int .u8 (Ax.I.lit 1)), (Ax.AV.int .u8 (Ax.I.lit 1)), (Ax.AV.int .u8 (Ax.I.lit 1)), (Ax.AV.int .u8 (Ax.I.lit 1)), (Ax.AV.int .u8 (Ax.I.lit 1)), (Ax.AV.int .u8 (Ax.I.lit 1)), (Ax.AV.int .u8 (Ax.I.lit 1)), (Ax.AV.int .u8 (Ax.I.lit 1)), (Ax.AV.int .u8 (Ax.I.lit 1)), (Ax.AV.int .u8 (Ax.I.lit 1)), (Ax.AV.int .u8 (Ax.I.lit 1)), (Ax.AV.int .u8 (Ax.I.lit 1)), (Ax.AV.int .u8 (Ax.I.lit 1)), (Ax.AV.int .u8 (Ax.I.lit 1)), (Ax.AV.int .u8 (Ax.I.lit 1)), (Ax.AV.int .u8 (Ax.I.lit 0)), (Ax.AV.int .u8 (Ax.I.lit 0)), (Ax.AV.int .u8 (Ax.I.lit 0)), (Ax.AV.int .u8 (Ax.I.lit 0)), (Ax.AV.int .u8 (Ax.I.lit 0))])[(((((List.getD s_1 (v_1).toNat 0)).toNat : Nat) : Int)).toNat]?) fun x_0 =>
    Option.bind (bif (decide (x_0 = 1)) then (some true) else
     (bif (decide (0 < v_1)) then (bif (!decide ((arith .and .u8 x_0 6) = 0)) then (some true) else
       (some false)) else
      (some false))) fun b_1 =>
    bif (!b_1) then (Option.map .inr (some [(.b false)])) else
    (some (.inl [(.s s_1), (.i v_0), (.i (i64 (v_1 + 1)))]))) else none) else none) else none)) else none) else
  (Option.map .inr (some [(.b true)]))
noncomputable def F_name_Set : List Dat → Option (List Dat) := fun ds_0 =>
  onS ds_0 fun s_0 ds_1 =>
  Option.bind (bif (decide ((((s_0).length : Nat) : Int) < 1)) then (some true) else
   (bif (decide (30 < (((s_0).length : Nat) : Int))) then (some true) else
    (some false))) fun b_0 =>
  bif b_0 then (some [(.b false)]) else
  (iter F_name_Set_L0 [(.s s_0), (.i (((s_0).length : Nat) : Int)), (.i 0)])
noncomputable def F_linkline_Shift_L0 (fieldsn_0 : Nat) (fieldsl_0 : List AV) : List Dat → Option (List Dat ⊕ List Dat) := fun ds_3 =>
  onN ds_3 fun sn_0 ds_4 =>
  onL ds_4 fun sl_0 ds_5 =>
  onI ds_5 fun v_0 ds_6 =>
  onI ds_6 fun v_1 ds_7 =>
  bif (decide (v_1 < v_0)) then (bif (decide ((0 ≤ v_1) ∧ (v_1 < ((sn_0 : Nat) : Int)))) then (Option.bind (asS (sl_0)[(v_1).toNat]?) fun s_0 =>
   Option.bind (F_name_Set [(.s s_0)]) fun r_0 =>
   onB r_0 fun b_0 ds_8 =>
   bif (!b_0) then (Option.map .inr (bif (decide (0 ≤ v_1)) then (some [(.s ([] : List UInt8)), (.i 9)]) else
     (bif (decide (((0 : Int) ≤ 0) ∧ (0 < ((fieldsn_0 : Nat) : Int)))) then (Option.bind (asS (fieldsl_0)[0]?) fun s_1 =>
      some [(.s s_1), (.i 0)]) else none))) else
   (some (.inl [(.n sn_0), (.l sl_0), (.i v_0), (.i (i64 (v_1 + 1)))]))) else none) else
  (Option.map .inr (bif (decide (((0 : Int) ≤ 0) ∧ (0 < ((fieldsn_0 : Nat) : Int)))) then (Option.bind (asS (fieldsl_0)[0]?) fun s_2 =>
    some [(.s s_2), (.i 0)]) else none))
noncomputable def F_linkline_Shift : List Dat → Option (List Dat) := fun ds_0 =>
  onN ds_0 fun fieldsn_0 ds_1 =>
  onL ds_1 fun fieldsl_0 ds_2 =>
  bif (!decide (((fieldsn_0 : Nat) : Int) = 1)) then (some [(.s ([] : List UInt8)), (.i 5)]) else
  (iter (F_linkline_Shift_L0 fieldsn_0 fieldsl_0) [(.n fieldsn_0), (.l fieldsl_0), (.i ((fieldsn_0 : Nat) : Int)), (.i 0)])
noncomputable def F_lexeme_writable_L0 : List Dat → Option (List Dat ⊕ List Dat) := fun ds_2 =>
  onS ds_2 fun field_1 ds_3 =>
  onI ds_3 fun v_0 ds_4 =>
  onI ds_4 fun v_1 ds_5 =>
  bif (decide (v_1 < v_0)) then (Option.bind (bif (decide ((0 ≤ v_1) ∧ (v_1 < (((field_1).length : Nat) : Int)))) then (bif (decide (((((List.getD field_1 (v_1).toNat 0)).toNat : Nat) : Int) < 32)) then (some true) else
    (bif (decide ((0 ≤ v_1) ∧ (v_1 < (((field_1).length : Nat) : Int)))) then (bif (decide (126 < ((((List.getD field_1 (v_1).toNat 0)).toNat : Nat) : Int))) then (some true) else
     (bif (decide ((0 ≤ v_1) ∧ (v_1 < (((field_1).length : Nat) : Int)))) then (bif (decide (((((List.getD field_1 (v_1).toNat 0)).toNat : Nat) : Int) = 34)) then (some true) else
      (some false)) else none)) else none)) else none) fun b_0 =>
   bif b_0 then (Option.map .inr (some [(.b false)])) else
   (some (.inl [(.s field_1), (.i v_0), (.i (i64 (v_1 + 1)))]))) else
  (Option.map .inr (some [(.b true)]))
noncomputable def F_lexeme_writable : List Dat → Option (List Dat) := fun ds_0 =>
  onS ds_0 fun field_0 ds_1 =>
  iter F_lexeme_writable_L0 [(.s field_0), (.i (((field_0).length : Nat) : Int)), (.i 0)]
noncomputable def F_lexeme_Join_L0 : List Dat → Option (List Dat ⊕ List Dat) := fun ds_3 =>
  onN ds_3 fun vn_0 ds_4 =>
  onL ds_4 fun vl_0 ds_5 =>
  onI ds_5 fun v_0 ds_6 =>
  onI ds_6 fun v_1 ds_7 =>
  onN ds_7 fun cn_0 ds_8 =>
  onL ds_8 fun cells_0 ds_9 =>
  bif (decide (v_1 < v_0)) then (bif (decide ((0 ≤ v_1) ∧ (v_1 < ((vn_0 : Nat) : Int)))) then (Option.bind (asS (vl_0)[(v_1).toNat]?) fun s_0 =>
   Option.bind (F_lexeme_writable [(.s s_0)]) fun r_0 =>
   onB r_0 fun b_0 ds_10 =>
   bif (!b_0) then (Option.map .inr (some [(.s ([] : List UInt8)), (.i 2)])) else
   (bif (decide (0 < v_1)) then (bif (decide ((cells_0).length = cn_0)) then (bif (decide (((cn_0 + 1) * 1) ≤ 140737488355328)) then (bif (s_0 == ([] : List UInt8)) then (bif (decide ((1 + (s_0).length) ≤ 9223372036854775807)) then (bif (decide ((((([34] : List UInt8) ++ s_0)).length + 1) ≤ 9223372036854775807)) then (bif (decide (((cells_0 ++ [(Ax.AV.int .u8 (Ax.I.lit 32))])).length = (cn_0 + 1))) then (bif (decide ((((cn_0 + 1) + (((([34] : List UInt8) ++ s_0) ++ ([34] : List UInt8))).length) * 1) ≤ 140737488355328)) then (bif (List.all ((cells_0 ++ [(Ax.AV.int .u8 (Ax.I.lit 32))]) ++ (Ax.byteCells ((([34] : List UInt8) ++ s_0) ++ ([34] : List UInt8)))) (Ax.closedN 20)) then (some (.inl [(.n vn_0), (.l vl_0), (.i v_0), (.i (i64 (v_1 + 1))), (.n ((cn_0 + 1) + (((([34] : List UInt8) ++ s_0) ++ ([34] : List UInt8))).length)), (.l ((cells_0 ++ [(Ax.AV.int .u8 (Ax.I.lit 32))]) ++ (Ax.byteCells ((([34] : List UInt8) ++ s_0) ++ ([34] : List UInt8)))))])) else
      (none)) else none) else none) else none) else none) else
     (Option.bind (Ax.strContainsAny [(.s s_0), (.s ([32, 35] : List UInt8))]) fun r_1 =>
      onB r_1 fun b_1 ds_11 =>
      bif b_1 then (bif (decide ((1 + (s_0).length) ≤ 9223372036854775807)) then (bif (decide ((((([34] : List UInt8) ++ s_0)).length + 1) ≤ 9223372036854775807)) then (bif (decide (((cells_0 ++ [(Ax.AV.int .u8 (Ax.I.lit 32))])).length = (cn_0 + 1))) then (bif (decide ((((cn_0 + 1) + (((([34] : List UInt8) ++ s_0) ++ ([34] : List UInt8))).length) * 1) ≤ 140737488355328)) then (bif (List.all ((cells_0 ++ [(Ax.AV.int .u8 (Ax.I.lit 32))]) ++ (Ax.byteCells ((([34] : List UInt8) ++ s_0) ++ ([34] : List UInt8)))) (Ax.closedN 20)) then (some (.inl [(.n vn_0), (.l vl_0), (.i v_0), (.i (i64 (v_1 + 1))), (.n ((cn_0 + 1) + (((([34] : List UInt8) ++ s_0) ++ ([34] : List UInt8))).length)), (.l ((cells_0 ++ [(Ax.AV.int .u8 (Ax.I.lit 32))]) ++ (Ax.byteCells ((([34] : List UInt8) ++ s_0) ++ ([34] : List UInt8)))))])) else
       (none)) else none) else none) else none) else none) else
      (bif (decide (((cells_0 ++ [(Ax.AV.int .u8 (Ax.I.lit 32))])).length = (cn_0 + 1))) then (bif (decide ((((cn_0 + 1) + (s_0).length) * 1) ≤ 140737488355328)) then (bif (List.all ((cells_0 ++ [(Ax.AV.int .u8 (Ax.I.lit 32))]) ++ (Ax.byteCells s_0)) (Ax.closedN 20)) then (some (.inl [(.n vn_0), (.l vl_0), (.i v_0), (.i (i64 (v_1 + 1))), (.n ((cn_0 + 1) + (s_0).length)), (.l ((cells_0 ++ [(Ax.AV.int .u8 (Ax.I.lit 32))]) ++ (Ax.byteCells s_0)))])) else
       (none)) else none) else none))) else none) else none) else
    (bif (s_0 == ([] : List UInt8)) then (bif (decide ((1 + (s_0).length) ≤ 9223372036854775807)) then (bif (decide ((((([34] : List UInt8) ++ s_0)).length + 1) ≤ 9223372036854775807)) then (bif (decide ((cells_0).length = cn_0)) then (bif (decide (((cn_0 + (((([34] : List UInt8) ++ s_0) ++ ([34] : List UInt8))).length) * 1) ≤ 140737488355328)) then (bif (List.all (cells_0 ++ (Ax.byteCells ((([34] : List UInt8) ++ s_0) ++ ([34] : List UInt8)))) (Ax.closedN 20)) then (some (.inl [(.n vn_0), (.l vl_0), (.i v_0), (.i (i64 (v_1 + 1))), (.n (cn_0 + (((([34] : List UInt8) ++ s_0) ++ ([34] : List UInt8))).length)), (.l (cells_0 ++ (Ax.byteCells ((([34] : List UInt8) ++ s_0) ++ ([34] : List UInt8)))))])) else
      (none)) else none) else none) else none) else none) else
     (Option.bind (Ax.strContainsAny [(.s s_0), (.s ([32, 35] : List UInt8))]) fun r_2 =>
      onB r_2 fun b_2 ds_12 =>
      bif b_2 then (bif (decide ((1 + (s_0).length) ≤ 9223372036854775807)) then (bif (decide ((((([34] : List UInt8) ++ s_0)).length + 1) ≤ 9223372036854775807)) then (bif (decide ((cells_0).length = cn_0)) then (bif (decide (((cn_0 + (((([34] : List UInt8) ++ s_0) ++ ([34] : List UInt8))).length) * 1) ≤ 140737488355328)) then (bif (List.all (cells_0 ++ (Ax.byteCells ((([34] : List UInt8) ++ s_0) ++ ([34] : List UInt8)))) (Ax.closedN 20)) then (some (.inl [(.n vn_0), (.l vl_0), (.i v_0), (.i (i64 (v_1 + 1))), (.n (cn_0 + (((([34] : List UInt8) ++ s_0) ++ ([34] : List UInt8))).length)), (.l (cells_0 ++ (Ax.byteCells ((([34] : List UInt8) ++ s_0) ++ ([34] : List UInt8)))))])) else
       (none)) else none) else none) else none) else none) else
      (bif (decide ((cells_0).length = cn_0)) then (bif (decide (((cn_0 + (s_0).length) * 1) ≤ 140737488355328)) then (bif (List.all (cells_0 ++ (Ax.byteCells s_0)) (Ax.closedN 20)) then (some (.inl [(.n vn_0), (.l vl_0), (.i v_0), (.i (i64 (v_1 + 1))), (.n (cn_0 + (s_0).length)), (.l (cells_0 ++ (Ax.byteCells s_0)))])) else
       (none)) else none) else none))))) else none) else
  (Option.map .inr (bif (decide (300 < ((cn_0 : Nat) : Int))) then (some [(.s ([] : List UInt8)), (.i 6)]) else
    (bif (decide ((cells_0).length = cn_0)) then (bif (decide (cn_0 ≤ 9223372036854775807)) then (Option.bind (bytesOf cells_0) fun s_1 =>
     some [(.s s_1), (.i 0)]) else none) else none)))
noncomputable def F_lexeme_Join : List Dat → Option (List Dat) := fun ds_0 =>
  onN ds_0 fun fieldsn_0 ds_1 =>
  onL ds_1 fun fieldsl_0 ds_2 =>
  iter F_lexeme_Join_L0 [(.n fieldsn_0), (.l fieldsl_0), (.i ((fieldsn_0 : Nat) : Int)), (.i 0), (.n 0), (.l [])]
noncomputable def F_linkline_Print : List Dat → Option (List Dat) := fun ds_0 =>
  onS ds_0 fun l_0 ds_1 =>
  onS ds_1 fun l_1 ds_2 =>
  Option.bind (nameZone [(.s l_0)]) fun r_0 =>
  onB r_0 fun b_0 ds_3 =>
  bif (!b_0) then (some [(.s ([] : List UInt8)), (.i 2)]) else
  (Option.bind (nameZone [(.s l_1)]) fun r_1 =>
   onB r_1 fun b_1 ds_4 =>
   bif (!b_1) then (some [(.s ([] : List UInt8)), (.i 2)]) else
   (bif (decide (3 ≤ ([(Ax.AV.str (Ax.S.lit ([76, 105, 110, 107] : List UInt8))), (Ax.AV.str (Ax.S.sym l_0)), (Ax.AV.str (Ax.S.sym l_1))]).length)) then (Option.bind (F_lexeme_Join [(.n 3), (.l [(Ax.AV.str (Ax.S.lit ([76, 105, 110, 107] : List UInt8))), (Ax.AV.str (Ax.S.sym l_0)), (Ax.AV.str (Ax.S.sym l_1))])]) fun r_2 =>
     onS r_2 fun s_0 ds_5 =>
     onI ds_5 fun i_0 ds_6 =>
     bif (!decide (i_0 = 0)) then (some [(.s ([] : List UInt8)), (.i 2)]) else
     (some [(.s s_0), (.i 0)])) else
    (none)))
noncomputable def F_linkline_PrintShift : List Dat → Option (List Dat) := fun ds_0 =>
  onS ds_0 fun set_0 ds_1 =>
  Option.bind (F_name_Set [(.s set_0)]) fun r_0 =>
  onB r_0 fun b_0 ds_2 =>
  bif (!b_0) then (some [(.s ([] : List UInt8)), (.i 2)]) else
  (bif (decide (2 ≤ ([(Ax.AV.str (Ax.S.lit ([83, 104, 105, 102, 116] : List UInt8))), (Ax.AV.str (Ax.S.sym set_0))]).length)) then (Option.bind (F_lexeme_Join [(.n 2), (.l [(Ax.AV.str (Ax.S.lit ([83, 104, 105, 102, 116] : List UInt8))), (Ax.AV.str (Ax.S.sym set_0))])]) fun r_1 =>
    onS r_1 fun s_0 ds_3 =>
    onI ds_3 fun i_0 ds_4 =>
    bif (!decide (i_0 = 0)) then (some [(.s ([] : List UInt8)), (.i 2)]) else
    (some [(.s s_0), (.i 0)])) else
   (none))
noncomputable def F_law12_works : List Dat → Option (List Dat) := fun _ => some [.b true]
noncomputable def F_ref07_letter : List Dat → Option (List Dat) := fun ds_0 =>
  onI ds_0 fun c_0 ds_1 =>
  Option.bind (bif (decide (65 ≤ c_0)) then (bif (decide (c_0 ≤ 90)) then (some true) else
    (bif (decide (97 ≤ c_0)) then (bif (decide (c_0 ≤ 122)) then (some true) else
      (some false)) else
     (some false))) else
   (bif (decide (97 ≤ c_0)) then (bif (decide (c_0 ≤ 122)) then (some true) else
     (some false)) else
    (some false))) fun b_0 =>
  some [(.b b_0)]
noncomputable def F_ref07_digit : List Dat → Option (List Dat) := fun ds_0 =>
  onI ds_0 fun c_0 ds_1 =>
  Option.bind (bif (decide (48 ≤ c_0)) then (bif (decide (c_0 ≤ 57)) then (some true) else
    (some false)) else
   (some false)) fun b_0 =>
  some [(.b b_0)]
noncomputable def F_ref07_part_L0 : List Dat → Option (List Dat ⊕ List Dat) := fun ds_2 =>
  onS ds_2 fun s_1 ds_3 =>
  onI ds_3 fun i_0 ds_4 =>
  bif (decide (i_0 < (((s_1).length : Nat) : Int))) then (bif (decide ((0 ≤ i_0) ∧ (i_0 < (((s_1).length : Nat) : Int)))) then (Option.bind (F_ref07_letter [(.i ((((List.getD s_1 (i_0).toNat 0)).toNat : Nat) : Int))]) fun r_0 =>
   onB r_0 fun b_1 ds_5 =>
   bif (!b_1) then (bif (decide ((0 ≤ i_0) ∧ (i_0 < (((s_1).length : Nat) : Int)))) then (Option.bind (F_ref07_digit [(.i ((((List.getD s_1 (i_0).toNat 0)).toNat : Nat) : Int))]) fun r_1 =>
    onB r_1 fun b_2 ds_6 =>
    bif (!b_2) then (bif (decide ((0 ≤ i_0) ∧ (i_0 < (((s_1).length : Nat) : Int)))) then (bif (!decide (((((List.getD s_1 (i_0).toNat 0)).toNat : Nat) : Int) = 46)) then (bif (decide ((0 ≤ i_0) ∧ (i_0 < (((s_1).length : Nat) : Int)))) then (bif (!decide (((((List.getD s_1 (i_0).toNat 0)).toNat : Nat) : Int) = 95)) then (bif (decide ((0 ≤ i_0) ∧ (i_0 < (((s_1).length : Nat) : Int)))) then (bif (!decide (((((List.getD s_1 (i_0).toNat 0)).toNat : Nat) : Int) = 43)) then (bif (decide ((0 ≤ i_0) ∧ (i_0 < (((s_1).length : Nat) : Int)))) then (bif (!decide (((((List.getD s_1 (i_0).toNat 0)).toNat : Nat) : Int) = 45)) then (Option.map .inr (some [(.b false)])) else
        (some (.inl [(.s s_1), (.i (i64 (i_0 + 1)))]))) else none) else
       (some (.inl [(.s s_1), (.i (i64 (i_0 + 1)))]))) else none) else
      (some (.inl [(.s s_1), (.i (i64 (i_0 + 1)))]))) else none) else
     (some (.inl [(.s s_1), (.i (i64 (i_0 + 1)))]))) else none) else
    (some (.inl [(.s s_1), (.i (i64 (i_0 + 1)))]))) else none) else
   (some (.inl [(.s s_1), (.i (i64 (i_0 + 1)))]))) else none) else
  (Option.map .inr (some [(.b true)]))
noncomputable def F_ref07_part : List Dat → Option (List Dat) := fun ds_0 =>
  onS ds_0 fun s_0 ds_1 =>
  Option.bind (bif (decide ((((s_0).length : Nat) : Int) < 1)) then (some true) else
   (bif (decide (14 < (((s_0).length : Nat) : Int))) then (some true) else
    (bif (decide (((0 : Int) ≤ 0) ∧ (0 < (((s_0).length : Nat) : Int)))) then (bif (decide (((((List.getD s_0 0 0)).toNat : Nat) : Int) = 46)) then (some true) else
     (bif (decide (((0 : Int) ≤ 0) ∧ (0 < (((s_0).length : Nat) : Int)))) then (bif (decide (((((List.getD s_0 0 0)).toNat : Nat) : Int) = 45)) then (some true) else
      (some false)) else none)) else none))) fun b_0 =>
  bif b_0 then (some [(.b false)]) else
  (iter F_ref07_part_L0 [(.s s_0), (.i 0)])
noncomputable def F_ref07_Zone_L0 : List Dat → Option (List Dat ⊕ List Dat) := fun ds_2 =>
  onS ds_2 fun s_1 ds_3 =>
  onI ds_3 fun vfrom_0 ds_4 =>
  onI ds_4 fun i_0 ds_5 =>
  bif (decide (i_0 < (((s_1).length : Nat) : Int))) then (bif (decide ((0 ≤ i_0) ∧ (i_0 < (((s_1).length : Nat) : Int)))) then (bif (decide (((((List.getD s_1 (i_0).toNat 0)).toNat : Nat) : Int) = 47)) then (bif (decide ((0 ≤ i_0) ∧ (i_0 ≤ (((s_1).length : Nat) : Int)))) then (bif (decide ((0 ≤ vfrom_0) ∧ (vfrom_0 ≤ (((i_0).toNat : Nat) : Int)))) then (Option.bind (F_ref07_part [(.s (List.take ((i_0).toNat - (vfrom_0).toNat) (List.drop (vfrom_0).toNat s_1)))]) fun r_0 =>
    onB r_0 fun b_0 ds_6 =>
    bif (!b_0) then (Option.map .inr (some [(.b false)])) else
    (some (.inl [(.s s_1), (.i (i64 (i_0 + 1))), (.i (i64 (i_0 + 1)))]))) else none) else none) else
   (some (.inl [(.s s_1), (.i vfrom_0), (.i (i64 (i_0 + 1)))]))) else none) else
  (Option.map .inr (bif (decide ((0 ≤ vfrom_0) ∧ (vfrom_0 ≤ (((s_1).length : Nat) : Int)))) then (Option.bind (F_ref07_part [(.s (List.take ((s_1).length - (vfrom_0).toNat) (List.drop (vfrom_0).toNat s_1)))]) fun r_1 =>
    onB r_1 fun b_1 ds_7 =>
    bif b_1 then (bif (decide ((((s_1).length : Nat) : Int) ≤ 60)) then (some [(.b true)]) else
     (some [(.b false)])) else
    (some [(.b false)])) else none))
noncomputable def F_ref07_Zone : List Dat → Option (List Dat) := fun ds_0 =>
  onS ds_0 fun s_0 ds_1 =>
  iter F_ref07_Zone_L0 [(.s s_0), (.i 0), (.i 0)]
noncomputable def F_ref12_Link : List Dat → Option (List Dat) := fun ds_0 =>
  onN ds_0 fun fieldsn_0 ds_1 =>
  onL ds_1 fun fieldsl_0 ds_2 =>
  bif (!decide (((fieldsn_0 : Nat) : Int) = 2)) then (some [(.s ([] : List UInt8)), (.s ([] : List UInt8)), (.i 5)]) else
  (bif (decide (((0 : Int) ≤ 0) ∧ (0 < ((fieldsn_0 : Nat) : Int)))) then (Option.bind (asS (fieldsl_0)[0]?) fun s_0 =>
   Option.bind (F_ref07_Zone [(.s s_0)]) fun r_0 =>
   onB r_0 fun b_0 ds_3 =>
   bif (!b_0) then (some [(.s ([] : List UInt8)), (.s ([] : List UInt8)), (.i 9)]) else
   (bif (decide (((0 : Int) ≤ 1) ∧ (1 < ((fieldsn_0 : Nat) : Int)))) then (Option.bind (asS (fieldsl_0)[1]?) fun s_1 =>
    Option.bind (F_ref07_Zone [(.s s_1)]) fun r_1 =>
    onB r_1 fun b_1 ds_4 =>
    bif (!b_1) then (some [(.s ([] : List UInt8)), (.s ([] : List UInt8)), (.i 9)]) else
    (bif (decide (((0 : Int) ≤ 0) ∧ (0 < ((fieldsn_0 : Nat) : Int)))) then (Option.bind (asS (fieldsl_0)[0]?) fun s_2 =>
     bif (decide (((0 : Int) ≤ 1) ∧ (1 < ((fieldsn_0 : Nat) : Int)))) then (Option.bind (asS (fieldsl_0)[1]?) fun s_3 =>
     some [(.s s_2), (.s s_3), (.i 0)]) else none) else none)) else none)) else none)
noncomputable def F_ref07_Set_L0 : List Dat → Option (List Dat ⊕ List Dat) := fun ds_3 =>
  onS ds_3 fun s_1 ds_4 =>
  onI ds_4 fun i_0 ds_5 =>
  bif (decide (i_0 < (((s_1).length : Nat) : Int))) then (bif (decide ((0 ≤ i_0) ∧ (i_0 < (((s_1).length : Nat) : Int)))) then (Option.bind (F_ref07_letter [(.i ((((List.getD s_1 (i_0).toNat 0)).toNat : Nat) : Int))]) fun r_1 =>
   onB r_1 fun b_1 ds_6 =>
   bif (!b_1) then (bif (decide ((0 ≤ i_0) ∧ (i_0 < (((s_1).length : Nat) : Int)))) then (Option.bind (F_ref07_digit [(.i ((((List.getD s_1 (i_0).toNat 0)).toNat : Nat) : Int))]) fun r_2 =>
    onB r_2 fun b_2 ds_7 =>
    bif (!b_2) then (bif (decide ((0 ≤ i_0) ∧ (i_0 < (((s_1).length : Nat) : Int)))) then (bif (!decide (((((List.getD s_1 (i_0).toNat 0)).toNat : Nat) : Int) = 95)) then (bif (decide ((0 ≤ i_0) ∧ (i_0 < (((s_1).length : Nat) : Int)))) then (bif (!decide (((((List.getD s_1 (i_0).toNat 0)).toNat : Nat) : Int) = 45)) then (Option.map .inr (some [(.b false)])) else
      (some (.inl [(.s s_1), (.i (i64 (i_0 + 1)))]))) else none) else
     (some (.inl [(.s s_1), (.i (i64 (i_0 + 1)))]))) else none) else
    (some (.inl [(.s s_1), (.i (i64 (i_0 + 1)))]))) else none) else
   (some (.inl [(.s s_1), (.i (i64 (i_0 + 1)))]))) else none) else
  (Option.map .inr (some [(.b true)]))
noncomputable def F_ref07_Set : List Dat → Option (List Dat) := fun ds_0 =>
  onS ds_0 fun s_0 ds_1 =>
  bif (decide ((((s_0).length : Nat) : Int) < 1)) then (some [(.b false)]) else
  (bif (decide (30 < (((s_0).length : Nat) : Int))) then (some [(.b false)]) else
   (bif (decide (((0 : Int) ≤ 0) ∧ (0 < (((s_0).length : Nat) : Int)))) then (Option.bind (F_ref07_letter [(.i ((((List.getD s_0 0 0)).toNat : Nat) : Int))]) fun r_0 =>
    onB r_0 fun b_0 ds_2 =>
    bif (!b_0) then (some [(.b false)]) else
    (iter F_ref07_Set_L0 [(.s s_0), (.i 0)])) else none))
noncomputable def F_ref12_Shift : List Dat → Option (List Dat) := fun ds_0 =>
  onN ds_0 fun fieldsn_0 ds_1 =>
  onL ds_1 fun fieldsl_0 ds_2 =>
  bif (!decide (((fieldsn_0 : Nat) : Int) = 1)) then (some [(.s ([] : List UInt8)), (.i 5)]) else
  (bif (decide (((0 : Int) ≤ 0) ∧ (0 < ((fieldsn_0 : Nat) : Int)))) then (Option.bind (asS (fieldsl_0)[0]?) fun s_0 =>
   Option.bind (F_ref07_Set [(.s s_0)]) fun r_0 =>
   onB r_0 fun b_0 ds_3 =>
   bif (!b_0) then (some [(.s ([] : List UInt8)), (.i 9)]) else
   (bif (decide (((0 : Int) ≤ 0) ∧ (0 < ((fieldsn_0 : Nat) : Int)))) then (Option.bind (asS (fieldsl_0)[0]?) fun s_1 =>
    some [(.s s_1), (.i 0)]) else none)) else none)
noncomputable def F_law12_LinklineReads : List Dat → Option (List Dat) := fun ds_0 =>
  onN ds_0 fun ln_0 ds_1 =>
  onL ds_1 fun ll_0 ds_2 =>
  Option.bind (F_law12_few [(.n ln_0), (.l ll_0)]) fun r_0 =>
  onB r_0 fun b_0 ds_3 =>
  bif (!b_0) then (Option.bind (F_law12_works []) fun r_1 =>
   onB r_1 fun b_1 ds_4 =>
   some [(.b b_1)]) else
  (Option.bind (F_linkline_Link [(.n ln_0), (.l ll_0)]) fun r_2 =>
   onS r_2 fun s_0 ds_5 =>
   onS ds_5 fun s_1 ds_6 =>
   onI ds_6 fun i_0 ds_7 =>
   Option.bind (F_ref12_Link [(.n ln_0), (.l ll_0)]) fun r_3 =>
   onS r_3 fun s_2 ds_8 =>
   onS ds_8 fun s_3 ds_9 =>
   onI ds_9 fun i_1 ds_10 =>
   Option.bind (F_linkline_Shift [(.n ln_0), (.l ll_0)]) fun r_4 =>
   onS r_4 fun s_4 ds_11 =>
   onI ds_11 fun i_2 ds_12 =>
   Option.bind (F_ref12_Shift [(.n ln_0), (.l ll_0)]) fun r_5 =>
   onS r_5 fun s_5 ds_13 =>
   onI ds_13 fun i_3 ds_14 =>
   bif ((s_0 == s_2) && ((s_1 == s_3) && true)) then (bif (decide (i_0 = i_1)) then (bif (s_4 == s_5) then (bif (decide (i_2 = i_3)) then (Option.bind (F_law12_works []) fun r_6 =>
       onB r_6 fun b_2 ds_15 =>
       some [(.b b_2)]) else
      (some [(.b false)])) else
     (some [(.b false)])) else
    (some [(.b false)])) else
   (some [(.b false)]))
noncomputable def F_ref12_Print : List Dat → Option (List Dat) := fun ds_0 =>
  onS ds_0 fun l_0 ds_1 =>
  onS ds_1 fun l_1 ds_2 =>
  Option.bind (F_ref07_Zone [(.s l_0)]) fun r_0 =>
  onB r_0 fun b_0 ds_3 =>
  bif (!b_0) then (some [(.s ([] : List UInt8)), (.i 2)]) else
  (Option.bind (F_ref07_Zone [(.s l_1)]) fun r_1 =>
   onB r_1 fun b_1 ds_4 =>
   bif (!b_1) then (some [(.s ([] : List UInt8)), (.i 2)]) else
   (bif (decide ((5 + (l_0).length) ≤ 9223372036854775807)) then (bif (decide ((((([76, 105, 110, 107, 32] : List UInt8) ++ l_0)).length + 1) ≤ 9223372036854775807)) then (bif (decide (((((([76, 105, 110, 107, 32] : List UInt8) ++ l_0) ++ ([32] : List UInt8))).length + (l_1).length) ≤ 9223372036854775807)) then (some [(.s (((([76, 105, 110, 107, 32] : List UInt8) ++ l_0) ++ ([32] : List UInt8)) ++ l_1)), (.i 0)]) else none) else none) else none))
noncomputable def F_ref12_PrintShift : List Dat → Option (List Dat) := fun ds_0 =>
  onS ds_0 fun set_0 ds_1 =>
  Option.bind (F_ref07_Set [(.s set_0)]) fun r_0 =>
  onB r_0 fun b_0 ds_2 =>
  bif (!b_0) then (some [(.s ([] : List UInt8)), (.i 2)]) else
  (bif (decide ((6 + (set_0).length) ≤ 9223372036854775807)) then (some [(.s (([83, 104, 105, 102, 116, 32] : List UInt8) ++ set_0)), (.i 0)]) else none)
noncomputable def F_law12_LinklinePrints : List Dat → Option (List Dat) := fun ds_0 =>
  onS ds_0 fun l_0 ds_1 =>
  onS ds_1 fun l_1 ds_2 =>
  onS ds_2 fun set_0 ds_3 =>
  bif (decide (3 ≤ ([(Ax.AV.str (Ax.S.sym l_0)), (Ax.AV.str (Ax.S.sym l_1)), (Ax.AV.str (Ax.S.sym set_0))]).length)) then (Option.bind (F_law12_few [(.n 3), (.l [(Ax.AV.str (Ax.S.sym l_0)), (Ax.AV.str (Ax.S.sym l_1)), (Ax.AV.str (Ax.S.sym set_0))])]) fun r_0 =>
   onB r_0 fun b_0 ds_4 =>
   bif (!b_0) then (Option.bind (F_law12_works []) fun r_1 =>
    onB r_1 fun b_1 ds_5 =>
    some [(.b b_1)]) else
   (Option.bind (F_linkline_Print [(.s l_0), (.s l_1)]) fun r_2 =>
    onS r_2 fun s_0 ds_6 =>
    onI ds_6 fun i_0 ds_7 =>
    Option.bind (F_ref12_Print [(.s l_0), (.s l_1)]) fun r_3 =>
    onS r_3 fun s_1 ds_8 =>
    onI ds_8 fun i_1 ds_9 =>
    Option.bind (F_linkline_PrintShift [(.s set_0)]) fun r_4 =>
    onS r_4 fun s_2 ds_10 =>
    onI ds_10 fun i_2 ds_11 =>
    Option.bind (F_ref12_PrintShift [(.s set_0)]) fun r_5 =>
    onS r_5 fun s_3 ds_12 =>
    onI ds_12 fun i_3 ds_13 =>
    bif (s_0 == s_1) then (bif (decide (i_0 = i_1)) then (bif (s_2 == s_3) then (bif (decide (i_2 = i_3)) then (Option.bind (F_law12_works []) fun r_6 =>
        onB r_6 fun b_2 ds_14 =>
        some [(.b b_2)]) else
       (some [(.b false)])) else
      (some [(.b false)])) else
     (some [(.b false)])) else
    (some [(.b false)]))) else
  (none)
noncomputable def F_law07_part_L0 : List Dat → Option (List Dat ⊕ List Dat) := fun ds_3 =>
  onS ds_3 fun out_0 ds_4 =>
  onN ds_4 fun vn_0 ds_5 =>
  onL ds_5 fun vl_0 ds_6 =>
  onI ds_6 fun v_0 ds_7 =>
  onI ds_7 fun v_1 ds_8 =>
  bif (decide (v_1 < v_0)) then (bif (decide ((0 ≤ v_1) ∧ (v_1 < ((vn_0 : Nat) : Int)))) then (Option.bind (asI .u8 (vl_0)[(v_1).toNat]?) fun x_0 =>
   bif (decide (v_1 = 0)) then (bif (decide ((0 ≤ (u8 ((Int.tmod x_0 24) + 1))) ∧ ((u8 ((Int.tmod x_0 24) + 1)) ≤ 26))) then (bif (decide ((0 ≤ (Int.tmod x_0 24)) ∧ ((Int.tmod x_0 24) ≤ ((((u8 ((Int.tmod x_0 24) + 1))).toNat : Nat) : Int)))) then (bif (decide (((out_0).length + ((List.take (((u8 ((Int.tmod x_0 24) + 1))).toNat - ((Int.tmod x_0 24)).toNat) (List.drop ((Int.tmod x_0 24)).toNat ([65, 66, 67, 88, 89, 90, 97, 98, 99, 120, 121, 122, 48, 49, 50, 51, 52, 53, 54, 55, 56, 57, 95, 43, 46, 45] : List UInt8)))).length) ≤ 9223372036854775807)) then (some (.inl [(.s (out_0 ++ (List.take (((u8 ((Int.tmod x_0 24) + 1))).toNat - ((Int.tmod x_0 24)).toNat) (List.drop ((Int.tmod x_0 24)).toNat ([65, 66, 67, 88, 89, 90, 97, 98, 99, 120, 121, 122, 48, 49, 50, 51, 52, 53, 54, 55, 56, 57, 95, 43, 46, 45] : List UInt8))))), (.n vn_0), (.l vl_0), (.i v_0), (.i (i64 (v_1 + 1)))])) else none) else none) else none) else
   (bif (decide ((0 ≤ (u8 ((Int.tmod x_0 26) + 1))) ∧ ((u8 ((Int.tmod x_0 26) + 1)) ≤ 26))) then (bif (decide ((0 ≤ (Int.tmod x_0 26)) ∧ ((Int.tmod x_0 26) ≤ ((((u8 ((Int.tmod x_0 26) + 1))).toNat : Nat) : Int)))) then (bif (decide (((out_0).length + ((List.take (((u8 ((Int.tmod x_0 26) + 1))).toNat - ((Int.tmod x_0 26)).toNat) (List.drop ((Int.tmod x_0 26)).toNat ([65, 66, 67, 88, 89, 90, 97, 98, 99, 120, 121, 122, 48, 49, 50, 51, 52, 53, 54, 55, 56, 57, 95, 43, 46, 45] : List UInt8)))).length) ≤ 9223372036854775807)) then (some (.inl [(.s (out_0 ++ (List.take (((u8 ((Int.tmod x_0 26) + 1))).toNat - ((Int.tmod x_0 26)).toNat) (List.drop ((Int.tmod x_0 26)).toNat ([65, 66, 67, 88, 89, 90, 97, 98, 99, 120, 121, 122, 48, 49, 50, 51, 52, 53, 54, 55, 56, 57, 95, 43, 46, 45] : List UInt8))))), (.n vn_0), (.l vl_0), (.i v_0), (.i (i64 (v_1 + 1)))])) else none) else none) else none)) else none) else
  (Option.map .inr (bif (out_0 == ([] : List UInt8)) then (some [(.s ([81] : List UInt8))]) else
    (some [(.s out_0)])))
noncomputable def F_law07_part : List Dat → Option (List Dat) := fun ds_0 =>
  onN ds_0 fun ln_0 ds_1 =>
  onL ds_1 fun ll_0 ds_2 =>
  bif (decide ((0 ≤ (if 14 < ((ln_0 : Nat) : Int) then 14 else ((ln_0 : Nat) : Int))) ∧ ((if 14 < ((ln_0 : Nat) : Int) then 14 else ((ln_0 : Nat) : Int)) ≤ ((ln_0 : Nat) : Int)))) then (bif (decide ((0 + ((if 14 < ((ln_0 : Nat) : Int) then 14 else ((ln_0 : Nat) : Int))).toNat) ≤ (ll_0).length)) then (iter F_law07_part_L0 [(.s ([] : List UInt8)), (.n ((if 14 < ((ln_0 : Nat) : Int) then 14 else ((ln_0 : Nat) : Int))).toNat), (.l (List.take ((if 14 < ((ln_0 : Nat) : Int) then 14 else ((ln_0 : Nat) : Int))).toNat (List.drop 0 ll_0))), (.i ((((if 14 < ((ln_0 : Nat) : Int) then 14 else ((ln_0 : Nat) : Int))).toNat : Nat) : Int)), (.i 0)]) else none) else none
noncomputable def F_law07_Zone_L0 : List Dat → Option (List Dat ⊕ List Dat) := fun ds_3 =>
  onS ds_3 fun out_0 ds_4 =>
  onN ds_4 fun vn_0 ds_5 =>
  onL ds_5 fun vl_0 ds_6 =>
  onI ds_6 fun v_0 ds_7 =>
  onI ds_7 fun v_1 ds_8 =>
  bif (decide (v_1 < v_0)) then (bif (decide ((0 ≤ v_1) ∧ (v_1 < ((vn_0 : Nat) : Int)))) then (Option.bind (asL (vl_0)[(v_1).toNat]?) fun p_0 =>
   bif (decide (0 < v_1)) then (bif (decide (((out_0).length + 1) ≤ 9223372036854775807)) then (Option.bind (F_law07_part [(.n (p_0).1), (.l (p_0).2)]) fun r_0 =>
    onS r_0 fun s_0 ds_9 =>
    bif (decide ((((out_0 ++ ([47] : List UInt8))).length + (s_0).length) ≤ 9223372036854775807)) then (some (.inl [(.s ((out_0 ++ ([47] : List UInt8)) ++ s_0)), (.n vn_0), (.l vl_0), (.i v_0), (.i (i64 (v_1 + 1)))])) else none) else none) else
   (Option.bind (F_law07_part [(.n (p_0).1), (.l (p_0).2)]) fun r_1 =>
    onS r_1 fun s_1 ds_10 =>
    bif (decide (((out_0).length + (s_1).length) ≤ 9223372036854775807)) then (some (.inl [(.s (out_0 ++ s_1)), (.n vn_0), (.l vl_0), (.i v_0), (.i (i64 (v_1 + 1)))])) else none)) else none) else
  (Option.map .inr (bif (out_0 == ([] : List UInt8)) then (some [(.s ([69, 116, 99, 47, 81] : List UInt8))]) else
    (some [(.s out_0)])))
noncomputable def F_law07_Zone : List Dat → Option (List Dat) := fun ds_0 =>
  onN ds_0 fun ln_0 ds_1 =>
  onL ds_1 fun ll_0 ds_2 =>
  bif (decide ((0 ≤ (if 4 < ((ln_0 : Nat) : Int) then 4 else ((ln_0 : Nat) : Int))) ∧ ((if 4 < ((ln_0 : Nat) : Int) then 4 else ((ln_0 : Nat) : Int)) ≤ ((ln_0 : Nat) : Int)))) then (bif (decide ((0 + ((if 4 < ((ln_0 : Nat) : Int) then 4 else ((ln_0 : Nat) : Int))).toNat) ≤ (ll_0).length)) then (iter F_law07_Zone_L0 [(.s ([] : List UInt8)), (.n ((if 4 < ((ln_0 : Nat) : Int) then 4 else ((ln_0 : Nat) : Int))).toNat), (.l (List.take ((if 4 < ((ln_0 : Nat) : Int) then 4 else ((ln_0 : Nat) : Int))).toNat (List.drop 0 ll_0))), (.i ((((if 4 < ((ln_0 : Nat) : Int) then 4 else ((ln_0 : Nat) : Int))).toNat : Nat) : Int)), (.i 0)]) else none) else none
noncomputable def F_law07_Letters_L0 : List Dat → Option (List Dat ⊕ List Dat) := fun ds_5 =>
  onN ds_5 fun ln_1 ds_6 =>
  onL ds_6 fun ll_1 ds_7 =>
  onI ds_7 fun least_1 ds_8 =>
  onI ds_8 fun most_1 ds_9 =>
  onS ds_9 fun out_0 ds_10 =>
  onI ds_10 fun i_0 ds_11 =>
  Option.bind (bif (decide (i_0 < most_1)) then (bif (decide (i_0 < ((ln_1 : Nat) : Int))) then (some true) else
    (bif (decide (i_0 < least_1)) then (some true) else
     (some false))) else
   (some false)) fun b_0 =>
  bif b_0 then (bif (decide (i_0 < ((ln_1 : Nat) : Int))) then (bif (decide ((0 ≤ i_0) ∧ (i_0 < ((ln_1 : Nat) : Int)))) then (Option.bind (asI .u8 (ll_1)[(i_0).toNat]?) fun x_0 =>
    bif (decide ((0 ≤ (u8 ((Int.tmod x_0 52) + 1))) ∧ ((u8 ((Int.tmod x_0 52) + 1)) ≤ 52))) then (bif (decide ((0 ≤ (Int.tmod x_0 52)) ∧ ((Int.tmod x_0 52) ≤ ((((u8 ((Int.tmod x_0 52) + 1))).toNat : Nat) : Int)))) then (bif (decide (((out_0).length + ((List.take (((u8 ((Int.tmod x_0 52) + 1))).toNat - ((Int.tmod x_0 52)).toNat) (List.drop ((Int.tmod x_0 52)).toNat ([65, 66, 67, 68, 69, 70, 71, 72, 73, 74, 75, 76, 77, 78, 79, 80, 81, 82, 83, 84, 85, 86, 87, 88, 89, 90, 97, 98, 99, 100, 101, 102, 103, 104, 105, 106, 107, 108, 109, 110, 111, 112, 113, 114, 115, 116, 117, 118, 119, 120, 121, 122] : List UInt8)))).length) ≤ 9223372036854775807)) then (some (.inl [(.n ln_1), (.l ll_1), (.i least_1), (.i most_1), (.s (out_0 ++ (List.take (((u8 ((Int.tmod x_0 52) + 1))).toNat - ((Int.tmod x_0 52)).toNat) (List.drop ((Int.tmod x_0 52)).toNat ([65, 66, 67, 68, 69, 70, 71, 72, 73, 74, 75, 76, 77, 78, 79, 80, 81, 82, 83, 84, 85, 86, 87, 88, 89, 90, 97, 98, 99, 100, 101, 102, 103, 104, 105, 106, 107, 108, 109, 110, 111, 112, 113, 114, 115, 116, 117, 118, 119, 120, 121, 122] : List UInt8))))), (.i (i64 (i_0 + 1)))])) else none) else none) else none) else none) else
   (bif (decide ((0 ≤ (u8 ((Int.tmod (u8 (i64 (i_0 * 7))) 52) + 1))) ∧ ((u8 ((Int.tmod (u8 (i64 (i_0 * 7))) 52) + 1)) ≤ 52))) then (bif (decide ((0 ≤ (Int.tmod (u8 (i64 (i_0 * 7))) 52)) ∧ ((Int.tmod (u8 (i64 (i_0 * 7))) 52) ≤ ((((u8 ((Int.tmod (u8 (i64 (i_0 * 7))) 52) + 1))).toNat : Nat) : Int)))) then (bif (decide (((out_0).length + ((List.take (((u8 ((Int.tmod (u8 (i64 (i_0 * 7))) 52) + 1))).toNat - ((Int.tmod (u8 (i64 (i_0 * 7))) 52)).toNat) (List.drop ((Int.tmod (u8 (i64 (i_0 * 7))) 52)).toNat ([65, 66, 67, 68, 69, 70, 71, 72, 73, 74, 75, 76, 77, 78, 79, 80, 81, 82, 83, 84, 85, 86, 87, 88, 89, 90, 97, 98, 99, 100, 101, 102, 103, 104, 105, 106, 107, 108, 109, 110, 111, 112, 113, 114, 115, 116, 117, 118, 119, 120, 121, 122] : List UInt8)))).length) ≤ 9223372036854775807)) then (some (.inl [(.n ln_1), (.l ll_1), (.i least_1), (.i most_1), (.s (out_0 ++ (List.take (((u8 ((Int.tmod (u8 (i64 (i_0 * 7))) 52) + 1))).toNat - ((Int.tmod (u8 (i64 (i_0 * 7))) 52)).toNat) (List.drop ((Int.tmod (u8 (i64 (i_0 * 7))) 52)).toNat ([65, 66, 67, 68, 69, 70, 71, 72, 73, 74, 75, 76, 77, 78, 79, 80, 81, 82, 83, 84, 85, 86, 87, 88, 89, 90, 97, 98, 99, 100, 101, 102, 103, 104, 105, 106, 107, 108, 109, 110, 111, 112, 113, 114, 115, 116, 117, 118, 119, 120, 121, 122] : List UInt8))))), (.i (i64 (i_0 + 1)))])) else none) else none) else none)) else
  (Option.map .inr (some [(.s out_0)]))
noncomputable def F_law07_Letters : List Dat → Option (List Dat) := fun ds_0 =>
  onN ds_0 fun ln_0 ds_1 =>
  onL ds_1 fun ll_0 ds_2 =>
  onI ds_2 fun least_0 ds_3 =>
  onI ds_3 fun most_0 ds_4 =>
  iter F_law07_Letters_L0 [(.n ln_0), (.l ll_0), (.i least_0), (.i most_0), (.s ([] : List UInt8)), (.i 0)]
noncomputable def F_lexeme_Fields_L0 : List Dat → Option (List Dat ⊕ List Dat) := fun ds_2 =>
  onS ds_2 fun line_1 ds_3 =>
  onB ds_3 fun quoted_0 ds_4 =>
  onI ds_4 fun v_0 ds_5 =>
  onI ds_5 fun v_1 ds_6 =>
  onN ds_6 fun c_0 ds_7 =>
  onN ds_7 fun c_1 ds_8 =>
  onB ds_8 fun c_2 ds_9 =>
  onL ds_9 fun cells_0 ds_10 =>
  onL ds_10 fun cells_1 ds_11 =>
  bif (decide (v_1 < v_0)) then (bif (decide ((0 ≤ v_1) ∧ (v_1 < (((line_1).length : Nat) : Int)))) then (Option.bind (bif (decide (((((List.getD line_1 (v_1).toNat 0)).toNat : Nat) : Int) = 35)) then (some (!quoted_0)) else
    (some false)) fun b_0 =>
   bif b_0 then (Option.map .inr (bif quoted_0 then (some [(.n 0), (.l []), (.i 5)]) else
     (bif c_2 then (bif (decide ((cells_1).length = c_1)) then (Option.bind (bytesOf cells_1) fun s_0 =>
       bif (decide ((cells_0).length = c_0)) then (bif (decide (((c_0 + 1) * 16) ≤ 140737488355328)) then (bif (decide ((0 + ((c_0 + 1) * 1)) ≤ ((cells_0 ++ [(Ax.AV.str (Ax.S.sym s_0))])).length)) then (bif (List.all (List.take ((c_0 + 1) * 1) (List.drop 0 (cells_0 ++ [(Ax.AV.str (Ax.S.sym s_0))]))) (Ax.closedN 20)) then (some [(.n (c_0 + 1)), (.l (List.take ((c_0 + 1) * 1) (List.drop 0 (cells_0 ++ [(Ax.AV.str (Ax.S.sym s_0))])))), (.i 0)]) else
        (none)) else
       (none)) else none) else none) else none) else
      (bif (decide ((cells_0).length = (c_0 * 1))) then (bif (List.all cells_0 (Ax.closedN 20)) then (some [(.n c_0), (.l cells_0), (.i 0)]) else
        (none)) else
       (none))))) else
   (bif (decide (((((List.getD line_1 (v_1).toNat 0)).toNat : Nat) : Int) = 34)) then (bif (List.all cells_0 (Ax.closedN 20)) then (bif (List.all cells_1 (Ax.closedN 20)) then (some (.inl [(.s line_1), (.b (!quoted_0)), (.i v_0), (.i (i64 (v_1 + 1))), (.n c_0), (.n c_1), (.b true), (.l cells_0), (.l cells_1)])) else
      (none)) else
     (none)) else
    (bif (decide (((((List.getD line_1 (v_1).toNat 0)).toNat : Nat) : Int) = 9)) then (bif quoted_0 then (Option.map .inr (some [(.n 0), (.l []), (.i 5)])) else
      (bif c_2 then (bif (decide ((cells_1).length = c_1)) then (Option.bind (bytesOf cells_1) fun s_1 =>
        bif (decide ((cells_0).length = c_0)) then (bif (decide (((c_0 + 1) * 16) ≤ 140737488355328)) then (bif (List.all (cells_0 ++ [(Ax.AV.str (Ax.S.sym s_1))]) (Ax.closedN 20)) then (some (.inl [(.s line_1), (.b quoted_0), (.i v_0), (.i (i64 (v_1 + 1))), (.n (c_0 + 1)), (.n 0), (.b false), (.l (cells_0 ++ [(Ax.AV.str (Ax.S.sym s_1))])), (.l [])])) else
        (none)) else none) else none) else none) else
       (bif (List.all cells_0 (Ax.closedN 20)) then (some (.inl [(.s line_1), (.b quoted_0), (.i v_0), (.i (i64 (v_1 + 1))), (.n c_0), (.n 0), (.b false), (.l cells_0), (.l [])])) else
        (none)))) else
     (Option.bind (bif (decide (((((List.getD line_1 (v_1).toNat 0)).toNat : Nat) : Int) = 32)) then (some (!quoted_0)) else
       (some false)) fun b_1 =>
      bif b_1 then (bif c_2 then (bif (decide ((cells_1).length = c_1)) then (Option.bind (bytesOf cells_1) fun s_2 =>
        bif (decide ((cells_0).length = c_0)) then (bif (decide (((c_0 + 1) * 16) ≤ 140737488355328)) then (bif (List.all (cells_0 ++ [(Ax.AV.str (Ax.S.sym s_2))]) (Ax.closedN 20)) then (some (.inl [(.s line_1), (.b quoted_0), (.i v_0), (.i (i64 (v_1 + 1))), (.n (c_0 + 1)), (.n 0), (.b false), (.l (cells_0 ++ [(Ax.AV.str (Ax.S.sym s_2))])), (.l [])])) else
        (none)) else none) else none) else none) else
       (bif (List.all cells_0 (Ax.closedN 20)) then (some (.inl [(.s line_1), (.b quoted_0), (.i v_0), (.i (i64 (v_1 + 1))), (.n c_0), (.n 0), (.b false), (.l cells_0), (.l [])])) else
        (none))) else
      (Option.bind (bif (decide (((((List.getD line_1 (v_1).toNat 0)).toNat : Nat) : Int) < 32)) then (some true) else
        (bif (decide (126 < ((((List.getD line_1 (v_1).toNat 0)).toNat : Nat) : Int))) then (some true) else
         (some false))) fun b_2 =>
       bif b_2 then (Option.map .inr (some [(.n 0), (.l []), (.i 5)])) else
       (bif (decide ((cells_1).length = c_1)) then (bif (decide (((c_1 + 1) * 1) ≤ 140737488355328)) then (bif (List.all cells_0 (Ax.closedN 20)) then (bif (List.all (cells_1 ++ [(Ax.AV.int .u8 (Ax.I.sym ((((List.getD line_1 (v_1).toNat 0)).toNat : Nat) : Int)))]) (Ax.closedN 20)) then (some (.inl [(.s line_1), (.b quoted_0), (.i v_0), (.i (i64 (v_1 + 1))), (.n c_0), (.n (c_1 + 1)), (.b true), (.l cells_0), (.l (cells_1 ++ [(Ax.AV.int .u8 (Ax.I.sym ((((List.getD line_1 (v_1).toNat 0)).toNat : Nat) : Int)))]))])) else
         (none)) else
        (none)) else none) else none)))))) else none) else
  (Option.map .inr (bif quoted_0 then (some [(.n 0), (.l []), (.i 5)]) else
    (bif c_2 then (bif (decide ((cells_1).length = c_1)) then (Option.bind (bytesOf cells_1) fun s_3 =>
      bif (decide ((cells_0).length = c_0)) then (bif (decide (((c_0 + 1) * 16) ≤ 140737488355328)) then (bif (decide ((0 + ((c_0 + 1) * 1)) ≤ ((cells_0 ++ [(Ax.AV.str (Ax.S.sym s_3))])).length)) then (bif (List.all (List.take ((c_0 + 1) * 1) (List.drop 0 (cells_0 ++ [(Ax.AV.str (Ax.S.sym s_3))]))) (Ax.closedN 20)) then (some [(.n (c_0 + 1)), (.l (List.take ((c_0 + 1) * 1) (List.drop 0 (cells_0 ++ [(Ax.AV.str (Ax.S.sym s_3))])))), (.i 0)]) else
       (none)) else
      (none)) else none) else none) else none) else
     (bif (decide ((cells_0).length = (c_0 * 1))) then (bif (List.all cells_0 (Ax.closedN 20)) then (some [(.n c_0), (.l cells_0), (.i 0)]) else
       (none)) else
      (none)))))
noncomputable def F_lexeme_Fields : List Dat → Option (List Dat) := fun ds_0 =>
  onS ds_0 fun line_0 ds_1 =>
  bif (decide (300 < (((line_0).length : Nat) : Int))) then (some [(.n 0), (.l []), (.i 6)]) else
  (iter F_lexeme_Fields_L0 [(.s line_0), (.b false), (.i (((line_0).length : Nat) : Int)), (.i 0), (.n 0), (.n 0), (.b false), (.l []), (.l [])])
noncomputable def F_law12_LinklineBack : List Dat → Option (List Dat) := fun ds_0 =>
  onN ds_0 fun an_0 ds_1 =>
  onL ds_1 fun al_0 ds_2 =>
  onN ds_2 fun bn_0 ds_3 =>
  onL ds_3 fun bl_0 ds_4 =>
  onN ds_4 fun cn_0 ds_5 =>
  onL ds_5 fun cl_0 ds_6 =>
  Option.bind (F_law07_Zone [(.n an_0), (.l al_0)]) fun r_0 =>
  onS r_0 fun s_0 ds_7 =>
  Option.bind (F_law07_Zone [(.n bn_0), (.l bl_0)]) fun r_1 =>
  onS r_1 fun s_1 ds_8 =>
  Option.bind (F_law07_Letters [(.n cn_0), (.l cl_0), (.i 0), (.i 20)]) fun r_2 =>
  onS r_2 fun s_2 ds_9 =>
  bif (decide ((1 + (s_2).length) ≤ 9223372036854775807)) then (Option.bind (nameZone [(.s s_0)]) fun r_3 =>
  onB r_3 fun b_0 ds_10 =>
  bif (!b_0) then (some [(.b false)]) else
  (Option.bind (nameZone [(.s s_1)]) fun r_4 =>
   onB r_4 fun b_1 ds_11 =>
   bif (!b_1) then (some [(.b false)]) else
   (Option.bind (F_name_Set [(.s (([83] : List UInt8) ++ s_2))]) fun r_5 =>
    onB r_5 fun b_2 ds_12 =>
    bif (!b_2) then (some [(.b false)]) else
    (Option.bind (F_linkline_Print [(.s s_0), (.s s_1)]) fun r_6 =>
     onS r_6 fun s_3 ds_13 =>
     onI ds_13 fun i_0 ds_14 =>
     Option.bind (F_lexeme_Fields [(.s s_3)]) fun r_7 =>
     onN r_7 fun n_0 ds_15 =>
     onL ds_15 fun l_0 ds_16 =>
     onI ds_16 fun i_1 ds_17 =>
     Option.bind (bif (!decide (i_0 = 0)) then (some true) else
      (bif (!decide (i_1 = 0)) then (some true) else
       (bif (!decide (((n_0 : Nat) : Int) = 3)) then (some true) else
        (bif (decide (((0 : Int) ≤ 0) ∧ (0 < ((n_0 : Nat) : Int)))) then (Option.bind (asS (l_0)[0]?) fun s_4 =>
         bif (!(s_4 == ([76, 105, 110, 107] : List UInt8))) then (some true) else
         (some false)) else none)))) fun b_3 =>
     bif b_3 then (some [(.b false)]) else
     (bif (decide (((0 : Int) ≤ 1) ∧ (1 ≤ ((n_0 : Nat) : Int)))) then (bif (decide ((1 + (n_0 - 1)) ≤ (l_0).length)) then (Option.bind (F_linkline_Link [(.n (n_0 - 1)), (.l (List.take (n_0 - 1) (List.drop 1 l_0)))]) fun r_8 =>
      onS r_8 fun s_5 ds_18 =>
      onS ds_18 fun s_6 ds_19 =>
      onI ds_19 fun i_2 ds_20 =>
      Option.bind (F_linkline_PrintShift [(.s (([83] : List UInt8) ++ s_2))]) fun r_9 =>
      onS r_9 fun s_7 ds_21 =>
      onI ds_21 fun i_3 ds_22 =>
      Option.bind (F_lexeme_Fields [(.s s_7)]) fun r_10 =>
      onN r_10 fun n_1 ds_23 =>
      onL ds_23 fun l_1 ds_24 =>
      onI ds_24 fun i_4 ds_25 =>
      Option.bind (bif (!decide (i_3 = 0)) then (some true) else
       (bif (!decide (i_4 = 0)) then (some true) else
        (bif (!decide (((n_1 : Nat) : Int) = 2)) then (some true) else
         (bif (decide (((0 : Int) ≤ 0) ∧ (0 < ((n_1 : Nat) : Int)))) then (Option.bind (asS (l_1)[0]?) fun s_8 =>
          bif (!(s_8 == ([83, 104, 105, 102, 116] : List UInt8))) then (some true) else
          (some false)) else none)))) fun b_4 =>
      bif b_4 then (some [(.b false)]) else
      (bif (decide (((0 : Int) ≤ 1) ∧ (1 ≤ ((n_1 : Nat) : Int)))) then (bif (decide ((1 + (n_1 - 1)) ≤ (l_1).length)) then (Option.bind (F_linkline_Shift [(.n (n_1 - 1)), (.l (List.take (n_1 - 1) (List.drop 1 l_1)))]) fun r_11 =>
       onS r_11 fun s_9 ds_26 =>
       onI ds_26 fun i_5 ds_27 =>
       bif ((s_5 == s_0) && ((s_6 == s_1) && true)) then (bif (decide (i_2 = 0)) then (bif (s_9 == (([83] : List UInt8) ++ s_2)) then (bif (decide (i_5 = 0)) then (Option.bind (F_law12_works []) fun r_12 =>
           onB r_12 fun b_5 ds_28 =>
           some [(.b b_5)]) else
          (some [(.b false)])) else
         (some [(.b false)])) else
        (some [(.b false)])) else
       (some [(.b false)])) else none) else none)) else none) else none))))) else none
noncomputable def F_law12_LinklineNames : List Dat → Option (List Dat) := fun ds_0 =>
  onS ds_0 fun s_0 ds_1 =>
  onS ds_1 fun t_0 ds_2 =>
  bif (decide (2 ≤ ([(Ax.AV.str (Ax.S.sym s_0)), (Ax.AV.str (Ax.S.sym t_0))]).length)) then (Option.bind (F_law12_few [(.n 2), (.l [(Ax.AV.str (Ax.S.sym s_0)), (Ax.AV.str (Ax.S.sym t_0))])]) fun r_0 =>
   onB r_0 fun b_0 ds_3 =>
   bif (!b_0) then (Option.bind (F_law12_works []) fun r_1 =>
    onB r_1 fun b_1 ds_4 =>
    some [(.b b_1)]) else
   (Option.bind (nameZone [(.s s_0)]) fun r_2 =>
    onB r_2 fun b_2 ds_5 =>
    bif b_2 then (Option.bind (nameZone [(.s t_0)]) fun r_3 =>
     onB r_3 fun b_3 ds_6 =>
     bif (decide (2 ≤ ([(Ax.AV.str (Ax.S.sym s_0)), (Ax.AV.str (Ax.S.sym t_0))]).length)) then (Option.bind (F_linkline_Link [(.n 2), (.l [(Ax.AV.str (Ax.S.sym s_0)), (Ax.AV.str (Ax.S.sym t_0))])]) fun r_4 =>
      onS r_4 fun s_1 ds_7 =>
      onS ds_7 fun s_2 ds_8 =>
      onI ds_8 fun i_0 ds_9 =>
      Option.bind (F_linkline_Print [(.s s_0), (.s t_0)]) fun r_5 =>
      onS r_5 fun s_3 ds_10 =>
      onI ds_10 fun i_1 ds_11 =>
      bif (decide (1 ≤ ([(Ax.AV.str (Ax.S.sym s_0))]).length)) then (Option.bind (F_linkline_Shift [(.n 1), (.l [(Ax.AV.str (Ax.S.sym s_0))])]) fun r_6 =>
       onS r_6 fun s_4 ds_12 =>
       onI ds_12 fun i_2 ds_13 =>
       Option.bind (F_linkline_PrintShift [(.s s_0)]) fun r_7 =>
       onS r_7 fun s_5 ds_14 =>
       onI ds_14 fun i_3 ds_15 =>
       bif (decide (i_0 = 0)) then (bif (!(true == b_3)) then (some [(.b false)]) else
        (bif (decide (i_1 = 0)) then (bif (!(true == b_3)) then (some [(.b false)]) else
          (bif (decide (i_2 = 0)) then (Option.bind (F_name_Set [(.s s_0)]) fun r_8 =>
            onB r_8 fun b_4 ds_16 =>
            bif (!(true == b_4)) then (some [(.b false)]) else
            (bif (decide (i_3 = 0)) then (Option.bind (F_name_Set [(.s s_0)]) fun r_9 =>
              onB r_9 fun b_5 ds_17 =>
              bif (!(true == b_5)) then (some [(.b false)]) else
              (Option.bind (bif (!b_3) then (bif ((s_1 == ([] : List UInt8)) && ((s_2 == ([] : List UInt8)) && true)) then (bif (!decide (i_0 = 9)) then (some true) else
                  (bif (!(s_3 == ([] : List UInt8))) then (some true) else
                   (bif (!decide (i_1 = 2)) then (some true) else
                    (some false)))) else
                 (some true)) else
                (some false)) fun b_6 =>
               bif b_6 then (some [(.b false)]) else
               (Option.bind (F_name_Set [(.s s_0)]) fun r_10 =>
                onB r_10 fun b_7 ds_18 =>
                bif (!b_7) then (bif (!(s_4 == ([] : List UInt8))) then (some [(.b false)]) else
                 (bif (!decide (i_2 = 9)) then (some [(.b false)]) else
                  (bif (!(s_5 == ([] : List UInt8))) then (some [(.b false)]) else
                   (bif (!decide (i_3 = 2)) then (some [(.b false)]) else
                    (bif (!b_3) then (Option.bind (F_law12_works []) fun r_11 =>
                      onB r_11 fun b_8 ds_19 =>
                      some [(.b b_8)]) else
                     (bif ((s_1 == s_0) && ((s_2 == t_0) && true)) then (bif (decide (3 ≤ ([(Ax.AV.str (Ax.S.lit ([76, 105, 110, 107] : List UInt8))), (Ax.AV.str (Ax.S.sym s_0)), (Ax.AV.str (Ax.S.sym t_0))]).length)) then (Option.bind (Ax.strJoin [(.n 3), (.l [(Ax.AV.str (Ax.S.lit ([76, 105, 110, 107] : List UInt8))), (Ax.AV.str (Ax.S.sym s_0)), (Ax.AV.str (Ax.S.sym t_0))]), (.s ([32] : List UInt8))]) fun r_12 =>
                        onS r_12 fun s_6 ds_20 =>
                        bif (s_3 == s_6) then (Option.bind (F_law12_works []) fun r_13 =>
                         onB r_13 fun b_9 ds_21 =>
                         some [(.b b_9)]) else
                        (some [(.b false)])) else
                       (none)) else
                      (some [(.b false)]))))))) else
                (bif (!b_3) then (Option.bind (F_law12_works []) fun r_14 =>
                  onB r_14 fun b_10 ds_22 =>
                  some [(.b b_10)]) else
                 (bif ((s_1 == s_0) && ((s_2 == t_0) && true)) then (bif (decide (3 ≤ ([(Ax.AV.str (Ax.S.lit ([76, 105, 110, 107] : List UInt8))), (Ax.AV.str (Ax.S.sym s_0)), (Ax.AV.str (Ax.S.sym t_0))]).length)) then (Option.bind (Ax.strJoin [(.n 3), (.l [(Ax.AV.str (Ax.S.lit ([76, 105, 110, 107] : List UInt8))), (Ax.AV.str (Ax.S.sym s_0)), (Ax.AV.str (Ax.S.sym t_0))]), (.s ([32] : List UInt8))]) fun r_15 =>
                    onS r_15 fun s_7 ds_23 =>
                    bif (s_3 == s_7) then (Option.bind (F_law12_works []) fun r_16 =>
                     onB r_16 fun b_11 ds_24 =>
                     some [(.b b_11)]) else
                    (some [(.b false)])) else
                   (none)) else
                  (some [(.b false)])))))) else
             (Option.bind (F_name_Set [(.s s_0)]) fun r_17 =>
              onB r_17 fun b_12 ds_25 =>
              bif (!(false == b_12)) then (some [(.b false)]) else
              (Option.bind (bif (!b_3) then (bif ((s_1 == ([] : List UInt8)) && ((s_2 == ([] : List UInt8)) && true)) then (bif (!decide (i_0 = 9)) then (some true) else
                  (bif (!(s_3 == ([] : List UInt8))) then (some true) else
                   (bif (!decide (i_1 = 2)) then (some true) else
                    (some false)))) else
                 (some true)) else
                (some false)) fun b_13 =>
               bif b_13 then (some [(.b false)]) else
               (Option.bind (F_name_Set [(.s s_0)]) fun r_18 =>
                onB r_18 fun b_14 ds_26 =>
                bif (!b_14) then (bif (!(s_4 == ([] : List UInt8))) then (some [(.b false)]) else
                 (bif (!decide (i_2 = 9)) then (some [(.b false)]) else
                  (bif (!(s_5 == ([] : List UInt8))) then (some [(.b false)]) else
                   (bif (!decide (i_3 = 2)) then (some [(.b false)]) else
                    (bif (!b_3) then (Option.bind (F_law12_works []) fun r_19 =>
                      onB r_19 fun b_15 ds_27 =>
                      some [(.b b_15)]) else
                     (bif ((s_1 == s_0) && ((s_2 == t_0) && true)) then (bif (decide (3 ≤ ([(Ax.AV.str (Ax.S.lit ([76, 105, 110, 107] : List UInt8))), (Ax.AV.str (Ax.S.sym s_0)), (Ax.AV.str (Ax.S.sym t_0))]).length)) then (Option.bind (Ax.strJoin [(.n 3), (.l [(Ax.AV.str (Ax.S.lit ([76, 105, 110, 107] : List UInt8))), (Ax.AV.str (Ax.S.sym s_0)), (Ax.AV.str (Ax.S.sym t_0))]), (.s ([32] : List UInt8))]) fun r_20 =>
                        onS r_20 fun s_8 ds_28 =>
                        bif (s_3 == s_8) then (Option.bind (F_law12_works []) fun r_21 =>
                         onB r_21 fun b_16 ds_29 =>
                         some [(.b b_16)]) else
                        (some [(.b false)])) else
                       (none)) else
                      (some [(.b false)]))))))) else
                (bif (!b_3) then (Option.bind (F_law12_works []) fun r_22 =>
                  onB r_22 fun b_17 ds_30 =>
                  some [(.b b_17)]) else
                 (bif ((s_1 == s_0) && ((s_2 == t_0) && true)) then (bif (decide (3 ≤ ([(Ax.AV.str (Ax.S.lit ([76, 105, 110, 107] : List UInt8))), (Ax.AV.str (Ax.S.sym s_0)), (Ax.AV.str (Ax.S.sym t_0))]).length)) then (Option.bind (Ax.strJoin [(.n 3), (.l [(Ax.AV.str (Ax.S.lit ([76, 105, 110, 107] : List UInt8))), (Ax.AV.str (Ax.S.sym s_0)), (Ax.AV.str (Ax.S.sym t_0))]), (.s ([32] : List UInt8))]) fun r_23 =>
                    onS r_23 fun s_9 ds_31 =>
                    bif (s_3 == s_9) then (Option.bind (F_law12_works []) fun r_24 =>
                     onB r_24 fun b_18 ds_32 =>
                     some [(.b b_18)]) else
                    (some [(.b false)])) else
                   (none)) else
                  (some [(.b false)])))))))) else
           (Option.bind (F_name_Set [(.s s_0)]) fun r_25 =>
            onB r_25 fun b_19 ds_33 =>
            bif (!(false == b_19)) then (some [(.b false)]) else
            (bif (decide (i_3 = 0)) then (Option.bind (F_name_Set [(.s s_0)]) fun r_26 =>
              onB r_26 fun b_20 ds_34 =>
              bif (!(true == b_20)) then (some [(.b false)]) else
              (Option.bind (bif (!b_3) then (bif ((s_1 == ([] : List UInt8)) && ((s_2 == ([] : List UInt8)) && true)) then (bif (!decide (i_0 = 9)) then (some true) else
                  (bif (!(s_3 == ([] : List UInt8))) then (some true) else
                   (bif (!decide (i_1 = 2)) then (some true) else
                    (some false)))) else
                 (some true)) else
                (some false)) fun b_21 =>
               bif b_21 then (some [(.b false)]) else
               (Option.bind (F_name_Set [(.s s_0)]) fun r_27 =>
                onB r_27 fun b_22 ds_35 =>
                bif (!b_22) then (bif (!(s_4 == ([] : List UInt8))) then (some [(.b false)]) else
                 (bif (!decide (i_2 = 9)) then (some [(.b false)]) else
                  (bif (!(s_5 == ([] : List UInt8))) then (some [(.b false)]) else
                   (bif (!decide (i_3 = 2)) then (some [(.b false)]) else
                    (bif (!b_3) then (Option.bind (F_law12_works []) fun r_28 =>
                      onB r_28 fun b_23 ds_36 =>
                      some [(.b b_23)]) else
                     (bif ((s_1 == s_0) && ((s_2 == t_0) && true)) then (bif (decide (3 ≤ ([(Ax.AV.str (Ax.S.lit ([76, 105, 110, 107] : List UInt8))), (Ax.AV.str (Ax.S.sym s_0)), (Ax.AV.str (Ax.S.sym t_0))]).length)) then (Option.bind (Ax.strJoin [(.n 3), (.l [(Ax.AV.str (Ax.S.lit ([76, 105, 110, 107] : List UInt8))), (Ax.AV.str (Ax.S.sym s_0)), (Ax.AV.str (Ax.S.sym t_0))]), (.s ([32] : List UInt8))]) fun r_29 =>
                        onS r_29 fun s_10 ds_37 =>
                        bif (s_3 == s_10) then (Option.bind (F_law12_works []) fun r_30 =>
                         onB r_30 fun b_24 ds_38 =>
                         some [(.b b_24)]) else
                        (some [(.b false)])) else
                       (none)) else
                      (some [(.b false)]))))))) else
                (bif (!b_3) then (Option.bind (F_law12_works []) fun r_31 =>
                  onB r_31 fun b_25 ds_39 =>
                  some [(.b b_25)]) else
                 (bif ((s_1 == s_0) && ((s_2 == t_0) && true)) then (bif (decide (3 ≤ ([(Ax.AV.str (Ax.S.lit ([76, 105, 110, 107] : List UInt8))), (Ax.AV.str (Ax.S.sym s_0)), (Ax.AV.str (Ax.S.sym t_0))]).length)) then (Option.bind (Ax.strJoin [(.n 3), (.l [(Ax.AV.str (Ax.S.lit ([76, 105, 110, 107] : List UInt8))), (Ax.AV.str (Ax.S.sym s_0)), (Ax.AV.str (Ax.S.sym t_0))]), (.s ([32] : List UInt8))]) fun r_32 =>
                    onS r_32 fun s_11 ds_40 =>
                    bif (s_3 == s_11) then (Option.bind (F_law12_works []) fun r_33 =>
                     onB r_33 fun b_26 ds_41 =>
                     some [(.b b_26)]) else
                    (some [(.b false)])) else
                   (none)) else
                  (some [(.b false)])))))) else
             (Option.bind (F_name_Set [(.s s_0)]) fun r_34 =>
              onB r_34 fun b_27 ds_42 =>
              bif (!(false == b_27)) then (some [(.b false)]) else
              (Option.bind (bif (!b_3) then (bif ((s_1 == ([] : List UInt8)) && ((s_2 == ([] : List UInt8)) && true)) then (bif (!decide (i_0 = 9)) then (some true) else
                  (bif (!(s_3 == ([] : List UInt8))) then (some true) else
                   (bif (!decide (i_1 = 2)) then (some true) else
                    (some false)))) else
                 (some true)) else
                (some false)) fun b_28 =>
               bif b_28 then (some [(.b false)]) else
               (Option.bind (F_name_Set [(.s s_0)]) fun r_35 =>
                onB r_35 fun b_29 ds_43 =>
                bif (!b_29) then (bif (!(s_4 == ([] : List UInt8))) then (some [(.b false)]) else
                 (bif (!decide (i_2 = 9)) then (some [(.b false)]) else
                  (bif (!(s_5 == ([] : List UInt8))) then (some [(.b false)]) else
                   (bif (!decide (i_3 = 2)) then (some [(.b false)]) else
                    (bif (!b_3) then (Option.bind (F_law12_works []) fun r_36 =>
                      onB r_36 fun b_30 ds_44 =>
                      some [(.b b_30)]) else
                     (bif ((s_1 == s_0) && ((s_2 == t_0) && true)) then (bif (decide (3 ≤ ([(Ax.AV.str (Ax.S.lit ([76, 105, 110, 107] : List UInt8))), (Ax.AV.str (Ax.S.sym s_0)), (Ax.AV.str (Ax.S.sym t_0))]).length)) then (Option.bind (Ax.strJoin [(.n 3), (.l [(Ax.AV.str (Ax.S.lit ([76, 105, 110, 107] : List UInt8))), (Ax.AV.str (Ax.S.sym s_0)), (Ax.AV.str (Ax.S.sym t_0))]), (.s ([32] : List UInt8))]) fun r_37 =>
                        onS r_37 fun s_12 ds_45 =>
                        bif (s_3 == s_12) then (Option.bind (F_law12_works []) fun r_38 =>
                         onB r_38 fun b_31 ds_46 =>
                         some [(.b b_31)]) else
                        (some [(.b false)])) else
                       (none)) else
                      (some [(.b false)]))))))) else
                (bif (!b_3) then (Option.bind (F_law12_works []) fun r_39 =>
                  onB r_39 fun b_32 ds_47 =>
                  some [(.b b_32)]) else
                 (bif ((s_1 == s_0) && ((s_2 == t_0) && true)) then (bif (decide (3 ≤ ([(Ax.AV.str (Ax.S.lit ([76, 105, 110, 107] : List UInt8))), (Ax.AV.str (Ax.S.sym s_0)), (Ax.AV.str (Ax.S.sym t_0))]).length)) then (Option.bind (Ax.strJoin [(.n 3), (.l [(Ax.AV.str (Ax.S.lit ([76, 105, 110, 107] : List UInt8))), (Ax.AV.str (Ax.S.sym s_0)), (Ax.AV.str (Ax.S.sym t_0))]), (.s ([32] : List UInt8))]) fun r_40 =>
                    onS r_40 fun s_13 ds_48 =>
                    bif (s_3 == s_13) then (Option.bind (F_law12_works []) fun r_41 =>
                     onB r_41 fun b_33 ds_49 =>
                     some [(.b b_33)]) else
                    (some [(.b false)])) else
                   (none)) else
                  (some [(.b false)])))))))))) else
         (bif (!(false == b_3)) then (some [(.b false)]) else
          (bif (decide (i_2 = 0)) then (Option.bind (F_name_Set [(.s s_0)]) fun r_42 =>
            onB r_42 fun b_34 ds_50 =>
            bif (!(true == b_34)) then (some [(.b false)]) else
            (bif (decide (i_3 = 0)) then (Option.bind (F_name_Set [(.s s_0)]) fun r_43 =>
              onB r_43 fun b_35 ds_51 =>
              bif (!(true == b_35)) then (some [(.b false)]) else
              (Option.bind (bif (!b_3) then (bif ((s_1 == ([] : List UInt8)) && ((s_2 == ([] : List UInt8)) && true)) then (bif (!decide (i_0 = 9)) then (some true) else
                  (bif (!(s_3 == ([] : List UInt8))) then (some true) else
                   (bif (!decide (i_1 = 2)) then (some true) else
                    (some false)))) else
                 (some true)) else
                (some false)) fun b_36 =>
               bif b_36 then (some [(.b false)]) else
               (Option.bind (F_name_Set [(.s s_0)]) fun r_44 =>
                onB r_44 fun b_37 ds_52 =>
                bif (!b_37) then (bif (!(s_4 == ([] : List UInt8))) then (some [(.b false)]) else
                 (bif (!decide (i_2 = 9)) then (some [(.b false)]) else
                  (bif (!(s_5 == ([] : List UInt8))) then (some [(.b false)]) else
                   (bif (!decide (i_3 = 2)) then (some [(.b false)]) else
                    (bif (!b_3) then (Option.bind (F_law12_works []) fun r_45 =>
                      onB r_45 fun b_38 ds_53 =>
                      some [(.b b_38)]) else
                     (bif ((s_1 == s_0) && ((s_2 == t_0) && true)) then (bif (decide (3 ≤ ([(Ax.AV.str (Ax.S.lit ([76, 105, 110, 107] : List UInt8))), (Ax.AV.str (Ax.S.sym s_0)), (Ax.AV.str (Ax.S.sym t_0))]).length)) then (Option.bind (Ax.strJoin [(.n 3), (.l [(Ax.AV.str (Ax.S.lit ([76, 105, 110, 107] : List UInt8))), (Ax.AV.str (Ax.S.sym s_0)), (Ax.AV.str (Ax.S.sym t_0))]), (.s ([32] : List UInt8))]) fun r_46 =>
                        onS r_46 fun s_14 ds_54 =>
                        bif (s_3 == s_14) then (Option.bind (F_law12_works []) fun r_47 =>
                         onB r_47 fun b_39 ds_55 =>
                         some [(.b b_39)]) else
                        (some [(.b false)])) else
                       (none)) else
                      (some [(.b false)]))))))) else
                (bif (!b_3) then (Option.bind (F_law12_works []) fun r_48 =>
                  onB r_48 fun b_40 ds_56 =>
                  some [(.b b_40)]) else
                 (bif ((s_1 == s_0) && ((s_2 == t_0) && true)) then (bif (decide (3 ≤ ([(Ax.AV.str (Ax.S.lit ([76, 105, 110, 107] : List UInt8))), (Ax.AV.str (Ax.S.sym s_0)), (Ax.AV.str (Ax.S.sym t_0))]).length)) then (Option.bind (Ax.strJoin [(.n 3), (.l [(Ax.AV.str (Ax.S.lit ([76, 105, 110, 107] : List UInt8))), (Ax.AV.str (Ax.S.sym s_0)), (Ax.AV.str (Ax.S.sym t_0))]), (.s ([32] : List UInt8))]) fun r_49 =>
                    onS r_49 fun s_15 ds_57 =>
                    bif (s_3 == s_15) then (Option.bind (F_law12_works []) fun r_50 =>
                     onB r_50 fun b_41 ds_58 =>
                     some [(.b b_41)]) else
                    (some [(.b false)])) else
                   (none)) else
                  (some [(.b false)])))))) else
             (Option.bind (F_name_Set [(.s s_0)]) fun r_51 =>
              onB r_51 fun b_42 ds_59 =>
              bif (!(false == b_42)) then (some [(.b false)]) else
              (Option.bind (bif (!b_3) then (bif ((s_1 == ([] : List UInt8)) && ((s_2 == ([] : List UInt8)) && true)) then (bif (!decide (i_0 = 9)) then (some true) else
                  (bif (!(s_3 == ([] : List UInt8))) then (some true) else
                   (bif (!decide (i_1 = 2)) then (some true) else
                    (some false)))) else
                 (some true)) else
                (some false)) fun b_43 =>
               bif b_43 then (some [(.b false)]) else
               (Option.bind (F_name_Set [(.s s_0)]) fun r_52 =>
                onB r_52 fun b_44 ds_60 =>
                bif (!b_44) then (bif (!(s_4 == ([] : List UInt8))) then (some [(.b false)]) else
                 (bif (!decide (i_2 = 9)) then (some [(.b false)]) else
                  (bif (!(s_5 == ([] : List UInt8))) then (some [(.b false)]) else
                   (bif (!decide (i_3 = 2)) then (some [(.b false)]) else
                    (bif (!b_3) then (Option.bind (F_law12_works []) fun r_53 =>
                      onB r_53 fun b_45 ds_61 =>
                      some [(.b b_45)]) else
                     (bif ((s_1 == s_0) && ((s_2 == t_0) && true)) then (bif (decide (3 ≤ ([(Ax.AV.str (Ax.S.lit ([76, 105, 110, 107] : List UInt8))), (Ax.AV.str (Ax.S.sym s_0)), (Ax.AV.str (Ax.S.sym t_0))]).length)) then (Option.bind (Ax.strJoin [(.n 3), (.l [(Ax.AV.str (Ax.S.lit ([76, 105, 110, 107] : List UInt8))), (Ax.AV.str (Ax.S.sym s_0)), (Ax.AV.str (Ax.S.sym t_0))]), (.s ([32] : List UInt8))]) fun r_54 =>
                        onS r_54 fun s_16 ds_62 =>
                        bif (s_3 == s_16) then (Option.bind (F_law12_works []) fun r_55 =>
                         onB r_55 fun b_46 ds_63 =>
                         some [(.b b_46)]) else
                        (some [(.b false)])) else
                       (none)) else
                      (some [(.b false)]))))))) else
                (bif (!b_3) then (Option.bind (F_law12_works []) fun r_56 =>
                  onB r_56 fun b_47 ds_64 =>
                  some [(.b b_47)]) else
                 (bif ((s_1 == s_0) && ((s_2 == t_0) && true)) then (bif (decide (3 ≤ ([(Ax.AV.str (Ax.S.lit ([76, 105, 110, 107] : List UInt8))), (Ax.AV.str (Ax.S.sym s_0)), (Ax.AV.str (Ax.S.sym t_0))]).length)) then (Option.bind (Ax.strJoin [(.n 3), (.l [(Ax.AV.str (Ax.S.lit ([76, 105, 110, 107] : List UInt8))), (Ax.AV.str (Ax.S.sym s_0)), (Ax.AV.str (Ax.S.sym t_0))]), (.s ([32] : List UInt8))]) fun r_57 =>
                    onS r_57 fun s_17 ds_65 =>
                    bif (s_3 == s_17) then (Option.bind (F_law12_works []) fun r_58 =>
                     onB r_58 fun b_48 ds_66 =>
                     some [(.b b_48)]) else
                    (some [(.b false)])) else
                   (none)) else
                  (some [(.b false)])))))))) else
           (Option.bind (F_name_Set [(.s s_0)]) fun r_59 =>
            onB r_59 fun b_49 ds_67 =>
            bif (!(false == b_49)) then (some [(.b false)]) else
            (bif (decide (i_3 = 0)) then (Option.bind (F_name_Set [(.s s_0)]) fun r_60 =>
              onB r_60 fun b_50 ds_68 =>
              bif (!(true == b_50)) then (some [(.b false)]) else
              (Option.bind (bif (!b_3) then (bif ((s_1 == ([] : List UInt8)) && ((s_2 == ([] : List UInt8)) && true)) then (bif (!decide (i_0 = 9)) then (some true) else
                  (bif (!(s_3 == ([] : List UInt8))) then (some true) else
                   (bif (!decide (i_1 = 2)) then (some true) else
                    (some false)))) else
                 (some true)) else
                (some false)) fun b_51 =>
               bif b_51 then (some [(.b false)]) else
               (Option.bind (F_name_Set [(.s s_0)]) fun r_61 =>
                onB r_61 fun b_52 ds_69 =>
                bif (!b_52) then (bif (!(s_4 == ([] : List UInt8))) then (some [(.b false)]) else
                 (bif (!decide (i_2 = 9)) then (some [(.b false)]) else
                  (bif (!(s_5 == ([] : List UInt8))) then (some [(.b false)]) else
                   (bif (!decide (i_3 = 2)) then (some [(.b false)]) else
                    (bif (!b_3) then (Option.bind (F_law12_works []) fun r_62 =>
                      onB r_62 fun b_53 ds_70 =>
                      some [(.b b_53)]) else
                     (bif ((s_1 == s_0) && ((s_2 == t_0) && true)) then (bif (decide (3 ≤ ([(Ax.AV.str (Ax.S.lit ([76, 105, 110, 107] : List UInt8))), (Ax.AV.str (Ax.S.sym s_0)), (Ax.AV.str (Ax.S.sym t_0))]).length)) then (Option.bind (Ax.strJoin [(.n 3), (.l [(Ax.AV.str (Ax.S.lit ([76, 105, 110, 107] : List UInt8))), (Ax.AV.str (Ax.S.sym s_0)), (Ax.AV.str (Ax.S.sym t_0))]), (.s ([32] : List UInt8))]) fun r_63 =>
                        onS r_63 fun s_18 ds_71 =>
                        bif (s_3 == s_18) then (Option.bind (F_law12_works []) fun r_64 =>
                         onB r_64 fun b_54 ds_72 =>
                         some [(.b b_54)]) else
                        (some [(.b false)])) else
                       (none)) else
                      (some [(.b false)]))))))) else
                (bif (!b_3) then (Option.bind (F_law12_works []) fun r_65 =>
                  onB r_65 fun b_55 ds_73 =>
                  some [(.b b_55)]) else
                 (bif ((s_1 == s_0) && ((s_2 == t_0) && true)) then (bif (decide (3 ≤ ([(Ax.AV.str (Ax.S.lit ([76, 105, 110, 107] : List UInt8))), (Ax.AV.str (Ax.S.sym s_0)), (Ax.AV.str (Ax.S.sym t_0))]).length)) then (Option.bind (Ax.strJoin [(.n 3), (.l [(Ax.AV.str (Ax.S.lit ([76, 105, 110, 107] : List UInt8))), (Ax.AV.str (Ax.S.sym s_0)), (Ax.AV.str (Ax.S.sym t_0))]), (.s ([32] : List UInt8))]) fun r_66 =>
                    onS r_66 fun s_19 ds_74 =>
                    bif (s_3 == s_19) then (Option.bind (F_law12_works []) fun r_67 =>
                     onB r_67 fun b_56 ds_75 =>
                     some [(.b b_56)]) else
                    (some [(.b false)])) else
                   (none)) else
                  (some [(.b false)])))))) else
             (Option.bind (F_name_Set [(.s s_0)]) fun r_68 =>
              onB r_68 fun b_57 ds_76 =>
              bif (!(false == b_57)) then (some [(.b false)]) else
              (Option.bind (bif (!b_3) then (bif ((s_1 == ([] : List UInt8)) && ((s_2 == ([] : List UInt8)) && true)) then (bif (!decide (i_0 = 9)) then (some true) else
                  (bif (!(s_3 == ([] : List UInt8))) then (some true) else
                   (bif (!decide (i_1 = 2)) then (some true) else
                    (some false)))) else
                 (some true)) else
                (some false)) fun b_58 =>
               bif b_58 then (some [(.b false)]) else
               (Option.bind (F_name_Set [(.s s_0)]) fun r_69 =>
                onB r_69 fun b_59 ds_77 =>
                bif (!b_59) then (bif (!(s_4 == ([] : List UInt8))) then (some [(.b false)]) else
                 (bif (!decide (i_2 = 9)) then (some [(.b false)]) else
                  (bif (!(s_5 == ([] : List UInt8))) then (some [(.b false)]) else
                   (bif (!decide (i_3 = 2)) then (some [(.b false)]) else
                    (bif (!b_3) then (Option.bind (F_law12_works []) fun r_70 =>
                      onB r_70 fun b_60 ds_78 =>
                      some [(.b b_60)]) else
                     (bif ((s_1 == s_0) && ((s_2 == t_0) && true)) then (bif (decide (3 ≤ ([(Ax.AV.str (Ax.S.lit ([76, 105, 110, 107] : List UInt8))), (Ax.AV.str (Ax.S.sym s_0)), (Ax.AV.str (Ax.S.sym t_0))]).length)) then (Option.bind (Ax.strJoin [(.n 3), (.l [(Ax.AV.str (Ax.S.lit ([76, 105, 110, 107] : List UInt8))), (Ax.AV.str (Ax.S.sym s_0)), (Ax.AV.str (Ax.S.sym t_0))]), (.s ([32] : List UInt8))]) fun r_71 =>
                        onS r_71 fun s_20 ds_79 =>
                        bif (s_3 == s_20) then (Option.bind (F_law12_works []) fun r_72 =>
                         onB r_72 fun b_61 ds_80 =>
                         some [(.b b_61)]) else
                        (some [(.b false)])) else
                       (none)) else
                      (some [(.b false)]))))))) else
                (bif (!b_3) then (Option.bind (F_law12_works []) fun r_73 =>
                  onB r_73 fun b_62 ds_81 =>
                  some [(.b b_62)]) else
                 (bif ((s_1 == s_0) && ((s_2 == t_0) && true)) then (bif (decide (3 ≤ ([(Ax.AV.str (Ax.S.lit ([76, 105, 110, 107] : List UInt8))), (Ax.AV.str (Ax.S.sym s_0)), (Ax.AV.str (Ax.S.sym t_0))]).length)) then (Option.bind (Ax.strJoin [(.n 3), (.l [(Ax.AV.str (Ax.S.lit ([76, 105, 110, 107] : List UInt8))), (Ax.AV.str (Ax.S.sym s_0)), (Ax.AV.str (Ax.S.sym t_0))]), (.s ([32] : List UInt8))]) fun r_74 =>
                    onS r_74 fun s_21 ds_82 =>
                    bif (s_3 == s_21) then (Option.bind (F_law12_works []) fun r_75 =>
                     onB r_75 fun b_63 ds_83 =>
                     some [(.b b_63)]) else
                    (some [(.b false)])) else
                   (none)) else
                  (some [(.b false)])))))))))))) else
       (bif (!(false == b_3)) then (some [(.b false)]) else
        (bif (decide (i_1 = 0)) then (bif (!(true == b_3)) then (some [(.b false)]) else
          (bif (decide (i_2 = 0)) then (Option.bind (F_name_Set [(.s s_0)]) fun r_76 =>
            onB r_76 fun b_64 ds_84 =>
            bif (!(true == b_64)) then (some [(.b false)]) else
            (bif (decide (i_3 = 0)) then (Option.bind (F_name_Set [(.s s_0)]) fun r_77 =>
              onB r_77 fun b_65 ds_85 =>
              bif (!(true == b_65)) then (some [(.b false)]) else
              (Option.bind (bif (!b_3) then (bif ((s_1 == ([] : List UInt8)) && ((s_2 == ([] : List UInt8)) && true)) then (bif (!decide (i_0 = 9)) then (some true) else
                  (bif (!(s_3 == ([] : List UInt8))) then (some true) else
                   (bif (!decide (i_1 = 2)) then (some true) else
                    (some false)))) else
                 (some true)) else
                (some false)) fun b_66 =>
               bif b_66 then (some [(.b false)]) else
               (Option.bind (F_name_Set [(.s s_0)]) fun r_78 =>
                onB r_78 fun b_67 ds_86 =>
                bif (!b_67) then (bif (!(s_4 == ([] : List UInt8))) then (some [(.b false)]) else
                 (bif (!decide (i_2 = 9)) then (some [(.b false)]) else
                  (bif (!(s_5 == ([] : List UInt8))) then (some [(.b false)]) else
                   (bif (!decide (i_3 = 2)) then (some [(.b false)]) else
                    (bif (!b_3) then (Option.bind (F_law12_works []) fun r_79 =>
                      onB r_79 fun b_68 ds_87 =>
                      some [(.b b_68)]) else
                     (bif ((s_1 == s_0) && ((s_2 == t_0) && true)) then (bif (decide (3 ≤ ([(Ax.AV.str (Ax.S.lit ([76, 105, 110, 107] : List UInt8))), (Ax.AV.str (Ax.S.sym s_0)), (Ax.AV.str (Ax.S.sym t_0))]).length)) then (Option.bind (Ax.strJoin [(.n 3), (.l [(Ax.AV.str (Ax.S.lit ([76, 105, 110, 107] : List UInt8))), (Ax.AV.str (Ax.S.sym s_0)), (Ax.AV.str (Ax.S.sym t_0))]), (.s ([32] : List UInt8))]) fun r_80 =>
                        onS r_80 fun s_22 ds_88 =>
                        bif (s_3 == s_22) then (Option.bind (F_law12_works []) fun r_81 =>
                         onB r_81 fun b_69 ds_89 =>
                         some [(.b b_69)]) else
                        (some [(.b false)])) else
                       (none)) else
                      (some [(.b false)]))))))) else
                (bif (!b_3) then (Option.bind (F_law12_works []) fun r_82 =>
                  onB r_82 fun b_70 ds_90 =>
                  some [(.b b_70)]) else
                 (bif ((s_1 == s_0) && ((s_2 == t_0) && true)) then (bif (decide (3 ≤ ([(Ax.AV.str (Ax.S.lit ([76, 105, 110, 107] : List UInt8))), (Ax.AV.str (Ax.S.sym s_0)), (Ax.AV.str (Ax.S.sym t_0))]).length)) then (Option.bind (Ax.strJoin [(.n 3), (.l [(Ax.AV.str (Ax.S.lit ([76, 105, 110, 107] : List UInt8))), (Ax.AV.str (Ax.S.sym s_0)), (Ax.AV.str (Ax.S.sym t_0))]), (.s ([32] : List UInt8))]) fun r_83 =>
                    onS r_83 fun s_23 ds_91 =>
                    bif (s_3 == s_23) then (Option.bind (F_law12_works []) fun r_84 =>
                     onB r_84 fun b_71 ds_92 =>
                     some [(.b b_71)]) else
                    (some [(.b false)])) else
                   (none)) else
                  (some [(.b false)])))))) else
             (Option.bind (F_name_Set [(.s s_0)]) fun r_85 =>
              onB r_85 fun b_72 ds_93 =>
              bif (!(false == b_72)) then (some [(.b false)]) else
              (Option.bind (bif (!b_3) then (bif ((s_1 == ([] : List UInt8)) && ((s_2 == ([] : List UInt8)) && true)) then (bif (!decide (i_0 = 9)) then (some true) else
                  (bif (!(s_3 == ([] : List UInt8))) then (some true) else
                   (bif (!decide (i_1 = 2)) then (some true) else
                    (some false)))) else
                 (some true)) else
                (some false)) fun b_73 =>
               bif b_73 then (some [(.b false)]) else
               (Option.bind (F_name_Set [(.s s_0)]) fun r_86 =>
                onB r_86 fun b_74 ds_94 =>
                bif (!b_74) then (bif (!(s_4 == ([] : List UInt8))) then (some [(.b false)]) else
                 (bif (!decide (i_2 = 9)) then (some [(.b false)]) else
                  (bif (!(s_5 == ([] : List UInt8))) then (some [(.b false)]) else
                   (bif (!decide (i_3 = 2)) then (some [(.b false)]) else
                    (bif (!b_3) then (Option.bind (F_law12_works []) fun r_87 =>
                      onB r_87 fun b_75 ds_95 =>
                      some [(.b b_75)]) else
                     (bif ((s_1 == s_0) && ((s_2 == t_0) && true)) then (bif (decide (3 ≤ ([(Ax.AV.str (Ax.S.lit ([76, 105, 110, 107] : List UInt8))), (Ax.AV.str (Ax.S.sym s_0)), (Ax.AV.str (Ax.S.sym t_0))]).length)) then (Option.bind (Ax.strJoin [(.n 3), (.l [(Ax.AV.str (Ax.S.lit ([76, 105, 110, 107] : List UInt8))), (Ax.AV.str (Ax.S.sym s_0)), (Ax.AV.str (Ax.S.sym t_0))]), (.s ([32] : List UInt8))]) fun r_88 =>
                        onS r_88 fun s_24 ds_96 =>
                        bif (s_3 == s_24) then (Option.bind (F_law12_works []) fun r_89 =>
                         onB r_89 fun b_76 ds_97 =>
                         some [(.b b_76)]) else
                        (some [(.b false)])) else
                       (none)) else
                      (some [(.b false)]))))))) else
                (bif (!b_3) then (Option.bind (F_law12_works []) fun r_90 =>
                  onB r_90 fun b_77 ds_98 =>
                  some [(.b b_77)]) else
                 (bif ((s_1 == s_0) && ((s_2 == t_0) && true)) then (bif (decide (3 ≤ ([(Ax.AV.str (Ax.S.lit ([76, 105, 110, 107] : List UInt8))), (Ax.AV.str (Ax.S.sym s_0)), (Ax.AV.str (Ax.S.sym t_0))]).length)) then (Option.bind (Ax.strJoin [(.n 3), (.l [(Ax.AV.str (Ax.S.lit ([76, 105, 110, 107] : List UInt8))), (Ax.AV.str (Ax.S.sym s_0)), (Ax.AV.str (Ax.S.sym t_0))]), (.s ([32] : List UInt8))]) fun r_91 =>
                    onS r_91 fun s_25 ds_99 =>
                    bif (s_3 == s_25) then (Option.bind (F_law12_works []) fun r_92 =>
                     onB r_92 fun b_78 ds_100 =>
                     some [(.b b_78)]) else
                    (some [(.b false)])) else
                   (none)) else
                  (some [(.b false)])))))))) else
           (Option.bind (F_name_Set [(.s s_0)]) fun r_93 =>
            onB r_93 fun b_79 ds_101 =>
            bif (!(false == b_79)) then (some [(.b false)]) else
            (bif (decide (i_3 = 0)) then (Option.bind (F_name_Set [(.s s_0)]) fun r_94 =>
              onB r_94 fun b_80 ds_102 =>
              bif (!(true == b_80)) then (some [(.b false)]) else
              (Option.bind (bif (!b_3) then (bif ((s_1 == ([] : List UInt8)) && ((s_2 == ([] : List UInt8)) && true)) then (bif (!decide (i_0 = 9)) then (some true) else
                  (bif (!(s_3 == ([] : List UInt8))) then (some true) else
                   (bif (!decide (i_1 = 2)) then (some true) else
                    (some false)))) else
                 (some true)) else
                (some false)) fun b_81 =>
               bif b_81 then (some [(.b false)]) else
               (Option.bind (F_name_Set [(.s s_0)]) fun r_95 =>
                onB r_95 fun b_82 ds_103 =>
                bif (!b_82) then (bif (!(s_4 == ([] : List UInt8))) then (some [(.b false)]) else
                 (bif (!decide (i_2 = 9)) then (some [(.b false)]) else
                  (bif (!(s_5 == ([] : List UInt8))) then (some [(.b false)]) else
                   (bif (!decide (i_3 = 2)) then (some [(.b false)]) else
                    (bif (!b_3) then (Option.bind (F_law12_works []) fun r_96 =>
                      onB r_96 fun b_83 ds_104 =>
                      some [(.b b_83)]) else
                     (bif ((s_1 == s_0) && ((s_2 == t_0) && true)) then (bif (decide (3 ≤ ([(Ax.AV.str (Ax.S.lit ([76, 105, 110, 107] : List UInt8))), (Ax.AV.str (Ax.S.sym s_0)), (Ax.AV.str (Ax.S.sym t_0))]).length)) then (Option.bind (Ax.strJoin [(.n 3), (.l [(Ax.AV.str (Ax.S.lit ([76, 105, 110, 107] : List UInt8))), (Ax.AV.str (Ax.S.sym s_0)), (Ax.AV.str (Ax.S.sym t_0))]), (.s ([32] : List UInt8))]) fun r_97 =>
                        onS r_97 fun s_26 ds_105 =>
                        bif (s_3 == s_26) then (Option.bind (F_law12_works []) fun r_98 =>
                         onB r_98 fun b_84 ds_106 =>
                         some [(.b b_84)]) else
                        (some [(.b false)])) else
                       (none)) else
                      (some [(.b false)]))))))) else
                (bif (!b_3) then (Option.bind (F_law12_works []) fun r_99 =>
                  onB r_99 fun b_85 ds_107 =>
                  some [(.b b_85)]) else
                 (bif ((s_1 == s_0) && ((s_2 == t_0) && true)) then (bif (decide (3 ≤ ([(Ax.AV.str (Ax.S.lit ([76, 105, 110, 107] : List UInt8))), (Ax.AV.str (Ax.S.sym s_0)), (Ax.AV.str (Ax.S.sym t_0))]).length)) then (Option.bind (Ax.strJoin [(.n 3), (.l [(Ax.AV.str (Ax.S.lit ([76, 105, 110, 107] : List UInt8))), (Ax.AV.str (Ax.S.sym s_0)), (Ax.AV.str (Ax.S.sym t_0))]), (.s ([32] : List UInt8))]) fun r_100 =>
                    onS r_100 fun s_27 ds_108 =>
                    bif (s_3 == s_27) then (Option.bind (F_law12_works []) fun r_101 =>
                     onB r_101 fun b_86 ds_109 =>
                     some [(.b b_86)]) else
                    (some [(.b false)])) else
                   (none)) else
                  (some [(.b false)])))))) else
             (Option.bind (F_name_Set [(.s s_0)]) fun r_102 =>
              onB r_102 fun b_87 ds_110 =>
              bif (!(false == b_87)) then (some [(.b false)]) else
              (Option.bind (bif (!b_3) then (bif ((s_1 == ([] : List UInt8)) && ((s_2 == ([] : List UInt8)) && true)) then (bif (!decide (i_0 = 9)) then (some true) else
                  (bif (!(s_3 == ([] : List UInt8))) then (some true) else
                   (bif (!decide (i_1 = 2)) then (some true) else
                    (some false)))) else
                 (some true)) else
                (some false)) fun b_88 =>
               bif b_88 then (some [(.b false)]) else
               (Option.bind (F_name_Set [(.s s_0)]) fun r_103 =>
                onB r_103 fun b_89 ds_111 =>
                bif (!b_89) then (bif (!(s_4 == ([] : List UInt8))) then (some [(.b false)]) else
                 (bif (!decide (i_2 = 9)) then (some [(.b false)]) else
                  (bif (!(s_5 == ([] : List UInt8))) then (some [(.b false)]) else
                   (bif (!decide (i_3 = 2)) then (some [(.b false)]) else
                    (bif (!b_3) then (Option.bind (F_law12_works []) fun r_104 =>
                      onB r_104 fun b_90 ds_112 =>
                      some [(.b b_90)]) else
                     (bif ((s_1 == s_0) && ((s_2 == t_0) && true)) then (bif (decide (3 ≤ ([(Ax.AV.str (Ax.S.lit ([76, 105, 110, 107] : List UInt8))), (Ax.AV.str (Ax.S.sym s_0)), (Ax.AV.str (Ax.S.sym t_0))]).length)) then (Option.bind (Ax.strJoin [(.n 3), (.l [(Ax.AV.str (Ax.S.lit ([76, 105, 110, 107] : List UInt8))), (Ax.AV.str (Ax.S.sym s_0)), (Ax.AV.str (Ax.S.sym t_0))]), (.s ([32] : List UInt8))]) fun r_105 =>
                        onS r_105 fun s_28 ds_113 =>
                        bif (s_3 == s_28) then (Option.bind (F_law12_works []) fun r_106 =>
                         onB r_106 fun b_91 ds_114 =>
                         some [(.b b_91)]) else
                        (some [(.b false)])) else
                       (none)) else
                      (some [(.b false)]))))))) else
                (bif (!b_3) then (Option.bind (F_law12_works []) fun r_107 =>
                  onB r_107 fun b_92 ds_115 =>
                  some [(.b b_92)]) else
                 (bif ((s_1 == s_0) && ((s_2 == t_0) && true)) then (bif (decide (3 ≤ ([(Ax.AV.str (Ax.S.lit ([76, 105, 110, 107] : List UInt8))), (Ax.AV.str (Ax.S.sym s_0)), (Ax.AV.str (Ax.S.sym t_0))]).length)) then (Option.bind (Ax.strJoin [(.n 3), (.l [(Ax.AV.str (Ax.S.lit ([76, 105, 110, 107] : List UInt8))), (Ax.AV.str (Ax.S.sym s_0)), (Ax.AV.str (Ax.S.sym t_0))]), (.s ([32] : List UInt8))]) fun r_108 =>
                    onS r_108 fun s_29 ds_116 =>
                    bif (s_3 == s_29) then (Option.bind (F_law12_works []) fun r_109 =>
                     onB r_109 fun b_93 ds_117 =>
                     some [(.b b_93)]) else
                    (some [(.b false)])) else
                   (none)) else
                  (some [(.b false)])))))))))) else
         (bif (!(false == b_3)) then (some [(.b false)]) else
          (bif (decide (i_2 = 0)) then (Option.bind (F_name_Set [(.s s_0)]) fun r_110 =>
            onB r_110 fun b_94 ds_118 =>
            bif (!(true == b_94)) then (some [(.b false)]) else
            (bif (decide (i_3 = 0)) then (Option.bind (F_name_Set [(.s s_0)]) fun r_111 =>
              onB r_111 fun b_95 ds_119 =>
              bif (!(true == b_95)) then (some [(.b false)]) else
              (Option.bind (bif (!b_3) then (bif ((s_1 == ([] : List UInt8)) && ((s_2 == ([] : List UInt8)) && true)) then (bif (!decide (i_0 = 9)) then (some true) else
                  (bif (!(s_3 == ([] : List UInt8))) then (some true) else
                   (bif (!decide (i_1 = 2)) then (some true) else
                    (some false)))) else
                 (some true)) else
                (some false)) fun b_96 =>
               bif b_96 then (some [(.b false)]) else
               (Option.bind (F_name_Set [(.s s_0)]) fun r_112 =>
                onB r_112 fun b_97 ds_120 =>
                bif (!b_97) then (bif (!(s_4 == ([] : List UInt8))) then (some [(.b false)]) else
                 (bif (!decide (i_2 = 9)) then (some [(.b false)]) else
                  (bif (!(s_5 == ([] : List UInt8))) then (some [(.b false)]) else
                   (bif (!decide (i_3 = 2)) then (some [(.b false)]) else
                    (bif (!b_3) then (Option.bind (F_law12_works []) fun r_113 =>
                      onB r_113 fun b_98 ds_121 =>
                      some [(.b b_98)]) else
                     (bif ((s_1 == s_0) && ((s_2 == t_0) && true)) then (bif (decide (3 ≤ ([(Ax.AV.str (Ax.S.lit ([76, 105, 110, 107] : List UInt8))), (Ax.AV.str (Ax.S.sym s_0)), (Ax.AV.str (Ax.S.sym t_0))]).length)) then (Option.bind (Ax.strJoin [(.n 3), (.l [(Ax.AV.str (Ax.S.lit ([76, 105, 110, 107] : List UInt8))), (Ax.AV.str (Ax.S.sym s_0)), (Ax.AV.str (Ax.S.sym t_0))]), (.s ([32] : List UInt8))]) fun r_114 =>
                        onS r_114 fun s_30 ds_122 =>
                        bif (s_3 == s_30) then (Option.bind (F_law12_works []) fun r_115 =>
                         onB r_115 fun b_99 ds_123 =>
                         some [(.b b_99)]) else
                        (some [(.b false)])) else
                       (none)) else
                      (some [(.b false)]))))))) else
                (bif (!b_3) then (Option.bind (F_law12_works []) fun r_116 =>
                  onB r_116 fun b_100 ds_124 =>
                  some [(.b b_100)]) else
                 (bif ((s_1 == s_0) && ((s_2 == t_0) && true)) then (bif (decide (3 ≤ ([(Ax.AV.str (Ax.S.lit ([76, 105, 110, 107] : List UInt8))), (Ax.AV.str (Ax.S.sym s_0)), (Ax.AV.str (Ax.S.sym t_0))]).length)) then (Option.bind (Ax.strJoin [(.n 3), (.l [(Ax.AV.str (Ax.S.lit ([76, 105, 110, 107] : List UInt8))), (Ax.AV.str (Ax.S.sym s_0)), (Ax.AV.str (Ax.S.sym t_0))]), (.s ([32] : List UInt8))]) fun r_117 =>
                    onS r_117 fun s_31 ds_125 =>
                    bif (s_3 == s_31) then (Option.bind (F_law12_works []) fun r_118 =>
                     onB r_118 fun b_101 ds_126 =>
                     some [(.b b_101)]) else
                    (some [(.b false)])) else
                   (none)) else
                  (some [(.b false)])))))) else
             (Option.bind (F_name_Set [(.s s_0)]) fun r_119 =>
              onB r_119 fun b_102 ds_127 =>
              bif (!(false == b_102)) then (some [(.b false)]) else
              (Option.bind (bif (!b_3) then (bif ((s_1 == ([] : List UInt8)) && ((s_2 == ([] : List UInt8)) && true)) then (bif (!decide (i_0 = 9)) then (some true) else
                  (bif (!(s_3 == ([] : List UInt8))) then (some true) else
                   (bif (!decide (i_1 = 2)) then (some true) else
                    (some false)))) else
                 (some true)) else
                (some false)) fun b_103 =>
               bif b_103 then (some [(.b false)]) else
               (Option.bind (F_name_Set [(.s s_0)]) fun r_120 =>
                onB r_120 fun b_104 ds_128 =>
                bif (!b_104) then (bif (!(s_4 == ([] : List UInt8))) then (some [(.b false)]) else
                 (bif (!decide (i_2 = 9)) then (some [(.b false)]) else
                  (bif (!(s_5 == ([] : List UInt8))) then (some [(.b false)]) else
                   (bif (!decide (i_3 = 2)) then (some [(.b false)]) else
                    (bif (!b_3) then (Option.bind (F_law12_works []) fun r_121 =>
                      onB r_121 fun b_105 ds_129 =>
                      some [(.b b_105)]) else
                     (bif ((s_1 == s_0) && ((s_2 == t_0) && true)) then (bif (decide (3 ≤ ([(Ax.AV.str (Ax.S.lit ([76, 105, 110, 107] : List UInt8))), (Ax.AV.str (Ax.S.sym s_0)), (Ax.AV.str (Ax.S.sym t_0))]).length)) then (Option.bind (Ax.strJoin [(.n 3), (.l [(Ax.AV.str (Ax.S.lit ([76, 105, 110, 107] : List UInt8))), (Ax.AV.str (Ax.S.sym s_0)), (Ax.AV.str (Ax.S.sym t_0))]), (.s ([32] : List UInt8))]) fun r_122 =>
                        onS r_122 fun s_32 ds_130 =>
                        bif (s_3 == s_32) then (Option.bind (F_law12_works []) fun r_123 =>
                         onB r_123 fun b_106 ds_131 =>
                         some [(.b b_106)]) else
                        (some [(.b false)])) else
                       (none)) else
                      (some [(.b false)]))))))) else
                (bif (!b_3) then (Option.bind (F_law12_works []) fun r_124 =>
                  onB r_124 fun b_107 ds_132 =>
                  some [(.b b_107)]) else
                 (bif ((s_1 == s_0) && ((s_2 == t_0) && true)) then (bif (decide (3 ≤ ([(Ax.AV.str (Ax.S.lit ([76, 105, 110, 107] : List UInt8))), (Ax.AV.str (Ax.S.sym s_0)), (Ax.AV.str (Ax.S.sym t_0))]).length)) then (Option.bind (Ax.strJoin [(.n 3), (.l [(Ax.AV.str (Ax.S.lit ([76, 105, 110, 107] : List UInt8))), (Ax.AV.str (Ax.S.sym s_0)), (Ax.AV.str (Ax.S.sym t_0))]), (.s ([32] : List UInt8))]) fun r_125 =>
                    onS r_125 fun s_33 ds_133 =>
                    bif (s_3 == s_33) then (Option.bind (F_law12_works []) fun r_126 =>
                     onB r_126 fun b_108 ds_134 =>
                     some [(.b b_108)]) else
                    (some [(.b false)])) else
                   (none)) else
                  (some [(.b false)])))))))) else
           (Option.bind (F_name_Set [(.s s_0)]) fun r_127 =>
            onB r_127 fun b_109 ds_135 =>
            bif (!(false == b_109)) then (some [(.b false)]) else
            (bif (decide (i_3 = 0)) then (Option.bind (F_name_Set [(.s s_0)]) fun r_128 =>
              onB r_128 fun b_110 ds_136 =>
              bif (!(true == b_110)) then (some [(.b false)]) else
              (Option.bind (bif (!b_3) then (bif ((s_1 == ([] : List UInt8)) && ((s_2 == ([] : List UInt8)) && true)) then (bif (!decide (i_0 = 9)) then (some true) else
                  (bif (!(s_3 == ([] : List UInt8))) then (some true) else
                   (bif (!decide (i_1 = 2)) then (some true) else
                    (some false)))) else
                 (some true)) else
                (some false)) fun b_111 =>
               bif b_111 then (some [(.b false)]) else
               (Option.bind (F_name_Set [(.s s_0)]) fun r_129 =>
                onB r_129 fun b_112 ds_137 =>
                bif (!b_112) then (bif (!(s_4 == ([] : List UInt8))) then (some [(.b false)]) else
                 (bif (!decide (i_2 = 9)) then (some [(.b false)]) else
                  (bif (!(s_5 == ([] : List UInt8))) then (some [(.b false)]) else
                   (bif (!decide (i_3 = 2)) then (some [(.b false)]) else
                    (bif (!b_3) then (Option.bind (F_law12_works []) fun r_130 =>
                      onB r_130 fun b_113 ds_138 =>
                      some [(.b b_113)]) else
                     (bif ((s_1 == s_0) && ((s_2 == t_0) && true)) then (bif (decide (3 ≤ ([(Ax.AV.str (Ax.S.lit ([76, 105, 110, 107] : List UInt8))), (Ax.AV.str (Ax.S.sym s_0)), (Ax.AV.str (Ax.S.sym t_0))]).length)) then (Option.bind (Ax.strJoin [(.n 3), (.l [(Ax.AV.str (Ax.S.lit ([76, 105, 110, 107] : List UInt8))), (Ax.AV.str (Ax.S.sym s_0)), (Ax.AV.str (Ax.S.sym t_0))]), (.s ([32] : List UInt8))]) fun r_131 =>
                        onS r_131 fun s_34 ds_139 =>
                        bif (s_3 == s_34) then (Option.bind (F_law12_works []) fun r_132 =>
                         onB r_132 fun b_114 ds_140 =>
                         some [(.b b_114)]) else
                        (some [(.b false)])) else
                       (none)) else
                      (some [(.b false)]))))))) else
                (bif (!b_3) then (Option.bind (F_law12_works []) fun r_133 =>
                  onB r_133 fun b_115 ds_141 =>
                  some [(.b b_115)]) else
                 (bif ((s_1 == s_0) && ((s_2 == t_0) && true)) then (bif (decide (3 ≤ ([(Ax.AV.str (Ax.S.lit ([76, 105, 110, 107] : List UInt8))), (Ax.AV.str (Ax.S.sym s_0)), (Ax.AV.str (Ax.S.sym t_0))]).length)) then (Option.bind (Ax.strJoin [(.n 3), (.l [(Ax.AV.str (Ax.S.lit ([76, 105, 110, 107] : List UInt8))), (Ax.AV.str (Ax.S.sym s_0)), (Ax.AV.str (Ax.S.sym t_0))]), (.s ([32] : List UInt8))]) fun r_134 =>
                    onS r_134 fun s_35 ds_142 =>
                    bif (s_3 == s_35) then (Option.bind (F_law12_works []) fun r_135 =>
                     onB r_135 fun b_116 ds_143 =>
                     some [(.b b_116)]) else
                    (some [(.b false)])) else
                   (none)) else
                  (some [(.b false)])))))) else
             (Option.bind (F_name_Set [(.s s_0)]) fun r_136 =>
              onB r_136 fun b_117 ds_144 =>
              bif (!(false == b_117)) then (some [(.b false)]) else
              (Option.bind (bif (!b_3) then (bif ((s_1 == ([] : List UInt8)) && ((s_2 == ([] : List UInt8)) && true)) then (bif (!decide (i_0 = 9)) then (some true) else
                  (bif (!(s_3 == ([] : List UInt8))) then (some true) else
                   (bif (!decide (i_1 = 2)) then (some true) else
                    (some false)))) else
                 (some true)) else
                (some false)) fun b_118 =>
               bif b_118 then (some [(.b false)]) else
               (Option.bind (F_name_Set [(.s s_0)]) fun r_137 =>
                onB r_137 fun b_119 ds_145 =>
                bif (!b_119) then (bif (!(s_4 == ([] : List UInt8))) then (some [(.b false)]) else
                 (bif (!decide (i_2 = 9)) then (some [(.b false)]) else
                  (bif (!(s_5 == ([] : List UInt8))) then (some [(.b false)]) else
                   (bif (!decide (i_3 = 2)) then (some [(.b false)]) else
                    (bif (!b_3) then (Option.bind (F_law12_works []) fun r_138 =>
                      onB r_138 fun b_120 ds_146 =>
                      some [(.b b_120)]) else
                     (bif ((s_1 == s_0) && ((s_2 == t_0) && true)) then (bif (decide (3 ≤ ([(Ax.AV.str (Ax.S.lit ([76, 105, 110, 107] : List UInt8))), (Ax.AV.str (Ax.S.sym s_0)), (Ax.AV.str (Ax.S.sym t_0))]).length)) then (Option.bind (Ax.strJoin [(.n 3), (.l [(Ax.AV.str (Ax.S.lit ([76, 105, 110, 107] : List UInt8))), (Ax.AV.str (Ax.S.sym s_0)), (Ax.AV.str (Ax.S.sym t_0))]), (.s ([32] : List UInt8))]) fun r_139 =>
                        onS r_139 fun s_36 ds_147 =>
                        bif (s_3 == s_36) then (Option.bind (F_law12_works []) fun r_140 =>
                         onB r_140 fun b_121 ds_148 =>
                         some [(.b b_121)]) else
                        (some [(.b false)])) else
                       (none)) else
                      (some [(.b false)]))))))) else
                (bif (!b_3) then (Option.bind (F_law12_works []) fun r_141 =>
                  onB r_141 fun b_122 ds_149 =>
                  some [(.b b_122)]) else
                 (bif ((s_1 == s_0) && ((s_2 == t_0) && true)) then (bif (decide (3 ≤ ([(Ax.AV.str (Ax.S.lit ([76, 105, 110, 107] : List UInt8))), (Ax.AV.str (Ax.S.sym s_0)), (Ax.AV.str (Ax.S.sym t_0))]).length)) then (Option.bind (Ax.strJoin [(.n 3), (.l [(Ax.AV.str (Ax.S.lit ([76, 105, 110, 107] : List UInt8))), (Ax.AV.str (Ax.S.sym s_0)), (Ax.AV.str (Ax.S.sym t_0))]), (.s ([32] : List UInt8))]) fun r_142 =>
                    onS r_142 fun s_37 ds_150 =>
                    bif (s_3 == s_37) then (Option.bind (F_law12_works []) fun r_143 =>
                     onB r_143 fun b_123 ds_151 =>
                     some [(.b b_123)]) else
                    (some [(.b false)])) else
                   (none)) else
                  (some [(.b false)]))))))))))))) else
      (none)) else
     (none)) else
    (bif (decide (2 ≤ ([(Ax.AV.str (Ax.S.sym s_0)), (Ax.AV.str (Ax.S.sym t_0))]).length)) then (Option.bind (F_linkline_Link [(.n 2), (.l [(Ax.AV.str (Ax.S.sym s_0)), (Ax.AV.str (Ax.S.sym t_0))])]) fun r_144 =>
      onS r_144 fun s_38 ds_152 =>
      onS ds_152 fun s_39 ds_153 =>
      onI ds_153 fun i_4 ds_154 =>
      Option.bind (F_linkline_Print [(.s s_0), (.s t_0)]) fun r_145 =>
      onS r_145 fun s_40 ds_155 =>
      onI ds_155 fun i_5 ds_156 =>
      bif (decide (1 ≤ ([(Ax.AV.str (Ax.S.sym s_0))]).length)) then (Option.bind (F_linkline_Shift [(.n 1), (.l [(Ax.AV.str (Ax.S.sym s_0))])]) fun r_146 =>
       onS r_146 fun s_41 ds_157 =>
       onI ds_157 fun i_6 ds_158 =>
       Option.bind (F_linkline_PrintShift [(.s s_0)]) fun r_147 =>
       onS r_147 fun s_42 ds_159 =>
       onI ds_159 fun i_7 ds_160 =>
       bif (decide (i_4 = 0)) then (some [(.b false)]) else
       (bif (decide (i_5 = 0)) then (some [(.b false)]) else
        (bif (decide (i_6 = 0)) then (Option.bind (F_name_Set [(.s s_0)]) fun r_148 =>
          onB r_148 fun b_124 ds_161 =>
          bif (!(true == b_124)) then (some [(.b false)]) else
          (bif (decide (i_7 = 0)) then (Option.bind (F_name_Set [(.s s_0)]) fun r_149 =>
            onB r_149 fun b_125 ds_162 =>
            bif (!(true == b_125)) then (some [(.b false)]) else
            (Option.bind (bif ((s_38 == ([] : List UInt8)) && ((s_39 == ([] : List UInt8)) && true)) then (bif (!decide (i_4 = 9)) then (some true) else
               (bif (!(s_40 == ([] : List UInt8))) then (some true) else
                (bif (!decide (i_5 = 2)) then (some true) else
                 (some false)))) else
              (some true)) fun b_126 =>
             bif b_126 then (some [(.b false)]) else
             (Option.bind (F_name_Set [(.s s_0)]) fun r_150 =>
              onB r_150 fun b_127 ds_163 =>
              bif (!b_127) then (bif (!(s_41 == ([] : List UInt8))) then (some [(.b false)]) else
               (bif (!decide (i_6 = 9)) then (some [(.b false)]) else
                (bif (!(s_42 == ([] : List UInt8))) then (some [(.b false)]) else
                 (bif (!decide (i_7 = 2)) then (some [(.b false)]) else
                  (Option.bind (F_law12_works []) fun r_151 =>
                   onB r_151 fun b_128 ds_164 =>
                   some [(.b b_128)]))))) else
              (Option.bind (F_law12_works []) fun r_152 =>
               onB r_152 fun b_129 ds_165 =>
               some [(.b b_129)])))) else
           (Option.bind (F_name_Set [(.s s_0)]) fun r_153 =>
            onB r_153 fun b_130 ds_166 =>
            bif (!(false == b_130)) then (some [(.b false)]) else
            (Option.bind (bif ((s_38 == ([] : List UInt8)) && ((s_39 == ([] : List UInt8)) && true)) then (bif (!decide (i_4 = 9)) then (some true) else
               (bif (!(s_40 == ([] : List UInt8))) then (some true) else
                (bif (!decide (i_5 = 2)) then (some true) else
                 (some false)))) else
              (some true)) fun b_131 =>
             bif b_131 then (some [(.b false)]) else
             (Option.bind (F_name_Set [(.s s_0)]) fun r_154 =>
              onB r_154 fun b_132 ds_167 =>
              bif (!b_132) then (bif (!(s_41 == ([] : List UInt8))) then (some [(.b false)]) else
               (bif (!decide (i_6 = 9)) then (some [(.b false)]) else
                (bif (!(s_42 == ([] : List UInt8))) then (some [(.b false)]) else
                 (bif (!decide (i_7 = 2)) then (some [(.b false)]) else
                  (Option.bind (F_law12_works []) fun r_155 =>
                   onB r_155 fun b_133 ds_168 =>
                   some [(.b b_133)]))))) else
              (Option.bind (F_law12_works []) fun r_156 =>
               onB r_156 fun b_134 ds_169 =>
               some [(.b b_134)])))))) else
         (Option.bind (F_name_Set [(.s s_0)]) fun r_157 =>
          onB r_157 fun b_135 ds_170 =>
          bif (!(false == b_135)) then (some [(.b false)]) else
          (bif (decide (i_7 = 0)) then (Option.bind (F_name_Set [(.s s_0)]) fun r_158 =>
            onB r_158 fun b_136 ds_171 =>
            bif (!(true == b_136)) then (some [(.b false)]) else
            (Option.bind (bif ((s_38 == ([] : List UInt8)) && ((s_39 == ([] : List UInt8)) && true)) then (bif (!decide (i_4 = 9)) then (some true) else
               (bif (!(s_40 == ([] : List UInt8))) then (some true) else
                (bif (!decide (i_5 = 2)) then (some true) else
                 (some false)))) else
              (some true)) fun b_137 =>
             bif b_137 then (some [(.b false)]) else
             (Option.bind (F_name_Set [(.s s_0)]) fun r_159 =>
              onB r_159 fun b_138 ds_172 =>
              bif (!b_138) then (bif (!(s_41 == ([] : List UInt8))) then (some [(.b false)]) else
               (bif (!decide (i_6 = 9)) then (some [(.b false)]) else
                (bif (!(s_42 == ([] : List UInt8))) then (some [(.b false)]) else
                 (bif (!decide (i_7 = 2)) then (some [(.b false)]) else
                  (Option.bind (F_law12_works []) fun r_160 =>
                   onB r_160 fun b_139 ds_173 =>
                   some [(.b b_139)]))))) else
              (Option.bind (F_law12_works []) fun r_161 =>
               onB r_161 fun b_140 ds_174 =>
               some [(.b b_140)])))) else
           (Option.bind (F_name_Set [(.s s_0)]) fun r_162 =>
            onB r_162 fun b_141 ds_175 =>
            bif (!(false == b_141)) then (some [(.b false)]) else
            (Option.bind (bif ((s_38 == ([] : List UInt8)) && ((s_39 == ([] : List UInt8)) && true)) then (bif (!decide (i_4 = 9)) then (some true) else
               (bif (!(s_40 == ([] : List UInt8))) then (some true) else
                (bif (!decide (i_5 = 2)) then (some true) else
                 (some false)))) else
              (some true)) fun b_142 =>
             bif b_142 then (some [(.b false)]) else
             (Option.bind (F_name_Set [(.s s_0)]) fun r_163 =>
              onB r_163 fun b_143 ds_176 =>
              bif (!b_143) then (bif (!(s_41 == ([] : List UInt8))) then (some [(.b false)]) else
               (bif (!decide (i_6 = 9)) then (some [(.b false)]) else
                (bif (!(s_42 == ([] : List UInt8))) then (some [(.b false)]) else
                 (bif (!decide (i_7 = 2)) then (some [(.b false)]) else
                  (Option.bind (F_law12_works []) fun r_164 =>
                   onB r_164 fun b_144 ds_177 =>
                   some [(.b b_144)]))))) else
              (Option.bind (F_law12_works []) fun r_165 =>
               onB r_165 fun b_145 ds_178 =>
               some [(.b b_145)]))))))))) else
      (none)) else
     (none)))) else
  (none)
noncomputable def F_law12_LinklineNumbers : List Dat → Option (List Dat) := fun ds_0 =>
  onN ds_0 fun ln_0 ds_1 =>
  onL ds_1 fun ll_0 ds_2 =>
  Option.bind (F_law12_few [(.n ln_0), (.l ll_0)]) fun r_0 =>
  onB r_0 fun b_0 ds_3 =>
  bif (!b_0) then (Option.bind (F_law12_works []) fun r_1 =>
   onB r_1 fun b_1 ds_4 =>
   some [(.b b_1)]) else
  (Option.bind (F_linkline_Link [(.n ln_0), (.l ll_0)]) fun r_2 =>
   onS r_2 fun s_0 ds_5 =>
   onS ds_5 fun s_1 ds_6 =>
   onI ds_6 fun i_0 ds_7 =>
   Option.bind (F_linkline_Shift [(.n ln_0), (.l ll_0)]) fun r_3 =>
   onS r_3 fun s_2 ds_8 =>
   onI ds_8 fun i_1 ds_9 =>
   Option.bind (bif (decide (i_0 = 5)) then (bif (!decide (((ln_0 : Nat) : Int) = 2)) then (bif (decide (i_1 = 5)) then (bif (!decide (((ln_0 : Nat) : Int) = 1)) then (some false) else
       (some true)) else
      (bif (!decide (((ln_0 : Nat) : Int) = 1)) then (some true) else
       (some false))) else
     (some true)) else
    (bif (!decide (((ln_0 : Nat) : Int) = 2)) then (some true) else
     (bif (decide (i_1 = 5)) then (bif (!decide (((ln_0 : Nat) : Int) = 1)) then (some false) else
       (some true)) else
      (bif (!decide (((ln_0 : Nat) : Int) = 1)) then (some true) else
       (some false))))) fun b_2 =>
   bif b_2 then (some [(.b false)]) else
   (bif (decide (i_0 = 0)) then (bif (decide (i_1 = 0)) then (Option.bind (F_law12_works []) fun r_4 =>
      onB r_4 fun b_3 ds_10 =>
      some [(.b b_3)]) else
     (bif (s_2 == ([] : List UInt8)) then (Option.bind (F_law12_works []) fun r_5 =>
       onB r_5 fun b_4 ds_11 =>
       some [(.b b_4)]) else
      (some [(.b false)]))) else
    (bif ((s_0 == ([] : List UInt8)) && ((s_1 == ([] : List UInt8)) && true)) then (bif (decide (i_1 = 0)) then (Option.bind (F_law12_works []) fun r_6 =>
       onB r_6 fun b_5 ds_12 =>
       some [(.b b_5)]) else
      (bif (s_2 == ([] : List UInt8)) then (Option.bind (F_law12_works []) fun r_7 =>
        onB r_7 fun b_6 ds_13 =>
        some [(.b b_6)]) else
       (some [(.b false)]))) else
     (some [(.b false)]))))
end Go.Proofs.YtgmmcmfnniaekaaDoor
