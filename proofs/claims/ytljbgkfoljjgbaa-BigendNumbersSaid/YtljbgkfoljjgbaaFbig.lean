/-
  The functions of plain data that the laws of this group reach, as the program has them.
-/
import Derived.Test.YtljbgkfoljjgbaaAx33
namespace Go.Proofs.Ytljbgkfoljjgbaa
open Go.Ax
set_option linter.all false
set_option maxRecDepth 100000
noncomputable def F_bigend_isSize : List Dat → Option (List Dat) := fun ds_0 =>
  onI ds_0 fun size_0 ds_1 =>
  bif (decide (size_0 = 1)) then (some [(.b true)]) else
  (bif (decide (size_0 = 4)) then (some [(.b true)]) else
   (Option.bind (bif (decide (size_0 = 8)) then (some true) else
     (some false)) fun b_0 =>
    bif b_0 then (some [(.b true)]) else
    (some [(.b false)])))
noncomputable def F_bigend_Put_L0 : List Dat → Option (List Dat ⊕ List Dat) := fun ds_6 =>
  onI ds_6 fun size_1 ds_7 =>
  onI ds_7 fun x_1 ds_8 =>
  onN ds_8 fun outn_0 ds_9 =>
  onN ds_9 fun outc_0 ds_10 =>
  onI ds_10 fun v_0 ds_11 =>
  onI ds_11 fun v_1 ds_12 =>
  onL ds_12 fun cells_0 ds_13 =>
  bif (decide (v_1 < v_0)) then (bif (decide (0 ≤ (i64 (8 * (i64 ((i64 (size_1 - 1)) - v_1)))))) then (bif (decide ((outn_0 + 1) ≤ outc_0)) then (bif (decide ((outn_0 + 1) ≤ (cells_0).length)) then (bif (decide (([(Ax.AV.int .u8 (Ax.I.sym (u8 (arith .shr .i64 x_1 (i64 (8 * (i64 ((i64 (size_1 - 1)) - v_1))))))))]).length = 1)) then (bif (List.all (Ax.write cells_0 outn_0 [(Ax.AV.int .u8 (Ax.I.sym (u8 (arith .shr .i64 x_1 (i64 (8 * (i64 ((i64 (size_1 - 1)) - v_1))))))))]) (Ax.closedN 20)) then (some (.inl [(.i size_1), (.i x_1), (.n (outn_0 + 1)), (.n outc_0), (.i v_0), (.i (i64 (v_1 + 1))), (.l (Ax.write cells_0 outn_0 [(Ax.AV.int .u8 (Ax.I.sym (u8 (arith .shr .i64 x_1 (i64 (8 * (i64 ((i64 (size_1 - 1)) - v_1))))))))]))])) else
    (none)) else none) else none) else
   (bif (decide (((outn_0 + 1) * 1) ≤ 140737488355328)) then (bif (decide ((0 + outn_0) ≤ (cells_0).length)) then (none) else none) else none)) else none) else
  (Option.map .inr (bif (decide ((0 + (outn_0 * 1)) ≤ (cells_0).length)) then (bif (List.all (List.take (outn_0 * 1) (List.drop 0 cells_0)) (Ax.closedN 20)) then (some [(.n outn_0), (.l (List.take (outn_0 * 1) (List.drop 0 cells_0))), (.i 0)]) else
     (none)) else
    (none)))
noncomputable def F_bigend_Put_L1 : List Dat → Option (List Dat ⊕ List Dat) := fun ds_14 =>
  onI ds_14 fun size_2 ds_15 =>
  onI ds_15 fun x_2 ds_16 =>
  onN ds_16 fun outn_1 ds_17 =>
  onI ds_17 fun v_2 ds_18 =>
  onI ds_18 fun v_3 ds_19 =>
  onL ds_19 fun cells_1 ds_20 =>
  bif (decide (v_3 < v_2)) then (bif (decide (0 ≤ (i64 (8 * (i64 ((i64 (size_2 - 1)) - v_3)))))) then (bif (decide ((cells_1).length = outn_1)) then (bif (decide (((outn_1 + 1) * 1) ≤ 140737488355328)) then (bif (List.all (cells_1 ++ [(Ax.AV.int .u8 (Ax.I.sym (u8 (arith .shr .i64 x_2 (i64 (8 * (i64 ((i64 (size_2 - 1)) - v_3))))))))]) (Ax.closedN 20)) then (some (.inl [(.i size_2), (.i x_2), (.n (outn_1 + 1)), (.i v_2), (.i (i64 (v_3 + 1))), (.l (cells_1 ++ [(Ax.AV.int .u8 (Ax.I.sym (u8 (arith .shr .i64 x_2 (i64 (8 * (i64 ((i64 (size_2 - 1)) - v_3))))))))]))])) else
   (none)) else none) else none) else none) else
  (Option.map .inr (bif (decide ((cells_1).length = (outn_1 * 1))) then (bif (List.all cells_1 (Ax.closedN 20)) then (some [(.n outn_1), (.l cells_1), (.i 0)]) else
     (none)) else
    (none)))
noncomputable def F_bigend_Put : List Dat → Option (List Dat) := fun ds_0 =>
  onN ds_0 fun bn_0 ds_1 =>
  onL ds_1 fun bl_0 ds_2 =>
  onI ds_2 fun size_0 ds_3 =>
  onI ds_3 fun x_0 ds_4 =>
  Option.bind (F_bigend_isSize [(.i size_0)]) fun r_0 =>
  onB r_0 fun b_0 ds_5 =>
  bif (!b_0) then (some [(.n 0), (.l []), (.i 2)]) else
  (bif (decide (0 ≤ (i64 ((i64 (8 * size_0)) - 1)))) then (Option.bind (bif (!decide ((arith .shr .i64 x_0 (i64 ((i64 (8 * size_0)) - 1))) = 0)) then (bif (!decide ((arith .shr .i64 x_0 (i64 ((i64 (8 * size_0)) - 1))) = (-1))) then (some true) else
     (some false)) else
    (some false)) fun b_1 =>
   bif b_1 then (some [(.n 0), (.l []), (.i 3)]) else
   (bif (decide ((0 ≤ (i64 (((bn_0 : Nat) : Int) + size_0))) ∧ ((i64 (((bn_0 : Nat) : Int) + size_0)) ≤ 9223372036854775807))) then (bif (decide (((0 : Int) ≤ 0) ∧ (0 ≤ ((((i64 (((bn_0 : Nat) : Int) + size_0))).toNat : Nat) : Int)))) then (bif (decide ((((i64 (((bn_0 : Nat) : Int) + size_0))).toNat * 1) ≤ 140737488355328)) then (bif (decide ((bl_0).length = bn_0)) then (bif (decide (bn_0 ≤ ((i64 (((bn_0 : Nat) : Int) + size_0))).toNat)) then (bif (decide ((0 + bn_0) ≤ ((Ax.listC ((i64 (((bn_0 : Nat) : Int) + size_0))).toNat [(Ax.AV.int .u8 (Ax.I.lit 0))])).length)) then (bif (decide ((bl_0).length = bn_0)) then (bif (List.all (Ax.write (Ax.listC ((i64 (((bn_0 : Nat) : Int) + size_0))).toNat [(Ax.AV.int .u8 (Ax.I.lit 0))]) 0 bl_0) (Ax.closedN 20)) then (iter F_bigend_Put_L0 [(.i size_0), (.i x_0), (.n bn_0), (.n ((i64 (((bn_0 : Nat) : Int) + size_0))).toNat), (.i size_0), (.i 0), (.l (Ax.write (Ax.listC ((i64 (((bn_0 : Nat) : Int) + size_0))).toNat [(Ax.AV.int .u8 (Ax.I.lit 0))]) 0 bl_0))]) else
     (none)) else none) else none) else
    (bif (decide ((bn_0 * 1) ≤ 140737488355328)) then (bif (decide (0 ≤ ((Ax.listC ((i64 (((bn_0 : Nat) : Int) + size_0))).toNat [(Ax.AV.int .u8 (Ax.I.lit 0))])).length)) then (bif (List.all ((List.take 0 (List.drop 0 (Ax.listC ((i64 (((bn_0 : Nat) : Int) + size_0))).toNat [(Ax.AV.int .u8 (Ax.I.lit 0))]))) ++ bl_0) (Ax.closedN 20)) then (iter F_bigend_Put_L1 [(.i size_0), (.i x_0), (.n bn_0), (.i size_0), (.i 0), (.l ((List.take 0 (List.drop 0 (Ax.listC ((i64 (((bn_0 : Nat) : Int) + size_0))).toNat [(Ax.AV.int .u8 (Ax.I.lit 0))]))) ++ bl_0))]) else
     (none)) else none) else none)) else none) else none) else none) else none)) else none)
noncomputable def F_bytes_Equal : List Dat → Option (List Dat) := fun ds_0 =>
  onN ds_0 fun an_0 ds_1 =>
  onL ds_1 fun al_0 ds_2 =>
  onN ds_2 fun bn_0 ds_3 =>
  onL ds_3 fun bl_0 ds_4 =>
  Option.bind (bif (decide ((al_0).length = an_0)) then (Option.bind (bytesOf al_0) fun s_0 =>
   bif (decide ((bl_0).length = bn_0)) then (Option.bind (bytesOf bl_0) fun s_1 =>
   bif (s_0 == s_1) then (some true) else
   (some false)) else none) else none) fun b_0 =>
  some [(.b b_0)]
noncomputable def F_bigend_inside : List Dat → Option (List Dat) := fun ds_0 =>
  onN ds_0 fun bn_0 ds_1 =>
  onL ds_1 fun bl_0 ds_2 =>
  onI ds_2 fun at_0 ds_3 =>
  onI ds_3 fun n_0 ds_4 =>
  Option.bind (bif (decide (0 ≤ at_0)) then (bif (decide (at_0 ≤ ((bn_0 : Nat) : Int))) then (bif (decide (n_0 ≤ (i64 (((bn_0 : Nat) : Int) - at_0)))) then (some true) else
     (some false)) else
    (some false)) else
   (some false)) fun b_0 =>
  some [(.b b_0)]
noncomputable def F_bigend_Get_L0 : List Dat → Option (List Dat ⊕ List Dat) := fun ds_7 =>
  onN ds_7 fun bn_1 ds_8 =>
  onL ds_8 fun bl_1 ds_9 =>
  onI ds_9 fun vat_0 ds_10 =>
  onI ds_10 fun size_1 ds_11 =>
  onI ds_11 fun x_1 ds_12 =>
  onI ds_12 fun i_0 ds_13 =>
  bif (decide (i_0 < size_1)) then (bif (decide ((0 ≤ (i64 (vat_0 + i_0))) ∧ ((i64 (vat_0 + i_0)) < ((bn_1 : Nat) : Int)))) then (Option.bind (asI .u8 (bl_1)[((i64 (vat_0 + i_0))).toNat]?) fun x_2 =>
   some (.inl [(.n bn_1), (.l bl_1), (.i vat_0), (.i size_1), (.i (arith .or .i64 (arith .shl .i64 x_1 8) (i64 x_2))), (.i (i64 (i_0 + 1)))])) else none) else
  (Option.map .inr (some [(.i x_1), (.i 0)]))
noncomputable def F_bigend_Get : List Dat → Option (List Dat) := fun ds_0 =>
  onN ds_0 fun bn_0 ds_1 =>
  onL ds_1 fun bl_0 ds_2 =>
  onI ds_2 fun at_0 ds_3 =>
  onI ds_3 fun size_0 ds_4 =>
  Option.bind (F_bigend_isSize [(.i size_0)]) fun r_0 =>
  onB r_0 fun b_0 ds_5 =>
  bif (!b_0) then (some [(.i 0), (.i 2)]) else
  (Option.bind (F_bigend_inside [(.n bn_0), (.l bl_0), (.i at_0), (.i size_0)]) fun r_1 =>
   onB r_1 fun b_1 ds_6 =>
   bif (!b_1) then (some [(.i 0), (.i 19)]) else
   (bif (decide ((0 ≤ at_0) ∧ (at_0 < ((bn_0 : Nat) : Int)))) then (Option.bind (asI .u8 (bl_0)[(at_0).toNat]?) fun x_0 =>
    iter F_bigend_Get_L0 [(.n bn_0), (.l bl_0), (.i at_0), (.i size_0), (.i (i64 (i8 x_0))), (.i 1)]) else none))
noncomputable def F_slices_Clonebyte_byte__nil : List Dat → Option (List Dat) := fun ds_0 =>
  some [(.n 0), (.l [])]
noncomputable def F_slices_Clonebyte_byte__empty : List Dat → Option (List Dat) := fun ds_0 =>
  some [(.n 0), (.l [])]
noncomputable def F_slices_Clonebyte_byte__list : List Dat → Option (List Dat) := fun ds_0 =>
  onN ds_0 fun sn_0 ds_1 =>
  onL ds_1 fun sl_0 ds_2 =>
  bif (decide ((sl_0).length = sn_0)) then (bif (decide (sn_0 ≤ 0)) then (bif (decide ((0 + sn_0) ≤ 0)) then (bif (decide ((sl_0).length = sn_0)) then (bif (decide ((0 + (sn_0 * 1)) ≤ ((Ax.write [] 0 sl_0)).length)) then (bif (List.all (List.take (sn_0 * 1) (List.drop 0 (Ax.write [] 0 sl_0))) (Ax.closedN 20)) then (some [(.n sn_0), (.l (List.take (sn_0 * 1) (List.drop 0 (Ax.write [] 0 sl_0))))]) else
    (none)) else
   (none)) else none) else none) else
  (bif (decide ((sn_0 * 1) ≤ 140737488355328)) then (bif (decide ((0 + (sn_0 * 1)) ≤ (([] ++ sl_0)).length)) then (bif (List.all (List.take (sn_0 * 1) (List.drop 0 ([] ++ sl_0))) (Ax.closedN 20)) then (some [(.n sn_0), (.l (List.take (sn_0 * 1) (List.drop 0 ([] ++ sl_0))))]) else
    (none)) else
   (none)) else none)) else none
noncomputable def F_slices_Clonebyte_byte_ : List Dat → Option (List Dat) := seq3 (.seq) F_slices_Clonebyte_byte__list
noncomputable def F_bigend_Bytes : List Dat → Option (List Dat) := fun ds_0 =>
  onN ds_0 fun bn_0 ds_1 =>
  onL ds_1 fun bl_0 ds_2 =>
  onI ds_2 fun at_0 ds_3 =>
  onI ds_3 fun n_0 ds_4 =>
  bif (decide (n_0 < 0)) then (some [(.n 0), (.l []), (.i 2)]) else
  (Option.bind (F_bigend_inside [(.n bn_0), (.l bl_0), (.i at_0), (.i n_0)]) fun r_0 =>
   onB r_0 fun b_0 ds_5 =>
   bif (!b_0) then (some [(.n 0), (.l []), (.i 19)]) else
   (bif (decide ((0 ≤ (i64 (at_0 + n_0))) ∧ ((i64 (at_0 + n_0)) ≤ ((bn_0 : Nat) : Int)))) then (bif (decide ((0 ≤ at_0) ∧ (at_0 ≤ ((((i64 (at_0 + n_0))).toNat : Nat) : Int)))) then (bif (decide (((at_0).toNat + (((i64 (at_0 + n_0))).toNat - (at_0).toNat)) ≤ (bl_0).length)) then (Option.bind (F_slices_Clonebyte_byte_ [(.n (((i64 (at_0 + n_0))).toNat - (at_0).toNat)), (.l (List.take (((i64 (at_0 + n_0))).toNat - (at_0).toNat) (List.drop (at_0).toNat bl_0)))]) fun r_1 =>
    onN r_1 fun n_1 ds_6 =>
    onL ds_6 fun l_0 ds_7 =>
    some [(.n n_1), (.l l_0), (.i 0)]) else none) else none) else none))
noncomputable def F_law41_works : List Dat → Option (List Dat) := fun _ => some [.b true]
noncomputable def F_bytes_Clone_nil : List Dat → Option (List Dat) := fun ds_0 =>
  some [(.n 0), (.l [])]
noncomputable def F_bytes_Clone_empty : List Dat → Option (List Dat) := fun ds_0 =>
  some [(.n 0), (.l [])]
noncomputable def F_bytes_Clone_list : List Dat → Option (List Dat) := fun ds_0 =>
  onN ds_0 fun bn_0 ds_1 =>
  onL ds_1 fun bl_0 ds_2 =>
  bif (decide ((bl_0).length = bn_0)) then (bif (decide (bn_0 ≤ 0)) then (bif (decide ((0 + bn_0) ≤ 0)) then (bif (decide ((bl_0).length = bn_0)) then (bif (decide ((0 + (bn_0 * 1)) ≤ ((Ax.write [] 0 bl_0)).length)) then (bif (List.all (List.take (bn_0 * 1) (List.drop 0 (Ax.write [] 0 bl_0))) (Ax.closedN 20)) then (some [(.n bn_0), (.l (List.take (bn_0 * 1) (List.drop 0 (Ax.write [] 0 bl_0))))]) else
    (none)) else
   (none)) else none) else none) else
  (bif (decide ((bn_0 * 1) ≤ 140737488355328)) then (bif (decide ((0 + (bn_0 * 1)) ≤ (([] ++ bl_0)).length)) then (bif (List.all (List.take (bn_0 * 1) (List.drop 0 ([] ++ bl_0))) (Ax.closedN 20)) then (some [(.n bn_0), (.l (List.take (bn_0 * 1) (List.drop 0 ([] ++ bl_0))))]) else
    (none)) else
   (none)) else none)) else none
noncomputable def F_bytes_Clone : List Dat → Option (List Dat) := seq3 (.seq) F_bytes_Clone_list
noncomputable def F_ref41_size : List Dat → Option (List Dat) := fun ds_0 =>
  onI ds_0 fun n_0 ds_1 =>
  Option.bind (bif (decide (n_0 = 1)) then (some true) else
   (bif (decide (n_0 = 4)) then (some true) else
    (bif (decide (n_0 = 8)) then (some true) else
     (some false)))) fun b_0 =>
  some [(.b b_0)]
noncomputable def F_ref41_Put_L0 : List Dat → Option (List Dat ⊕ List Dat) := fun ds_6 =>
  onN ds_6 fun bn_1 ds_7 =>
  onL ds_7 fun bl_1 ds_8 =>
  onI ds_8 fun n_1 ds_9 =>
  onI ds_9 fun rest_0 ds_10 =>
  onN ds_10 fun outn_0 ds_11 =>
  onN ds_11 fun outc_0 ds_12 =>
  onI ds_12 fun i_0 ds_13 =>
  onL ds_13 fun cells_0 ds_14 =>
  bif (decide (0 ≤ i_0)) then (bif (decide ((0 ≤ i_0) ∧ (i_0 < ((outn_0 : Nat) : Int)))) then (bif (decide (((i_0).toNat + 1) ≤ (cells_0).length)) then (bif (decide (([(Ax.AV.int .u8 (Ax.I.sym (u8 (arith .and .i64 rest_0 255))))]).length = 1)) then (bif (List.all (Ax.write cells_0 (i_0).toNat [(Ax.AV.int .u8 (Ax.I.sym (u8 (arith .and .i64 rest_0 255))))]) (Ax.closedN 20)) then (some (.inl [(.n bn_1), (.l bl_1), (.i n_1), (.i (arith .shr .i64 rest_0 8)), (.n outn_0), (.n outc_0), (.i (i64 (i_0 - 1))), (.l (Ax.write cells_0 (i_0).toNat [(Ax.AV.int .u8 (Ax.I.sym (u8 (arith .and .i64 rest_0 255))))]))])) else
   (none)) else none) else none) else none) else
  (Option.map .inr (Option.bind (bif (decide (((0 : Int) ≤ 0) ∧ (0 < ((outn_0 : Nat) : Int)))) then (Option.bind (asI .u8 (cells_0)[0]?) fun x_1 =>
     bif (decide (128 ≤ x_1)) then (some true) else
     (some false)) else none) fun b_1 =>
    Option.bind (bif (decide (n_1 < 8)) then (bif b_1 then (bif (!decide (rest_0 = (-1))) then (some true) else
       (bif (!b_1) then (bif (!decide (rest_0 = 0)) then (some true) else
         (some false)) else
        (some false))) else
      (bif (!b_1) then (bif (!decide (rest_0 = 0)) then (some true) else
        (some false)) else
       (some false))) else
     (some false)) fun b_2 =>
    bif b_2 then (some [(.n 0), (.l []), (.i 3)]) else
    (bif (decide ((bl_1).length = bn_1)) then (bif (decide (bn_1 ≤ 0)) then (bif (decide ((0 + bn_1) ≤ 0)) then (bif (decide ((bl_1).length = bn_1)) then (bif (decide ((0 + outn_0) ≤ (cells_0).length)) then (bif (decide ((bn_1 + outn_0) ≤ 0)) then (bif (decide ((bn_1 + outn_0) ≤ ((Ax.write [] 0 bl_1)).length)) then (bif (decide (((List.take outn_0 (List.drop 0 cells_0))).length = outn_0)) then (bif (decide ((0 + ((bn_1 + outn_0) * 1)) ≤ ((Ax.write (Ax.write [] 0 bl_1) bn_1 (List.take outn_0 (List.drop 0 cells_0)))).length)) then (bif (List.all (List.take ((bn_1 + outn_0) * 1) (List.drop 0 (Ax.write (Ax.write [] 0 bl_1) bn_1 (List.take outn_0 (List.drop 0 cells_0))))) (Ax.closedN 20)) then (some [(.n (bn_1 + outn_0)), (.l (List.take ((bn_1 + outn_0) * 1) (List.drop 0 (Ax.write (Ax.write [] 0 bl_1) bn_1 (List.take outn_0 (List.drop 0 cells_0)))))), (.i 0)]) else
        (none)) else
       (none)) else none) else none) else
      (bif (decide (((bn_1 + outn_0) * 1) ≤ 140737488355328)) then (bif (decide ((0 + bn_1) ≤ ((Ax.write [] 0 bl_1)).length)) then (bif (decide ((0 + ((bn_1 + outn_0) * 1)) ≤ (((List.take bn_1 (List.drop 0 (Ax.write [] 0 bl_1))) ++ (List.take outn_0 (List.drop 0 cells_0)))).length)) then (bif (List.all (List.take ((bn_1 + outn_0) * 1) (List.drop 0 ((List.take bn_1 (List.drop 0 (Ax.write [] 0 bl_1))) ++ (List.take outn_0 (List.drop 0 cells_0))))) (Ax.closedN 20)) then (some [(.n (bn_1 + outn_0)), (.l (List.take ((bn_1 + outn_0) * 1) (List.drop 0 ((List.take bn_1 (List.drop 0 (Ax.write [] 0 bl_1))) ++ (List.take outn_0 (List.drop 0 cells_0)))))), (.i 0)]) else
        (none)) else
       (none)) else none) else none)) else none) else none) else none) else
     (bif (decide ((bn_1 * 1) ≤ 140737488355328)) then (bif (decide ((0 + outn_0) ≤ (cells_0).length)) then (bif (decide ((([] ++ bl_1)).length = bn_1)) then (bif (decide (((bn_1 + outn_0) * 1) ≤ 140737488355328)) then (bif (decide ((0 + ((bn_1 + outn_0) * 1)) ≤ ((([] ++ bl_1) ++ (List.take outn_0 (List.drop 0 cells_0)))).length)) then (bif (List.all (List.take ((bn_1 + outn_0) * 1) (List.drop 0 (([] ++ bl_1) ++ (List.take outn_0 (List.drop 0 cells_0))))) (Ax.closedN 20)) then (some [(.n (bn_1 + outn_0)), (.l (List.take ((bn_1 + outn_0) * 1) (List.drop 0 (([] ++ bl_1) ++ (List.take outn_0 (List.drop 0 cells_0)))))), (.i 0)]) else
       (none)) else
      (none)) else none) else none) else none) else none)) else none)))
noncomputable def F_ref41_Put : List Dat → Option (List Dat) := fun ds_0 =>
  onN ds_0 fun bn_0 ds_1 =>
  onL ds_1 fun bl_0 ds_2 =>
  onI ds_2 fun n_0 ds_3 =>
  onI ds_3 fun x_0 ds_4 =>
  Option.bind (F_ref41_size [(.i n_0)]) fun r_0 =>
  onB r_0 fun b_0 ds_5 =>
  bif (!b_0) then (some [(.n 0), (.l []), (.i 2)]) else
  (bif (decide ((0 ≤ n_0) ∧ (n_0 ≤ 9223372036854775807))) then (bif (decide ((0 ≤ n_0) ∧ (n_0 ≤ (((n_0).toNat : Nat) : Int)))) then (bif (decide (((n_0).toNat * 1) ≤ 140737488355328)) then (bif (List.all (Ax.listC (n_0).toNat [(Ax.AV.int .u8 (Ax.I.lit 0))]) (Ax.closedN 20)) then (iter F_ref41_Put_L0 [(.n bn_0), (.l bl_0), (.i n_0), (.i x_0), (.n (n_0).toNat), (.n (n_0).toNat), (.i (i64 (n_0 - 1))), (.l (Ax.listC (n_0).toNat [(Ax.AV.int .u8 (Ax.I.lit 0))]))]) else
   (none)) else none) else none) else none)
noncomputable def F_ref41_Bytes : List Dat → Option (List Dat) := fun ds_0 =>
  onN ds_0 fun bn_0 ds_1 =>
  onL ds_1 fun bl_0 ds_2 =>
  onI ds_2 fun at_0 ds_3 =>
  onI ds_3 fun n_0 ds_4 =>
  bif (decide (n_0 < 0)) then (some [(.n 0), (.l []), (.i 2)]) else
  (Option.bind (bif (decide (at_0 < 0)) then (some true) else
    (bif (decide (((bn_0 : Nat) : Int) < at_0)) then (some true) else
     (bif (decide ((i64 (((bn_0 : Nat) : Int) - at_0)) < n_0)) then (some true) else
      (some false)))) fun b_0 =>
   bif b_0 then (some [(.n 0), (.l []), (.i 19)]) else
   (bif (decide ((0 ≤ (i64 (at_0 + n_0))) ∧ ((i64 (at_0 + n_0)) ≤ ((bn_0 : Nat) : Int)))) then (bif (decide ((0 ≤ at_0) ∧ (at_0 ≤ ((((i64 (at_0 + n_0))).toNat : Nat) : Int)))) then (bif (decide (((at_0).toNat + (((i64 (at_0 + n_0))).toNat - (at_0).toNat)) ≤ (bl_0).length)) then (bif (decide (((List.take (((i64 (at_0 + n_0))).toNat - (at_0).toNat) (List.drop (at_0).toNat bl_0))).length = (((i64 (at_0 + n_0))).toNat - (at_0).toNat))) then (bif (decide ((((i64 (at_0 + n_0))).toNat - (at_0).toNat) ≤ 0)) then (bif (decide ((0 + (((i64 (at_0 + n_0))).toNat - (at_0).toNat)) ≤ 0)) then (bif (decide (((List.take (((i64 (at_0 + n_0))).toNat - (at_0).toNat) (List.drop (at_0).toNat bl_0))).length = (((i64 (at_0 + n_0))).toNat - (at_0).toNat))) then (bif (decide ((0 + ((((i64 (at_0 + n_0))).toNat - (at_0).toNat) * 1)) ≤ ((Ax.write [] 0 (List.take (((i64 (at_0 + n_0))).toNat - (at_0).toNat) (List.drop (at_0).toNat bl_0)))).length)) then (bif (List.all (List.take ((((i64 (at_0 + n_0))).toNat - (at_0).toNat) * 1) (List.drop 0 (Ax.write [] 0 (List.take (((i64 (at_0 + n_0))).toNat - (at_0).toNat) (List.drop (at_0).toNat bl_0))))) (Ax.closedN 20)) then (some [(.n (((i64 (at_0 + n_0))).toNat - (at_0).toNat)), (.l (List.take ((((i64 (at_0 + n_0))).toNat - (at_0).toNat) * 1) (List.drop 0 (Ax.write [] 0 (List.take (((i64 (at_0 + n_0))).toNat - (at_0).toNat) (List.drop (at_0).toNat bl_0)))))), (.i 0)]) else
      (none)) else
     (none)) else none) else none) else
    (bif (decide (((((i64 (at_0 + n_0))).toNat - (at_0).toNat) * 1) ≤ 140737488355328)) then (bif (decide ((0 + ((((i64 (at_0 + n_0))).toNat - (at_0).toNat) * 1)) ≤ (([] ++ (List.take (((i64 (at_0 + n_0))).toNat - (at_0).toNat) (List.drop (at_0).toNat bl_0)))).length)) then (bif (List.all (List.take ((((i64 (at_0 + n_0))).toNat - (at_0).toNat) * 1) (List.drop 0 ([] ++ (List.take (((i64 (at_0 + n_0))).toNat - (at_0).toNat) (List.drop (at_0).toNat bl_0))))) (Ax.closedN 20)) then (some [(.n (((i64 (at_0 + n_0))).toNat - (at_0).toNat)), (.l (List.take ((((i64 (at_0 + n_0))).toNat - (at_0).toNat) * 1) (List.drop 0 ([] ++ (List.take (((i64 (at_0 + n_0))).toNat - (at_0).toNat) (List.drop (at_0).toNat bl_0)))))), (.i 0)]) else
      (none)) else
     (none)) else none)) else none) else none) else none) else none))
noncomputable def F_ref41_Get_L0 : List Dat → Option (List Dat ⊕ List Dat) := fun ds_9 =>
  onI ds_9 fun n_2 ds_10 =>
  onN ds_10 fun ln_0 ds_11 =>
  onL ds_11 fun ll_0 ds_12 =>
  onI ds_12 fun x_2 ds_13 =>
  onI ds_13 fun i_1 ds_14 =>
  bif (decide (i_1 < n_2)) then (bif (decide ((0 ≤ i_1) ∧ (i_1 < ((ln_0 : Nat) : Int)))) then (Option.bind (asI .u8 (ll_0)[(i_1).toNat]?) fun x_3 =>
   some (.inl [(.i n_2), (.n ln_0), (.l ll_0), (.i (i64 ((i64 (x_2 * 256)) + (i64 x_3)))), (.i (i64 (i_1 + 1)))])) else none) else
  (Option.map .inr (some [(.i x_2), (.i 0)]))
noncomputable def F_ref41_Get_L1 : List Dat → Option (List Dat ⊕ List Dat) := fun ds_15 =>
  onI ds_15 fun i_2 ds_16 =>
  onN ds_16 fun n_3 ds_17 =>
  onL ds_17 fun l_1 ds_18 =>
  onI ds_18 fun i_3 ds_19 =>
  onI ds_19 fun i_4 ds_20 =>
  bif (decide (i_4 < i_2)) then (bif (decide ((0 ≤ i_4) ∧ (i_4 < ((n_3 : Nat) : Int)))) then (Option.bind (asI .u8 (l_1)[(i_4).toNat]?) fun x_4 =>
   some (.inl [(.i i_2), (.n n_3), (.l l_1), (.i (i64 ((i64 (i_3 * 256)) + (i64 x_4)))), (.i (i64 (i_4 + 1)))])) else none) else
  (Option.map .inr (some [(.i i_3), (.i 0)]))
noncomputable def F_ref41_Get : List Dat → Option (List Dat) := fun ds_0 =>
  onN ds_0 fun bn_0 ds_1 =>
  onL ds_1 fun bl_0 ds_2 =>
  onI ds_2 fun at_0 ds_3 =>
  onI ds_3 fun n_0 ds_4 =>
  Option.bind (F_ref41_size [(.i n_0)]) fun r_0 =>
  onB r_0 fun b_0 ds_5 =>
  bif (!b_0) then (some [(.i 0), (.i 2)]) else
  (Option.bind (F_ref41_Bytes [(.n bn_0), (.l bl_0), (.i at_0), (.i n_0)]) fun r_1 =>
   onN r_1 fun n_1 ds_6 =>
   onL ds_6 fun l_0 ds_7 =>
   onI ds_7 fun i_0 ds_8 =>
   bif (!decide (i_0 = 0)) then (some [(.i 0), (.i i_0)]) else
   (bif (decide (((0 : Int) ≤ 0) ∧ (0 < ((n_1 : Nat) : Int)))) then (Option.bind (asI .u8 (l_0)[0]?) fun x_0 =>
    bif (decide (((0 : Int) ≤ 0) ∧ (0 < ((n_1 : Nat) : Int)))) then (Option.bind (asI .u8 (l_0)[0]?) fun x_1 =>
    bif (decide (128 ≤ x_1)) then (iter F_ref41_Get_L0 [(.i n_0), (.n n_1), (.l l_0), (.i (i64 ((i64 x_0) - 256))), (.i 1)]) else
    (iter F_ref41_Get_L1 [(.i n_0), (.n n_1), (.l l_0), (.i (i64 x_0)), (.i 1)])) else none) else none))
noncomputable def F_law41_BigendNumbers : List Dat → Option (List Dat) := fun ds_0 =>
  onN ds_0 fun bn_0 ds_1 =>
  onL ds_1 fun bl_0 ds_2 =>
  onI ds_2 fun at_0 ds_3 =>
  onI ds_3 fun size_0 ds_4 =>
  onI ds_4 fun x_0 ds_5 =>
  bif (decide (200 < ((bn_0 : Nat) : Int))) then (Option.bind (F_law41_works []) fun r_0 =>
   onB r_0 fun b_0 ds_6 =>
   some [(.b b_0)]) else
  (Option.bind (F_bytes_Clone [(.n bn_0), (.l bl_0)]) fun r_1 =>
   onN r_1 fun n_0 ds_7 =>
   onL ds_7 fun l_0 ds_8 =>
   Option.bind (F_bigend_Put [(.n n_0), (.l l_0), (.i size_0), (.i x_0)]) fun r_2 =>
   onN r_2 fun n_1 ds_9 =>
   onL ds_9 fun l_1 ds_10 =>
   onI ds_10 fun i_0 ds_11 =>
   Option.bind (F_ref41_Put [(.n bn_0), (.l bl_0), (.i size_0), (.i x_0)]) fun r_3 =>
   onN r_3 fun n_2 ds_12 =>
   onL ds_12 fun l_2 ds_13 =>
   onI ds_13 fun i_1 ds_14 =>
   Option.bind (F_bigend_Get [(.n n_0), (.l l_0), (.i at_0), (.i size_0)]) fun r_4 =>
   onI r_4 fun i_2 ds_15 =>
   onI ds_15 fun i_3 ds_16 =>
   Option.bind (F_ref41_Get [(.n bn_0), (.l bl_0), (.i at_0), (.i size_0)]) fun r_5 =>
   onI r_5 fun i_4 ds_17 =>
   onI ds_17 fun i_5 ds_18 =>
   Option.bind (F_bigend_Bytes [(.n n_0), (.l l_0), (.i at_0), (.i size_0)]) fun r_6 =>
   onN r_6 fun n_3 ds_19 =>
   onL ds_19 fun l_3 ds_20 =>
   onI ds_20 fun i_6 ds_21 =>
   Option.bind (F_ref41_Bytes [(.n bn_0), (.l bl_0), (.i at_0), (.i size_0)]) fun r_7 =>
   onN r_7 fun n_4 ds_22 =>
   onL ds_22 fun l_4 ds_23 =>
   onI ds_23 fun i_7 ds_24 =>
   Option.bind (F_bytes_Equal [(.n n_1), (.l l_1), (.n n_2), (.l l_2)]) fun r_8 =>
   onB r_8 fun b_1 ds_25 =>
   bif b_1 then (bif (decide (i_0 = i_1)) then (bif (decide (i_2 = i_4)) then (bif (decide (i_3 = i_5)) then (Option.bind (F_bytes_Equal [(.n n_3), (.l l_3), (.n n_4), (.l l_4)]) fun r_9 =>
       onB r_9 fun b_2 ds_26 =>
       bif b_2 then (bif (decide (i_6 = i_7)) then (Option.bind (F_bytes_Equal [(.n n_0), (.l l_0), (.n bn_0), (.l bl_0)]) fun r_10 =>
         onB r_10 fun b_3 ds_27 =>
         bif b_3 then (Option.bind (F_law41_works []) fun r_11 =>
          onB r_11 fun b_4 ds_28 =>
          some [(.b b_4)]) else
         (some [(.b false)])) else
        (some [(.b false)])) else
       (some [(.b false)])) else
      (some [(.b false)])) else
     (some [(.b false)])) else
    (some [(.b false)])) else
   (some [(.b false)]))
noncomputable def F_law41_sizes : List Dat → Option (List Dat) := fun ds_0 =>
  some [(.n 3), (.l [(Ax.AV.int .i64 (Ax.I.lit 1)), (Ax.AV.int .i64 (Ax.I.lit 4)), (Ax.AV.int .i64 (Ax.I.lit 8))])]
noncomputable def F_law41_BigendBack : List Dat → Option (List Dat) := fun ds_0 =>
  onN ds_0 fun bn_0 ds_1 =>
  onL ds_1 fun bl_0 ds_2 =>
  onI ds_2 fun x_0 ds_3 =>
  onI ds_3 fun which_0 ds_4 =>
  bif (decide ((0 ≤ (if 50 < ((bn_0 : Nat) : Int) then 50 else ((bn_0 : Nat) : Int))) ∧ ((if 50 < ((bn_0 : Nat) : Int) then 50 else ((bn_0 : Nat) : Int)) ≤ ((bn_0 : Nat) : Int)))) then (bif (decide ((0 + ((if 50 < ((bn_0 : Nat) : Int) then 50 else ((bn_0 : Nat) : Int))).toNat) ≤ (bl_0).length)) then (Option.bind (F_law41_sizes []) fun r_0 =>
  onN r_0 fun n_0 ds_5 =>
  onL ds_5 fun l_0 ds_6 =>
  bif (decide ((0 ≤ (Int.tmod which_0 3)) ∧ ((Int.tmod which_0 3) < ((n_0 : Nat) : Int)))) then (Option.bind (asI .i64 (l_0)[((Int.tmod which_0 3)).toNat]?) fun x_1 =>
  Option.bind (F_bigend_Put [(.n ((if 50 < ((bn_0 : Nat) : Int) then 50 else ((bn_0 : Nat) : Int))).toNat), (.l (List.take ((if 50 < ((bn_0 : Nat) : Int) then 50 else ((bn_0 : Nat) : Int))).toNat (List.drop 0 bl_0))), (.i x_1), (.i x_0)]) fun r_1 =>
  onN r_1 fun n_1 ds_7 =>
  onL ds_7 fun l_1 ds_8 =>
  onI ds_8 fun i_0 ds_9 =>
  Option.bind (bif (decide (x_1 = 8)) then (some true) else
   (bif (decide (0 ≤ (i64 ((i64 (8 * x_1)) - 1)))) then (bif (decide ((arith .shl .i64 (-1) (i64 ((i64 (8 * x_1)) - 1))) ≤ x_0)) then (bif (decide (0 ≤ (i64 ((i64 (8 * x_1)) - 1)))) then (bif (decide (x_0 < (arith .shl .i64 1 (i64 ((i64 (8 * x_1)) - 1))))) then (some true) else
     (some false)) else none) else
    (some false)) else none)) fun b_0 =>
  Option.bind (bif (decide (i_0 = 0)) then (some (!(b_0 == true))) else
   (some (!(b_0 == false)))) fun b_1 =>
  bif b_1 then (some [(.b false)]) else
  (bif (!b_0) then (bif (decide (((n_1 : Nat) : Int) = 0)) then (bif (decide (i_0 = 3)) then (Option.bind (F_law41_works []) fun r_2 =>
      onB r_2 fun b_2 ds_10 =>
      some [(.b b_2)]) else
     (some [(.b false)])) else
    (some [(.b false)])) else
   (Option.bind (F_bigend_Get [(.n n_1), (.l l_1), (.i ((((if 50 < ((bn_0 : Nat) : Int) then 50 else ((bn_0 : Nat) : Int))).toNat : Nat) : Int)), (.i x_1)]) fun r_3 =>
    onI r_3 fun i_1 ds_11 =>
    onI ds_11 fun i_2 ds_12 =>
    bif (decide (((n_1 : Nat) : Int) = (i64 (((((if 50 < ((bn_0 : Nat) : Int) then 50 else ((bn_0 : Nat) : Int))).toNat : Nat) : Int) + x_1)))) then (bif (decide ((0 ≤ ((((if 50 < ((bn_0 : Nat) : Int) then 50 else ((bn_0 : Nat) : Int))).toNat : Nat) : Int)) ∧ (((((if 50 < ((bn_0 : Nat) : Int) then 50 else ((bn_0 : Nat) : Int))).toNat : Nat) : Int) ≤ ((n_1 : Nat) : Int)))) then (bif (decide ((0 + (((((if 50 < ((bn_0 : Nat) : Int) then 50 else ((bn_0 : Nat) : Int))).toNat : Nat) : Int)).toNat) ≤ (l_1).length)) then (Option.bind (F_bytes_Equal [(.n (((((if 50 < ((bn_0 : Nat) : Int) then 50 else ((bn_0 : Nat) : Int))).toNat : Nat) : Int)).toNat), (.l (List.take (((((if 50 < ((bn_0 : Nat) : Int) then 50 else ((bn_0 : Nat) : Int))).toNat : Nat) : Int)).toNat (List.drop 0 l_1))), (.n ((if 50 < ((bn_0 : Nat) : Int) then 50 else ((bn_0 : Nat) : Int))).toNat), (.l (List.take ((if 50 < ((bn_0 : Nat) : Int) then 50 else ((bn_0 : Nat) : Int))).toNat (List.drop 0 bl_0)))]) fun r_4 =>
     onB r_4 fun b_3 ds_13 =>
     bif b_3 then (bif (decide (i_1 = x_0)) then (bif (decide (i_2 = 0)) then (Option.bind (F_law41_works []) fun r_5 =>
        onB r_5 fun b_4 ds_14 =>
        some [(.b b_4)]) else
       (some [(.b false)])) else
      (some [(.b false)])) else
     (some [(.b false)])) else none) else none) else
    (some [(.b false)])))) else none) else none) else none
noncomputable def F_law41_BigendRefuses_L0 : List Dat → Option (List Dat ⊕ List Dat) := fun ds_91 =>
  onN ds_91 fun bn_1 ds_92 =>
  onL ds_92 fun bl_1 ds_93 =>
  onN ds_93 fun alln_0 ds_94 =>
  onL ds_94 fun alll_0 ds_95 =>
  onI ds_95 fun v_0 ds_96 =>
  onI ds_96 fun v_1 ds_97 =>
  bif (decide (v_1 < v_0)) then (bif (decide ((0 ≤ v_1) ∧ (v_1 < ((alln_0 : Nat) : Int)))) then (Option.bind (asI .u8 (alll_0)[(v_1).toNat]?) fun x_1 =>
   bif (decide ((0 ≤ v_1) ∧ (v_1 < ((alln_0 : Nat) : Int)))) then (none) else none) else none) else
  (Option.map .inr (Option.bind (F_bigend_Bytes [(.n bn_1), (.l bl_1), (.i 0), (.i ((bn_1 : Nat) : Int))]) fun r_34 =>
    onN r_34 fun n_19 ds_98 =>
    onL ds_98 fun l_19 ds_99 =>
    onI ds_99 fun i_47 ds_100 =>
    bif (decide (i_47 = 0)) then (Option.bind (F_bytes_Equal [(.n n_19), (.l l_19), (.n bn_1), (.l bl_1)]) fun r_35 =>
     onB r_35 fun b_15 ds_101 =>
     bif b_15 then (Option.bind (F_law41_works []) fun r_36 =>
      onB r_36 fun b_16 ds_102 =>
      some [(.b b_16)]) else
     (some [(.b false)])) else
    (some [(.b false)])))
noncomputable def F_law41_BigendRefuses : List Dat → Option (List Dat) := fun ds_0 =>
  onN ds_0 fun bn_0 ds_1 =>
  onL ds_1 fun bl_0 ds_2 =>
  onI ds_2 fun far_0 ds_3 =>
  onI ds_3 fun x_0 ds_4 =>
  bif (decide ((0 ≤ (if 20 < ((bn_0 : Nat) : Int) then 20 else ((bn_0 : Nat) : Int))) ∧ ((if 20 < ((bn_0 : Nat) : Int) then 20 else ((bn_0 : Nat) : Int)) ≤ ((bn_0 : Nat) : Int)))) then (bif (decide ((0 + ((if 20 < ((bn_0 : Nat) : Int) then 20 else ((bn_0 : Nat) : Int))).toNat) ≤ (bl_0).length)) then (Option.bind (F_bigend_Put [(.n ((if 20 < ((bn_0 : Nat) : Int) then 20 else ((bn_0 : Nat) : Int))).toNat), (.l (List.take ((if 20 < ((bn_0 : Nat) : Int) then 20 else ((bn_0 : Nat) : Int))).toNat (List.drop 0 bl_0))), (.i 0), (.i x_0)]) fun r_0 =>
  onN r_0 fun n_0 ds_5 =>
  onL ds_5 fun l_0 ds_6 =>
  onI ds_6 fun i_0 ds_7 =>
  Option.bind (F_bigend_Get [(.n ((if 20 < ((bn_0 : Nat) : Int) then 20 else ((bn_0 : Nat) : Int))).toNat), (.l (List.take ((if 20 < ((bn_0 : Nat) : Int) then 20 else ((bn_0 : Nat) : Int))).toNat (List.drop 0 bl_0))), (.i 0), (.i 0)]) fun r_1 =>
  onI r_1 fun i_1 ds_8 =>
  onI ds_8 fun i_2 ds_9 =>
  Option.bind (bif (!decide (((n_0 : Nat) : Int) = 0)) then (some true) else
   (bif (!decide (i_0 = 2)) then (some true) else
    (bif (!decide (i_1 = 0)) then (some true) else
     (bif (!decide (i_2 = 2)) then (some true) else
      (some false))))) fun b_0 =>
  bif b_0 then (some [(.b false)]) else
  (Option.bind (F_bigend_Put [(.n ((if 20 < ((bn_0 : Nat) : Int) then 20 else ((bn_0 : Nat) : Int))).toNat), (.l (List.take ((if 20 < ((bn_0 : Nat) : Int) then 20 else ((bn_0 : Nat) : Int))).toNat (List.drop 0 bl_0))), (.i 2), (.i x_0)]) fun r_2 =>
   onN r_2 fun n_1 ds_10 =>
   onL ds_10 fun l_1 ds_11 =>
   onI ds_11 fun i_3 ds_12 =>
   Option.bind (F_bigend_Get [(.n ((if 20 < ((bn_0 : Nat) : Int) then 20 else ((bn_0 : Nat) : Int))).toNat), (.l (List.take ((if 20 < ((bn_0 : Nat) : Int) then 20 else ((bn_0 : Nat) : Int))).toNat (List.drop 0 bl_0))), (.i 0), (.i 2)]) fun r_3 =>
   onI r_3 fun i_4 ds_13 =>
   onI ds_13 fun i_5 ds_14 =>
   Option.bind (bif (!decide (((n_1 : Nat) : Int) = 0)) then (some true) else
    (bif (!decide (i_3 = 2)) then (some true) else
     (bif (!decide (i_4 = 0)) then (some true) else
      (bif (!decide (i_5 = 2)) then (some true) else
       (some false))))) fun b_1 =>
   bif b_1 then (some [(.b false)]) else
   (Option.bind (F_bigend_Put [(.n ((if 20 < ((bn_0 : Nat) : Int) then 20 else ((bn_0 : Nat) : Int))).toNat), (.l (List.take ((if 20 < ((bn_0 : Nat) : Int) then 20 else ((bn_0 : Nat) : Int))).toNat (List.drop 0 bl_0))), (.i 3), (.i x_0)]) fun r_4 =>
    onN r_4 fun n_2 ds_15 =>
    onL ds_15 fun l_2 ds_16 =>
    onI ds_16 fun i_6 ds_17 =>
    Option.bind (F_bigend_Get [(.n ((if 20 < ((bn_0 : Nat) : Int) then 20 else ((bn_0 : Nat) : Int))).toNat), (.l (List.take ((if 20 < ((bn_0 : Nat) : Int) then 20 else ((bn_0 : Nat) : Int))).toNat (List.drop 0 bl_0))), (.i 0), (.i 3)]) fun r_5 =>
    onI r_5 fun i_7 ds_18 =>
    onI ds_18 fun i_8 ds_19 =>
    Option.bind (bif (!decide (((n_2 : Nat) : Int) = 0)) then (some true) else
     (bif (!decide (i_6 = 2)) then (some true) else
      (bif (!decide (i_7 = 0)) then (some true) else
       (bif (!decide (i_8 = 2)) then (some true) else
        (some false))))) fun b_2 =>
    bif b_2 then (some [(.b false)]) else
    (Option.bind (F_bigend_Put [(.n ((if 20 < ((bn_0 : Nat) : Int) then 20 else ((bn_0 : Nat) : Int))).toNat), (.l (List.take ((if 20 < ((bn_0 : Nat) : Int) then 20 else ((bn_0 : Nat) : Int))).toNat (List.drop 0 bl_0))), (.i 5), (.i x_0)]) fun r_6 =>
     onN r_6 fun n_3 ds_20 =>
     onL ds_20 fun l_3 ds_21 =>
     onI ds_21 fun i_9 ds_22 =>
     Option.bind (F_bigend_Get [(.n ((if 20 < ((bn_0 : Nat) : Int) then 20 else ((bn_0 : Nat) : Int))).toNat), (.l (List.take ((if 20 < ((bn_0 : Nat) : Int) then 20 else ((bn_0 : Nat) : Int))).toNat (List.drop 0 bl_0))), (.i 0), (.i 5)]) fun r_7 =>
     onI r_7 fun i_10 ds_23 =>
     onI ds_23 fun i_11 ds_24 =>
     Option.bind (bif (!decide (((n_3 : Nat) : Int) = 0)) then (some true) else
      (bif (!decide (i_9 = 2)) then (some true) else
       (bif (!decide (i_10 = 0)) then (some true) else
        (bif (!decide (i_11 = 2)) then (some true) else
         (some false))))) fun b_3 =>
     bif b_3 then (some [(.b false)]) else
     (Option.bind (F_bigend_Put [(.n ((if 20 < ((bn_0 : Nat) : Int) then 20 else ((bn_0 : Nat) : Int))).toNat), (.l (List.take ((if 20 < ((bn_0 : Nat) : Int) then 20 else ((bn_0 : Nat) : Int))).toNat (List.drop 0 bl_0))), (.i 6), (.i x_0)]) fun r_8 =>
      onN r_8 fun n_4 ds_25 =>
      onL ds_25 fun l_4 ds_26 =>
      onI ds_26 fun i_12 ds_27 =>
      Option.bind (F_bigend_Get [(.n ((if 20 < ((bn_0 : Nat) : Int) then 20 else ((bn_0 : Nat) : Int))).toNat), (.l (List.take ((if 20 < ((bn_0 : Nat) : Int) then 20 else ((bn_0 : Nat) : Int))).toNat (List.drop 0 bl_0))), (.i 0), (.i 6)]) fun r_9 =>
      onI r_9 fun i_13 ds_28 =>
      onI ds_28 fun i_14 ds_29 =>
      Option.bind (bif (!decide (((n_4 : Nat) : Int) = 0)) then (some true) else
       (bif (!decide (i_12 = 2)) then (some true) else
        (bif (!decide (i_13 = 0)) then (some true) else
         (bif (!decide (i_14 = 2)) then (some true) else
          (some false))))) fun b_4 =>
      bif b_4 then (some [(.b false)]) else
      (Option.bind (F_bigend_Put [(.n ((if 20 < ((bn_0 : Nat) : Int) then 20 else ((bn_0 : Nat) : Int))).toNat), (.l (List.take ((if 20 < ((bn_0 : Nat) : Int) then 20 else ((bn_0 : Nat) : Int))).toNat (List.drop 0 bl_0))), (.i 7), (.i x_0)]) fun r_10 =>
       onN r_10 fun n_5 ds_30 =>
       onL ds_30 fun l_5 ds_31 =>
       onI ds_31 fun i_15 ds_32 =>
       Option.bind (F_bigend_Get [(.n ((if 20 < ((bn_0 : Nat) : Int) then 20 else ((bn_0 : Nat) : Int))).toNat), (.l (List.take ((if 20 < ((bn_0 : Nat) : Int) then 20 else ((bn_0 : Nat) : Int))).toNat (List.drop 0 bl_0))), (.i 0), (.i 7)]) fun r_11 =>
       onI r_11 fun i_16 ds_33 =>
       onI ds_33 fun i_17 ds_34 =>
       Option.bind (bif (!decide (((n_5 : Nat) : Int) = 0)) then (some true) else
        (bif (!decide (i_15 = 2)) then (some true) else
         (bif (!decide (i_16 = 0)) then (some true) else
          (bif (!decide (i_17 = 2)) then (some true) else
           (some false))))) fun b_5 =>
       bif b_5 then (some [(.b false)]) else
       (Option.bind (F_bigend_Put [(.n ((if 20 < ((bn_0 : Nat) : Int) then 20 else ((bn_0 : Nat) : Int))).toNat), (.l (List.take ((if 20 < ((bn_0 : Nat) : Int) then 20 else ((bn_0 : Nat) : Int))).toNat (List.drop 0 bl_0))), (.i (i64 (9 + (i64 far_0)))), (.i x_0)]) fun r_12 =>
        onN r_12 fun n_6 ds_35 =>
        onL ds_35 fun l_6 ds_36 =>
        onI ds_36 fun i_18 ds_37 =>
        Option.bind (F_bigend_Get [(.n ((if 20 < ((bn_0 : Nat) : Int) then 20 else ((bn_0 : Nat) : Int))).toNat), (.l (List.take ((if 20 < ((bn_0 : Nat) : Int) then 20 else ((bn_0 : Nat) : Int))).toNat (List.drop 0 bl_0))), (.i 0), (.i (i64 (9 + (i64 far_0))))]) fun r_13 =>
        onI r_13 fun i_19 ds_38 =>
        onI ds_38 fun i_20 ds_39 =>
        Option.bind (bif (!decide (((n_6 : Nat) : Int) = 0)) then (some true) else
         (bif (!decide (i_18 = 2)) then (some true) else
          (bif (!decide (i_19 = 0)) then (some true) else
           (bif (!decide (i_20 = 2)) then (some true) else
            (some false))))) fun b_6 =>
        bif b_6 then (some [(.b false)]) else
        (Option.bind (F_bigend_Put [(.n ((if 20 < ((bn_0 : Nat) : Int) then 20 else ((bn_0 : Nat) : Int))).toNat), (.l (List.take ((if 20 < ((bn_0 : Nat) : Int) then 20 else ((bn_0 : Nat) : Int))).toNat (List.drop 0 bl_0))), (.i (i64 ((-1) - (i64 far_0)))), (.i x_0)]) fun r_14 =>
         onN r_14 fun n_7 ds_40 =>
         onL ds_40 fun l_7 ds_41 =>
         onI ds_41 fun i_21 ds_42 =>
         Option.bind (F_bigend_Get [(.n ((if 20 < ((bn_0 : Nat) : Int) then 20 else ((bn_0 : Nat) : Int))).toNat), (.l (List.take ((if 20 < ((bn_0 : Nat) : Int) then 20 else ((bn_0 : Nat) : Int))).toNat (List.drop 0 bl_0))), (.i 0), (.i (i64 ((-1) - (i64 far_0))))]) fun r_15 =>
         onI r_15 fun i_22 ds_43 =>
         onI ds_43 fun i_23 ds_44 =>
         Option.bind (bif (!decide (((n_7 : Nat) : Int) = 0)) then (some true) else
          (bif (!decide (i_21 = 2)) then (some true) else
           (bif (!decide (i_22 = 0)) then (some true) else
            (bif (!decide (i_23 = 2)) then (some true) else
             (some false))))) fun b_7 =>
         bif b_7 then (some [(.b false)]) else
         (Option.bind (F_bigend_Put [(.n ((if 20 < ((bn_0 : Nat) : Int) then 20 else ((bn_0 : Nat) : Int))).toNat), (.l (List.take ((if 20 < ((bn_0 : Nat) : Int) then 20 else ((bn_0 : Nat) : Int))).toNat (List.drop 0 bl_0))), (.i 9223372036854775807), (.i x_0)]) fun r_16 =>
          onN r_16 fun n_8 ds_45 =>
          onL ds_45 fun l_8 ds_46 =>
          onI ds_46 fun i_24 ds_47 =>
          Option.bind (F_bigend_Get [(.n ((if 20 < ((bn_0 : Nat) : Int) then 20 else ((bn_0 : Nat) : Int))).toNat), (.l (List.take ((if 20 < ((bn_0 : Nat) : Int) then 20 else ((bn_0 : Nat) : Int))).toNat (List.drop 0 bl_0))), (.i 0), (.i 9223372036854775807)]) fun r_17 =>
          onI r_17 fun i_25 ds_48 =>
          onI ds_48 fun i_26 ds_49 =>
          Option.bind (bif (!decide (((n_8 : Nat) : Int) = 0)) then (some true) else
           (bif (!decide (i_24 = 2)) then (some true) else
            (bif (!decide (i_25 = 0)) then (some true) else
             (bif (!decide (i_26 = 2)) then (some true) else
              (some false))))) fun b_8 =>
          bif b_8 then (some [(.b false)]) else
          (Option.bind (F_bigend_Put [(.n ((if 20 < ((bn_0 : Nat) : Int) then 20 else ((bn_0 : Nat) : Int))).toNat), (.l (List.take ((if 20 < ((bn_0 : Nat) : Int) then 20 else ((bn_0 : Nat) : Int))).toNat (List.drop 0 bl_0))), (.i (-9223372036854775808)), (.i x_0)]) fun r_18 =>
           onN r_18 fun n_9 ds_50 =>
           onL ds_50 fun l_9 ds_51 =>
           onI ds_51 fun i_27 ds_52 =>
           Option.bind (F_bigend_Get [(.n ((if 20 < ((bn_0 : Nat) : Int) then 20 else ((bn_0 : Nat) : Int))).toNat), (.l (List.take ((if 20 < ((bn_0 : Nat) : Int) then 20 else ((bn_0 : Nat) : Int))).toNat (List.drop 0 bl_0))), (.i 0), (.i (-9223372036854775808))]) fun r_19 =>
           onI r_19 fun i_28 ds_53 =>
           onI ds_53 fun i_29 ds_54 =>
           Option.bind (bif (!decide (((n_9 : Nat) : Int) = 0)) then (some true) else
            (bif (!decide (i_27 = 2)) then (some true) else
             (bif (!decide (i_28 = 0)) then (some true) else
              (bif (!decide (i_29 = 2)) then (some true) else
               (some false))))) fun b_9 =>
           bif b_9 then (some [(.b false)]) else
           (Option.bind (F_bigend_Get [(.n ((if 20 < ((bn_0 : Nat) : Int) then 20 else ((bn_0 : Nat) : Int))).toNat), (.l (List.take ((if 20 < ((bn_0 : Nat) : Int) then 20 else ((bn_0 : Nat) : Int))).toNat (List.drop 0 bl_0))), (.i (i64 ((-1) - (i64 far_0)))), (.i 1)]) fun r_20 =>
            onI r_20 fun i_30 ds_55 =>
            onI ds_55 fun i_31 ds_56 =>
            Option.bind (F_bigend_Bytes [(.n ((if 20 < ((bn_0 : Nat) : Int) then 20 else ((bn_0 : Nat) : Int))).toNat), (.l (List.take ((if 20 < ((bn_0 : Nat) : Int) then 20 else ((bn_0 : Nat) : Int))).toNat (List.drop 0 bl_0))), (.i (i64 ((-1) - (i64 far_0)))), (.i 0)]) fun r_21 =>
            onN r_21 fun n_10 ds_57 =>
            onL ds_57 fun l_10 ds_58 =>
            onI ds_58 fun i_32 ds_59 =>
            Option.bind (bif (!decide (i_30 = 0)) then (some true) else
             (bif (!decide (i_31 = 19)) then (some true) else
              (bif (!decide (((n_10 : Nat) : Int) = 0)) then (some true) else
               (bif (!decide (i_32 = 19)) then (some true) else
                (some false))))) fun b_10 =>
            bif b_10 then (some [(.b false)]) else
            (Option.bind (F_bigend_Get [(.n ((if 20 < ((bn_0 : Nat) : Int) then 20 else ((bn_0 : Nat) : Int))).toNat), (.l (List.take ((if 20 < ((bn_0 : Nat) : Int) then 20 else ((bn_0 : Nat) : Int))).toNat (List.drop 0 bl_0))), (.i (i64 ((i64 (((((if 20 < ((bn_0 : Nat) : Int) then 20 else ((bn_0 : Nat) : Int))).toNat : Nat) : Int) + 1)) + (i64 far_0)))), (.i 1)]) fun r_22 =>
             onI r_22 fun i_33 ds_60 =>
             onI ds_60 fun i_34 ds_61 =>
             Option.bind (F_bigend_Bytes [(.n ((if 20 < ((bn_0 : Nat) : Int) then 20 else ((bn_0 : Nat) : Int))).toNat), (.l (List.take ((if 20 < ((bn_0 : Nat) : Int) then 20 else ((bn_0 : Nat) : Int))).toNat (List.drop 0 bl_0))), (.i (i64 ((i64 (((((if 20 < ((bn_0 : Nat) : Int) then 20 else ((bn_0 : Nat) : Int))).toNat : Nat) : Int) + 1)) + (i64 far_0)))), (.i 0)]) fun r_23 =>
             onN r_23 fun n_11 ds_62 =>
             onL ds_62 fun l_11 ds_63 =>
             onI ds_63 fun i_35 ds_64 =>
             Option.bind (bif (!decide (i_33 = 0)) then (some true) else
              (bif (!decide (i_34 = 19)) then (some true) else
               (bif (!decide (((n_11 : Nat) : Int) = 0)) then (some true) else
                (bif (!decide (i_35 = 19)) then (some true) else
                 (some false))))) fun b_11 =>
             bif b_11 then (some [(.b false)]) else
             (Option.bind (F_bigend_Get [(.n ((if 20 < ((bn_0 : Nat) : Int) then 20 else ((bn_0 : Nat) : Int))).toNat), (.l (List.take ((if 20 < ((bn_0 : Nat) : Int) then 20 else ((bn_0 : Nat) : Int))).toNat (List.drop 0 bl_0))), (.i 9223372036854775807), (.i 1)]) fun r_24 =>
              onI r_24 fun i_36 ds_65 =>
              onI ds_65 fun i_37 ds_66 =>
              Option.bind (F_bigend_Bytes [(.n ((if 20 < ((bn_0 : Nat) : Int) then 20 else ((bn_0 : Nat) : Int))).toNat), (.l (List.take ((if 20 < ((bn_0 : Nat) : Int) then 20 else ((bn_0 : Nat) : Int))).toNat (List.drop 0 bl_0))), (.i 9223372036854775807), (.i 0)]) fun r_25 =>
              onN r_25 fun n_12 ds_67 =>
              onL ds_67 fun l_12 ds_68 =>
              onI ds_68 fun i_38 ds_69 =>
              Option.bind (bif (!decide (i_36 = 0)) then (some true) else
               (bif (!decide (i_37 = 19)) then (some true) else
                (bif (!decide (((n_12 : Nat) : Int) = 0)) then (some true) else
                 (bif (!decide (i_38 = 19)) then (some true) else
                  (some false))))) fun b_12 =>
              bif b_12 then (some [(.b false)]) else
              (Option.bind (F_bigend_Get [(.n ((if 20 < ((bn_0 : Nat) : Int) then 20 else ((bn_0 : Nat) : Int))).toNat), (.l (List.take ((if 20 < ((bn_0 : Nat) : Int) then 20 else ((bn_0 : Nat) : Int))).toNat (List.drop 0 bl_0))), (.i (-9223372036854775808)), (.i 1)]) fun r_26 =>
               onI r_26 fun i_39 ds_70 =>
               onI ds_70 fun i_40 ds_71 =>
               Option.bind (F_bigend_Bytes [(.n ((if 20 < ((bn_0 : Nat) : Int) then 20 else ((bn_0 : Nat) : Int))).toNat), (.l (List.take ((if 20 < ((bn_0 : Nat) : Int) then 20 else ((bn_0 : Nat) : Int))).toNat (List.drop 0 bl_0))), (.i (-9223372036854775808)), (.i 0)]) fun r_27 =>
               onN r_27 fun n_13 ds_72 =>
               onL ds_72 fun l_13 ds_73 =>
               onI ds_73 fun i_41 ds_74 =>
               Option.bind (bif (!decide (i_39 = 0)) then (some true) else
                (bif (!decide (i_40 = 19)) then (some true) else
                 (bif (!decide (((n_13 : Nat) : Int) = 0)) then (some true) else
                  (bif (!decide (i_41 = 19)) then (some true) else
                   (some false))))) fun b_13 =>
               bif b_13 then (some [(.b false)]) else
               (Option.bind (F_bigend_Bytes [(.n ((if 20 < ((bn_0 : Nat) : Int) then 20 else ((bn_0 : Nat) : Int))).toNat), (.l (List.take ((if 20 < ((bn_0 : Nat) : Int) then 20 else ((bn_0 : Nat) : Int))).toNat (List.drop 0 bl_0))), (.i 0), (.i ((((if 20 < ((bn_0 : Nat) : Int) then 20 else ((bn_0 : Nat) : Int))).toNat : Nat) : Int))]) fun r_28 =>
                onN r_28 fun n_14 ds_75 =>
                onL ds_75 fun l_14 ds_76 =>
                onI ds_76 fun i_42 ds_77 =>
                Option.bind (F_bigend_Bytes [(.n ((if 20 < ((bn_0 : Nat) : Int) then 20 else ((bn_0 : Nat) : Int))).toNat), (.l (List.take ((if 20 < ((bn_0 : Nat) : Int) then 20 else ((bn_0 : Nat) : Int))).toNat (List.drop 0 bl_0))), (.i ((((if 20 < ((bn_0 : Nat) : Int) then 20 else ((bn_0 : Nat) : Int))).toNat : Nat) : Int)), (.i 0)]) fun r_29 =>
                onN r_29 fun n_15 ds_78 =>
                onL ds_78 fun l_15 ds_79 =>
                onI ds_79 fun i_43 ds_80 =>
                Option.bind (F_bigend_Bytes [(.n ((if 20 < ((bn_0 : Nat) : Int) then 20 else ((bn_0 : Nat) : Int))).toNat), (.l (List.take ((if 20 < ((bn_0 : Nat) : Int) then 20 else ((bn_0 : Nat) : Int))).toNat (List.drop 0 bl_0))), (.i 0), (.i (i64 ((i64 (((((if 20 < ((bn_0 : Nat) : Int) then 20 else ((bn_0 : Nat) : Int))).toNat : Nat) : Int) + 1)) + (i64 far_0))))]) fun r_30 =>
                onN r_30 fun n_16 ds_81 =>
                onL ds_81 fun l_16 ds_82 =>
                onI ds_82 fun i_44 ds_83 =>
                Option.bind (F_bigend_Bytes [(.n ((if 20 < ((bn_0 : Nat) : Int) then 20 else ((bn_0 : Nat) : Int))).toNat), (.l (List.take ((if 20 < ((bn_0 : Nat) : Int) then 20 else ((bn_0 : Nat) : Int))).toNat (List.drop 0 bl_0))), (.i 0), (.i 9223372036854775807)]) fun r_31 =>
                onN r_31 fun n_17 ds_84 =>
                onL ds_84 fun l_17 ds_85 =>
                onI ds_85 fun i_45 ds_86 =>
                Option.bind (F_bigend_Bytes [(.n ((if 20 < ((bn_0 : Nat) : Int) then 20 else ((bn_0 : Nat) : Int))).toNat), (.l (List.take ((if 20 < ((bn_0 : Nat) : Int) then 20 else ((bn_0 : Nat) : Int))).toNat (List.drop 0 bl_0))), (.i 0), (.i (i64 ((-1) - (i64 far_0))))]) fun r_32 =>
                onN r_32 fun n_18 ds_87 =>
                onL ds_87 fun l_18 ds_88 =>
                onI ds_88 fun i_46 ds_89 =>
                Option.bind (F_bytes_Equal [(.n n_14), (.l l_14), (.n ((if 20 < ((bn_0 : Nat) : Int) then 20 else ((bn_0 : Nat) : Int))).toNat), (.l (List.take ((if 20 < ((bn_0 : Nat) : Int) then 20 else ((bn_0 : Nat) : Int))).toNat (List.drop 0 bl_0)))]) fun r_33 =>
                onB r_33 fun b_14 ds_90 =>
                bif (!b_14) then (some [(.b false)]) else
                (bif (!decide (i_42 = 0)) then (some [(.b false)]) else
                 (bif (!decide (((n_15 : Nat) : Int) = 0)) then (some [(.b false)]) else
                  (bif (!decide (i_43 = 0)) then (some [(.b false)]) else
                   (bif (!decide (((n_16 : Nat) : Int) = 0)) then (some [(.b false)]) else
                    (bif (!decide (i_44 = 19)) then (some [(.b false)]) else
                     (bif (!decide (((n_17 : Nat) : Int) = 0)) then (some [(.b false)]) else
                      (bif (!decide (i_45 = 19)) then (some [(.b false)]) else
                       (bif (!decide (((n_18 : Nat) : Int) = 0)) then (some [(.b false)]) else
                        (bif (!decide (i_46 = 2)) then (some [(.b false)]) else
                         (iter F_law41_BigendRefuses_L0 [(.n ((if 20 < ((bn_0 : Nat) : Int) then 20 else ((bn_0 : Nat) : Int))).toNat), (.l (List.take ((if 20 < ((bn_0 : Nat) : Int) then 20 else ((bn_0 : Nat) : Int))).toNat (List.drop 0 bl_0))), (.n n_14), (.l l_14), (.i ((n_14 : Nat) : Int)), (.i 0)]))))))))))))))))))))))))) else none) else none
end Go.Proofs.Ytljbgkfoljjgbaa
