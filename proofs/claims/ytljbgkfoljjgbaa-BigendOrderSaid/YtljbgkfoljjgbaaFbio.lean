/-
  The functions of plain data that the laws of this group reach, as the program has them.
-/
import Derived.Test.YtljbgkfoljjgbaaAx33
import Derived.Test.YtljbgkfoljjgbaaAx35
namespace Go.Proofs.Ytljbgkfoljjgbaa
open Go.Ax
set_option linter.all false
set_option maxRecDepth 100000
noncomputable def F_bigend_isSize : List Dat → Option (List Dat) := fun ds_0 =>
  onI ds_0 fun size_0 ds_1 =>
  bif (decide (size_0 = 1)) then (some [(.b true)]) else
  (bif (decide (size_0 = 4)) then (some [(.b true)]) else
   (Option.bind (bif (decide (size_0 = 8)) then (some true) else
     (some false)) fun b_0 =>
    bif b_0 then (some [(.b true)]) else
    (some [(.b false)])))
noncomputable def F_bigend_Put_L0 : List Dat → Option (List Dat ⊕ List Dat) := fun ds_6 =>
  onI ds_6 fun size_1 ds_7 =>
  onI ds_7 fun x_1 ds_8 =>
  onN ds_8 fun outn_0 ds_9 =>
  onN ds_9 fun outc_0 ds_10 =>
  onI ds_10 fun v_0 ds_11 =>
  onI ds_11 fun v_1 ds_12 =>
  onL ds_12 fun cells_0 ds_13 =>
  bif (decide (v_1 < v_0)) then (bif (decide (0 ≤ (i64 (8 * (i64 ((i64 (size_1 - 1)) - v_1)))))) then (bif (decide ((outn_0 + 1) ≤ outc_0)) then (bif (decide ((outn_0 + 1) ≤ (cells_0).length)) then (bif (decide (([(Ax.AV.int .u8 (Ax.I.sym (u8 (arith .shr .i64 x_1 (i64 (8 * (i64 ((i64 (size_1 - 1)) - v_1))))))))]).length = 1)) then (bif (List.all (Ax.write cells_0 outn_0 [(Ax.AV.int .u8 (Ax.I.sym (u8 (arith .shr .i64 x_1 (i64 (8 * (i64 ((i64 (size_1 - 1)) - v_1))))))))]) (Ax.closedN 20)) then (some (.inl [(.i size_1), (.i x_1), (.n (outn_0 + 1)), (.n outc_0), (.i v_0), (.i (i64 (v_1 + 1))), (.l (Ax.write cells_0 outn_0 [(Ax.AV.int .u8 (Ax.I.sym (u8 (arith .shr .i64 x_1 (i64 (8 * (i64 ((i64 (size_1 - 1)) - v_1))))))))]))])) else
    (none)) else none) else none) else
   (bif (decide (((outn_0 + 1) * 1) ≤ 140737488355328)) then (bif (decide ((0 + outn_0) ≤ (cells_0).length)) then (none) else none) else none)) else none) else
  (Option.map .inr (bif (decide ((0 + (outn_0 * 1)) ≤ (cells_0).length)) then (bif (List.all (List.take (outn_0 * 1) (List.drop 0 cells_0)) (Ax.closedN 20)) then (some [(.n outn_0), (.l (List.take (outn_0 * 1) (List.drop 0 cells_0))), (.i 0)]) else
     (none)) else
    (none)))
noncomputable def F_bigend_Put_L1 : List Dat → Option (List Dat ⊕ List Dat) := fun ds_14 =>
  onI ds_14 fun size_2 ds_15 =>
  onI ds_15 fun x_2 ds_16 =>
  onN ds_16 fun outn_1 ds_17 =>
  onI ds_17 fun v_2 ds_18 =>
  onI ds_18 fun v_3 ds_19 =>
  onL ds_19 fun cells_1 ds_20 =>
  bif (decide (v_3 < v_2)) then (bif (decide (0 ≤ (i64 (8 * (i64 ((i64 (size_2 - 1)) - v_3)))))) then (bif (decide ((cells_1).length = outn_1)) then (bif (decide (((outn_1 + 1) * 1) ≤ 140737488355328)) then (bif (List.all (cells_1 ++ [(Ax.AV.int .u8 (Ax.I.sym (u8 (arith .shr .i64 x_2 (i64 (8 * (i64 ((i64 (size_2 - 1)) - v_3))))))))]) (Ax.closedN 20)) then (some (.inl [(.i size_2), (.i x_2), (.n (outn_1 + 1)), (.i v_2), (.i (i64 (v_3 + 1))), (.l (cells_1 ++ [(Ax.AV.int .u8 (Ax.I.sym (u8 (arith .shr .i64 x_2 (i64 (8 * (i64 ((i64 (size_2 - 1)) - v_3))))))))]))])) else
   (none)) else none) else none) else none) else
  (Option.map .inr (bif (decide ((cells_1).length = (outn_1 * 1))) then (bif (List.all cells_1 (Ax.closedN 20)) then (some [(.n outn_1), (.l cells_1), (.i 0)]) else
     (none)) else
    (none)))
noncomputable def F_bigend_Put : List Dat → Option (List Dat) := fun ds_0 =>
  onN ds_0 fun bn_0 ds_1 =>
  onL ds_1 fun bl_0 ds_2 =>
  onI ds_2 fun size_0 ds_3 =>
  onI ds_3 fun x_0 ds_4 =>
  Option.bind (F_bigend_isSize [(.i size_0)]) fun r_0 =>
  onB r_0 fun b_0 ds_5 =>
  bif (!b_0) then (some [(.n 0), (.l []), (.i 2)]) else
  (bif (decide (0 ≤ (i64 ((i64 (8 * size_0)) - 1)))) then (Option.bind (bif (!decide ((arith .shr .i64 x_0 (i64 ((i64 (8 * size_0)) - 1))) = 0)) then (bif (!decide ((arith .shr .i64 x_0 (i64 ((i64 (8 * size_0)) - 1))) = (-1))) then (some true) else
     (some false)) else
    (some false)) fun b_1 =>
   bif b_1 then (some [(.n 0), (.l []), (.i 3)]) else
   (bif (decide ((0 ≤ (i64 (((bn_0 : Nat) : Int) + size_0))) ∧ ((i64 (((bn_0 : Nat) : Int) + size_0)) ≤ 9223372036854775807))) then (bif (decide (((0 : Int) ≤ 0) ∧ (0 ≤ ((((i64 (((bn_0 : Nat) : Int) + size_0))).toNat : Nat) : Int)))) then (bif (decide ((((i64 (((bn_0 : Nat) : Int) + size_0))).toNat * 1) ≤ 140737488355328)) then (bif (decide ((bl_0).length = bn_0)) then (bif (decide (bn_0 ≤ ((i64 (((bn_0 : Nat) : Int) + size_0))).toNat)) then (bif (decide ((0 + bn_0) ≤ ((Ax.listC ((i64 (((bn_0 : Nat) : Int) + size_0))).toNat [(Ax.AV.int .u8 (Ax.I.lit 0))])).length)) then (bif (decide ((bl_0).length = bn_0)) then (bif (List.all (Ax.write (Ax.listC ((i64 (((bn_0 : Nat) : Int) + size_0))).toNat [(Ax.AV.int .u8 (Ax.I.lit 0))]) 0 bl_0) (Ax.closedN 20)) then (iter F_bigend_Put_L0 [(.i size_0), (.i x_0), (.n bn_0), (.n ((i64 (((bn_0 : Nat) : Int) + size_0))).toNat), (.i size_0), (.i 0), (.l (Ax.write (Ax.listC ((i64 (((bn_0 : Nat) : Int) + size_0))).toNat [(Ax.AV.int .u8 (Ax.I.lit 0))]) 0 bl_0))]) else
     (none)) else none) else none) else
    (bif (decide ((bn_0 * 1) ≤ 140737488355328)) then (bif (decide (0 ≤ ((Ax.listC ((i64 (((bn_0 : Nat) : Int) + size_0))).toNat [(Ax.AV.int .u8 (Ax.I.lit 0))])).length)) then (bif (List.all ((List.take 0 (List.drop 0 (Ax.listC ((i64 (((bn_0 : Nat) : Int) + size_0))).toNat [(Ax.AV.int .u8 (Ax.I.lit 0))]))) ++ bl_0) (Ax.closedN 20)) then (iter F_bigend_Put_L1 [(.i size_0), (.i x_0), (.n bn_0), (.i size_0), (.i 0), (.l ((List.take 0 (List.drop 0 (Ax.listC ((i64 (((bn_0 : Nat) : Int) + size_0))).toNat [(Ax.AV.int .u8 (Ax.I.lit 0))]))) ++ bl_0))]) else
     (none)) else none) else none)) else none) else none) else none) else none)) else none)
noncomputable def F_bytes_Compare : List Dat → Option (List Dat) := fun ds_0 =>
  onN ds_0 fun an_0 ds_1 =>
  onL ds_1 fun al_0 ds_2 =>
  onN ds_2 fun bn_0 ds_3 =>
  onL ds_3 fun bl_0 ds_4 =>
  Option.bind (Ax.bytesCompare [(.n an_0), (.l al_0), (.n bn_0), (.l bl_0)]) fun r_0 =>
  onI r_0 fun i_0 ds_5 =>
  some [(.i i_0)]
noncomputable def F_bytes_Equal : List Dat → Option (List Dat) := fun ds_0 =>
  onN ds_0 fun an_0 ds_1 =>
  onL ds_1 fun al_0 ds_2 =>
  onN ds_2 fun bn_0 ds_3 =>
  onL ds_3 fun bl_0 ds_4 =>
  Option.bind (bif (decide ((al_0).length = an_0)) then (Option.bind (bytesOf al_0) fun s_0 =>
   bif (decide ((bl_0).length = bn_0)) then (Option.bind (bytesOf bl_0) fun s_1 =>
   bif (s_0 == s_1) then (some true) else
   (some false)) else none) else none) fun b_0 =>
  some [(.b b_0)]
noncomputable def F_bigend_inside : List Dat → Option (List Dat) := fun ds_0 =>
  onN ds_0 fun bn_0 ds_1 =>
  onL ds_1 fun bl_0 ds_2 =>
  onI ds_2 fun at_0 ds_3 =>
  onI ds_3 fun n_0 ds_4 =>
  Option.bind (bif (decide (0 ≤ at_0)) then (bif (decide (at_0 ≤ ((bn_0 : Nat) : Int))) then (bif (decide (n_0 ≤ (i64 (((bn_0 : Nat) : Int) - at_0)))) then (some true) else
     (some false)) else
    (some false)) else
   (some false)) fun b_0 =>
  some [(.b b_0)]
noncomputable def F_bigend_Get_L0 : List Dat → Option (List Dat ⊕ List Dat) := fun ds_7 =>
  onN ds_7 fun bn_1 ds_8 =>
  onL ds_8 fun bl_1 ds_9 =>
  onI ds_9 fun vat_0 ds_10 =>
  onI ds_10 fun size_1 ds_11 =>
  onI ds_11 fun x_1 ds_12 =>
  onI ds_12 fun i_0 ds_13 =>
  bif (decide (i_0 < size_1)) then (bif (decide ((0 ≤ (i64 (vat_0 + i_0))) ∧ ((i64 (vat_0 + i_0)) < ((bn_1 : Nat) : Int)))) then (Option.bind (asI .u8 (bl_1)[((i64 (vat_0 + i_0))).toNat]?) fun x_2 =>
   some (.inl [(.n bn_1), (.l bl_1), (.i vat_0), (.i size_1), (.i (arith .or .i64 (arith .shl .i64 x_1 8) (i64 x_2))), (.i (i64 (i_0 + 1)))])) else none) else
  (Option.map .inr (some [(.i x_1), (.i 0)]))
noncomputable def F_bigend_Get : List Dat → Option (List Dat) := fun ds_0 =>
  onN ds_0 fun bn_0 ds_1 =>
  onL ds_1 fun bl_0 ds_2 =>
  onI ds_2 fun at_0 ds_3 =>
  onI ds_3 fun size_0 ds_4 =>
  Option.bind (F_bigend_isSize [(.i size_0)]) fun r_0 =>
  onB r_0 fun b_0 ds_5 =>
  bif (!b_0) then (some [(.i 0), (.i 2)]) else
  (Option.bind (F_bigend_inside [(.n bn_0), (.l bl_0), (.i at_0), (.i size_0)]) fun r_1 =>
   onB r_1 fun b_1 ds_6 =>
   bif (!b_1) then (some [(.i 0), (.i 19)]) else
   (bif (decide ((0 ≤ at_0) ∧ (at_0 < ((bn_0 : Nat) : Int)))) then (Option.bind (asI .u8 (bl_0)[(at_0).toNat]?) fun x_0 =>
    iter F_bigend_Get_L0 [(.n bn_0), (.l bl_0), (.i at_0), (.i size_0), (.i (i64 (i8 x_0))), (.i 1)]) else none))
noncomputable def F_slices_Clonebyte_byte__nil : List Dat → Option (List Dat) := fun ds_0 =>
  some [(.n 0), (.l [])]
noncomputable def F_slices_Clonebyte_byte__empty : List Dat → Option (List Dat) := fun ds_0 =>
  some [(.n 0), (.l [])]
noncomputable def F_slices_Clonebyte_byte__list : List Dat → Option (List Dat) := fun ds_0 =>
  onN ds_0 fun sn_0 ds_1 =>
  onL ds_1 fun sl_0 ds_2 =>
  bif (decide ((sl_0).length = sn_0)) then (bif (decide (sn_0 ≤ 0)) then (bif (decide ((0 + sn_0) ≤ 0)) then (bif (decide ((sl_0).length = sn_0)) then (bif (decide ((0 + (sn_0 * 1)) ≤ ((Ax.write [] 0 sl_0)).length)) then (bif (List.all (List.take (sn_0 * 1) (List.drop 0 (Ax.write [] 0 sl_0))) (Ax.closedN 20)) then (some [(.n sn_0), (.l (List.take (sn_0 * 1) (List.drop 0 (Ax.write [] 0 sl_0))))]) else
    (none)) else
   (none)) else none) else none) else
  (bif (decide ((sn_0 * 1) ≤ 140737488355328)) then (bif (decide ((0 + (sn_0 * 1)) ≤ (([] ++ sl_0)).length)) then (bif (List.all (List.take (sn_0 * 1) (List.drop 0 ([] ++ sl_0))) (Ax.closedN 20)) then (some [(.n sn_0), (.l (List.take (sn_0 * 1) (List.drop 0 ([] ++ sl_0))))]) else
    (none)) else
   (none)) else none)) else none
noncomputable def F_slices_Clonebyte_byte_ : List Dat → Option (List Dat) := seq3 (.seq) F_slices_Clonebyte_byte__list
noncomputable def F_bigend_Bytes : List Dat → Option (List Dat) := fun ds_0 =>
  onN ds_0 fun bn_0 ds_1 =>
  onL ds_1 fun bl_0 ds_2 =>
  onI ds_2 fun at_0 ds_3 =>
  onI ds_3 fun n_0 ds_4 =>
  bif (decide (n_0 < 0)) then (some [(.n 0), (.l []), (.i 2)]) else
  (Option.bind (F_bigend_inside [(.n bn_0), (.l bl_0), (.i at_0), (.i n_0)]) fun r_0 =>
   onB r_0 fun b_0 ds_5 =>
   bif (!b_0) then (some [(.n 0), (.l []), (.i 19)]) else
   (bif (decide ((0 ≤ (i64 (at_0 + n_0))) ∧ ((i64 (at_0 + n_0)) ≤ ((bn_0 : Nat) : Int)))) then (bif (decide ((0 ≤ at_0) ∧ (at_0 ≤ ((((i64 (at_0 + n_0))).toNat : Nat) : Int)))) then (bif (decide (((at_0).toNat + (((i64 (at_0 + n_0))).toNat - (at_0).toNat)) ≤ (bl_0).length)) then (Option.bind (F_slices_Clonebyte_byte_ [(.n (((i64 (at_0 + n_0))).toNat - (at_0).toNat)), (.l (List.take (((i64 (at_0 + n_0))).toNat - (at_0).toNat) (List.drop (at_0).toNat bl_0)))]) fun r_1 =>
    onN r_1 fun n_1 ds_6 =>
    onL ds_6 fun l_0 ds_7 =>
    some [(.n n_1), (.l l_0), (.i 0)]) else none) else none) else none))
noncomputable def F_law41_works : List Dat → Option (List Dat) := fun _ => some [.b true]
noncomputable def F_law41_BigendOrder : List Dat → Option (List Dat) := fun ds_0 =>
  onI ds_0 fun x_0 ds_1 =>
  onI ds_1 fun y_0 ds_2 =>
  Option.bind (F_bigend_Put [(.n 0), (.l []), (.i 8), (.i x_0)]) fun r_0 =>
  onN r_0 fun n_0 ds_3 =>
  onL ds_3 fun l_0 ds_4 =>
  onI ds_4 fun i_0 ds_5 =>
  Option.bind (F_bigend_Put [(.n 0), (.l []), (.i 8), (.i y_0)]) fun r_1 =>
  onN r_1 fun n_1 ds_6 =>
  onL ds_6 fun l_1 ds_7 =>
  onI ds_7 fun i_1 ds_8 =>
  Option.bind (bif (!decide (i_0 = 0)) then (some true) else
   (bif (!decide (i_1 = 0)) then (some true) else
    (some false))) fun b_0 =>
  bif b_0 then (some [(.b false)]) else
  (Option.bind (bif (decide (x_0 < 0)) then (bif (decide (y_0 < 0)) then (some false) else
     (some true)) else
    (bif (decide (y_0 < 0)) then (some true) else
     (some false))) fun b_1 =>
   bif b_1 then (bif (decide (y_0 < x_0)) then (Option.bind (F_bytes_Compare [(.n n_0), (.l l_0), (.n n_1), (.l l_1)]) fun r_2 =>
     onI r_2 fun i_2 ds_9 =>
     bif (decide (i_2 = (-1))) then (Option.bind (F_law41_works []) fun r_3 =>
      onB r_3 fun b_2 ds_10 =>
      some [(.b b_2)]) else
     (some [(.b false)])) else
    (bif (decide (x_0 < y_0)) then (Option.bind (F_bytes_Compare [(.n n_0), (.l l_0), (.n n_1), (.l l_1)]) fun r_4 =>
      onI r_4 fun i_3 ds_11 =>
      bif (decide (i_3 = 1)) then (Option.bind (F_law41_works []) fun r_5 =>
       onB r_5 fun b_3 ds_12 =>
       some [(.b b_3)]) else
      (some [(.b false)])) else
     (Option.bind (F_bytes_Compare [(.n n_0), (.l l_0), (.n n_1), (.l l_1)]) fun r_6 =>
      onI r_6 fun i_4 ds_13 =>
      bif (decide (i_4 = 0)) then (Option.bind (F_law41_works []) fun r_7 =>
       onB r_7 fun b_4 ds_14 =>
       some [(.b b_4)]) else
      (some [(.b false)])))) else
   (bif (decide (x_0 < y_0)) then (Option.bind (F_bytes_Compare [(.n n_0), (.l l_0), (.n n_1), (.l l_1)]) fun r_8 =>
     onI r_8 fun i_5 ds_15 =>
     bif (decide (i_5 = (-1))) then (Option.bind (F_law41_works []) fun r_9 =>
      onB r_9 fun b_5 ds_16 =>
      some [(.b b_5)]) else
     (some [(.b false)])) else
    (bif (decide (y_0 < x_0)) then (Option.bind (F_bytes_Compare [(.n n_0), (.l l_0), (.n n_1), (.l l_1)]) fun r_10 =>
      onI r_10 fun i_6 ds_17 =>
      bif (decide (i_6 = 1)) then (Option.bind (F_law41_works []) fun r_11 =>
       onB r_11 fun b_6 ds_18 =>
       some [(.b b_6)]) else
      (some [(.b false)])) else
     (Option.bind (F_bytes_Compare [(.n n_0), (.l l_0), (.n n_1), (.l l_1)]) fun r_12 =>
      onI r_12 fun i_7 ds_19 =>
      bif (decide (i_7 = 0)) then (Option.bind (F_law41_works []) fun r_13 =>
       onB r_13 fun b_7 ds_20 =>
       some [(.b b_7)]) else
      (some [(.b false)])))))
end Go.Proofs.Ytljbgkfoljjgbaa
