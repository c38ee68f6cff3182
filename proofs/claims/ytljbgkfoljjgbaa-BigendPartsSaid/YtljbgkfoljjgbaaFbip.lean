/-
  The functions of plain data that the laws of this group reach, as the program has them.
-/
import Derived.Test.YtljbgkfoljjgbaaAx33
namespace Go.Proofs.Ytljbgkfoljjgbaa
open Go.Ax
set_option linter.all false
set_option maxRecDepth 100000
noncomputable def F_bigend_isSize : List Dat → Option (List Dat) := fun ds_0 =>
  onI ds_0 fun size_0 ds_1 =>
  bif (decide (size_0 = 1)) then (some [(.b true)]) else
  (bif (decide (size_0 = 4)) then (some [(.b true)]) else
   (Option.bind (bif (decide (size_0 = 8)) then (some true) else
     (some false)) fun b_0 =>
    bif b_0 then (some [(.b true)]) else
    (some [(.b false)])))
noncomputable def F_bigend_Put_L0 : List Dat → Option (List Dat ⊕ List Dat) := fun ds_6 =>
  onI ds_6 fun size_1 ds_7 =>
  onI ds_7 fun x_1 ds_8 =>
  onN ds_8 fun outn_0 ds_9 =>
  onN ds_9 fun outc_0 ds_10 =>
  onI ds_10 fun v_0 ds_11 =>
  onI ds_11 fun v_1 ds_12 =>
  onL ds_12 fun cells_0 ds_13 =>
  bif (decide (v_1 < v_0)) then (bif (decide (0 ≤ (i64 (8 * (i64 ((i64 (size_1 - 1)) - v_1)))))) then (bif (decide ((outn_0 + 1) ≤ outc_0)) then (bif (decide ((outn_0 + 1) ≤ (cells_0).length)) then (bif (decide (([(Ax.AV.int .u8 (Ax.I.sym (u8 (arith .shr .i64 x_1 (i64 (8 * (i64 ((i64 (size_1 - 1)) - v_1))))))))]).length = 1)) then (bif (List.all (Ax.write cells_0 outn_0 [(Ax.AV.int .u8 (Ax.I.sym (u8 (arith .shr .i64 x_1 (i64 (8 * (i64 ((i64 (size_1 - 1)) - v_1))))))))]) (Ax.closedN 20)) then (some (.inl [(.i size_1), (.i x_1), (.n (outn_0 + 1)), (.n outc_0), (.i v_0), (.i (i64 (v_1 + 1))), (.l (Ax.write cells_0 outn_0 [(Ax.AV.int .u8 (Ax.I.sym (u8 (arith .shr .i64 x_1 (i64 (8 * (i64 ((i64 (size_1 - 1)) - v_1))))))))]))])) else
    (none)) else none) else none) else
   (bif (decide (((outn_0 + 1) * 1) ≤ 140737488355328)) then (bif (decide ((0 + outn_0) ≤ (cells_0).length)) then (none) else none) else none)) else none) else
  (Option.map .inr (bif (decide ((0 + (outn_0 * 1)) ≤ (cells_0).length)) then (bif (List.all (List.take (outn_0 * 1) (List.drop 0 cells_0)) (Ax.closedN 20)) then (some [(.n outn_0), (.l (List.take (outn_0 * 1) (List.drop 0 cells_0))), (.i 0)]) else
     (none)) else
    (none)))
noncomputable def F_bigend_Put_L1 : List Dat → Option (List Dat ⊕ List Dat) := fun ds_14 =>
  onI ds_14 fun size_2 ds_15 =>
  onI ds_15 fun x_2 ds_16 =>
  onN ds_16 fun outn_1 ds_17 =>
  onI ds_17 fun v_2 ds_18 =>
  onI ds_18 fun v_3 ds_19 =>
  onL ds_19 fun cells_1 ds_20 =>
  bif (decide (v_3 < v_2)) then (bif (decide (0 ≤ (i64 (8 * (i64 ((i64 (size_2 - 1)) - v_3)))))) then (bif (decide ((cells_1).length = outn_1)) then (bif (decide (((outn_1 + 1) * 1) ≤ 140737488355328)) then (bif (List.all (cells_1 ++ [(Ax.AV.int .u8 (Ax.I.sym (u8 (arith .shr .i64 x_2 (i64 (8 * (i64 ((i64 (size_2 - 1)) - v_3))))))))]) (Ax.closedN 20)) then (some (.inl [(.i size_2), (.i x_2), (.n (outn_1 + 1)), (.i v_2), (.i (i64 (v_3 + 1))), (.l (cells_1 ++ [(Ax.AV.int .u8 (Ax.I.sym (u8 (arith .shr .i64 x_2 (i64 (8 * (i64 ((i64 (size_2 - 1)) - v_3))))))))]))])) else
   (none)) else none) else none) else none) else
  (Option.map .inr (bif (decide ((cells_1).length = (outn_1 * 1))) then (bif (List.all cells_1 (Ax.closedN 20)) then (some [(.n outn_1), (.l cells_1), (.i 0)]) else
     (none)) else
    (none)))
noncomputable def F_bigend_Put : List Dat → Option (List Dat) := fun ds_0 =>
  onN ds_0 fun bn_0 ds_1 =>
  onL ds_1 fun bl_0 ds_2 =>
  onI ds_2 fun size_0 ds_3 =>
  onI ds_3 fun x_0 ds_4 =>
  Option.bind (F_bigend_isSize [(.i size_0)]) fun r_0 =>
  onB r_0 fun b_0 ds_5 =>
  bif (!b_0) then (some [(.n 0), (.l []), (.i 2)]) else
  (bif (decide (0 ≤ (i64 ((i64 (8 * size_0)) - 1)))) then (Option.bind (bif (!decide ((arith .shr .i64 x_0 (i64 ((i64 (8 * size_0)) - 1))) = 0)) then (bif (!decide ((arith .shr .i64 x_0 (i64 ((i64 (8 * size_0)) - 1))) = (-1))) then (some true) else
     (some false)) else
    (some false)) fun b_1 =>
   bif b_1 then (some [(.n 0), (.l []), (.i 3)]) else
   (bif (decide ((0 ≤ (i64 (((bn_0 : Nat) : Int) + size_0))) ∧ ((i64 (((bn_0 : Nat) : Int) + size_0)) ≤ 9223372036854775807))) then (bif (decide (((0 : Int) ≤ 0) ∧ (0 ≤ ((((i64 (((bn_0 : Nat) : Int) + size_0))).toNat : Nat) : Int)))) then (bif (decide ((((i64 (((bn_0 : Nat) : Int) + size_0))).toNat * 1) ≤ 140737488355328)) then (bif (decide ((bl_0).length = bn_0)) then (bif (decide (bn_0 ≤ ((i64 (((bn_0 : Nat) : Int) + size_0))).toNat)) then (bif (decide ((0 + bn_0) ≤ ((Ax.listC ((i64 (((bn_0 : Nat) : Int) + size_0))).toNat [(Ax.AV.int .u8 (Ax.I.lit 0))])).length)) then (bif (decide ((bl_0).length = bn_0)) then (bif (List.all (Ax.write (Ax.listC ((i64 (((bn_0 : Nat) : Int) + size_0))).toNat [(Ax.AV.int .u8 (Ax.I.lit 0))]) 0 bl_0) (Ax.closedN 20)) then (iter F_bigend_Put_L0 [(.i size_0), (.i x_0), (.n bn_0), (.n ((i64 (((bn_0 : Nat) : Int) + size_0))).toNat), (.i size_0), (.i 0), (.l (Ax.write (Ax.listC ((i64 (((bn_0 : Nat) : Int) + size_0))).toNat [(Ax.AV.int .u8 (Ax.I.lit 0))]) 0 bl_0))]) else
     (none)) else none) else none) else
    (bif (decide ((bn_0 * 1) ≤ 140737488355328)) then (bif (decide (0 ≤ ((Ax.listC ((i64 (((bn_0 : Nat) : Int) + size_0))).toNat [(Ax.AV.int .u8 (Ax.I.lit 0))])).length)) then (bif (List.all ((List.take 0 (List.drop 0 (Ax.listC ((i64 (((bn_0 : Nat) : Int) + size_0))).toNat [(Ax.AV.int .u8 (Ax.I.lit 0))]))) ++ bl_0) (Ax.closedN 20)) then (iter F_bigend_Put_L1 [(.i size_0), (.i x_0), (.n bn_0), (.i size_0), (.i 0), (.l ((List.take 0 (List.drop 0 (Ax.listC ((i64 (((bn_0 : Nat) : Int) + size_0))).toNat [(Ax.AV.int .u8 (Ax.I.lit 0))]))) ++ bl_0))]) else
     (none)) else none) else none)) else none) else none) else none) else none)) else none)
noncomputable def F_bigend_inside : List Dat → Option (List Dat) := fun ds_0 =>
  onN ds_0 fun bn_0 ds_1 =>
  onL ds_1 fun bl_0 ds_2 =>
  onI ds_2 fun at_0 ds_3 =>
  onI ds_3 fun n_0 ds_4 =>
  Option.bind (bif (decide (0 ≤ at_0)) then (bif (decide (at_0 ≤ ((bn_0 : Nat) : Int))) then (bif (decide (n_0 ≤ (i64 (((bn_0 : Nat) : Int) - at_0)))) then (some true) else
     (some false)) else
    (some false)) else
   (some false)) fun b_0 =>
  some [(.b b_0)]
noncomputable def F_bigend_Get_L0 : List Dat → Option (List Dat ⊕ List Dat) := fun ds_7 =>
  onN ds_7 fun bn_1 ds_8 =>
  onL ds_8 fun bl_1 ds_9 =>
  onI ds_9 fun vat_0 ds_10 =>
  onI ds_10 fun size_1 ds_11 =>
  onI ds_11 fun x_1 ds_12 =>
  onI ds_12 fun i_0 ds_13 =>
  bif (decide (i_0 < size_1)) then (bif (decide ((0 ≤ (i64 (vat_0 + i_0))) ∧ ((i64 (vat_0 + i_0)) < ((bn_1 : Nat) : Int)))) then (Option.bind (asI .u8 (bl_1)[((i64 (vat_0 + i_0))).toNat]?) fun x_2 =>
   some (.inl [(.n bn_1), (.l bl_1), (.i vat_0), (.i size_1), (.i (arith .or .i64 (arith .shl .i64 x_1 8) (i64 x_2))), (.i (i64 (i_0 + 1)))])) else none) else
  (Option.map .inr (some [(.i x_1), (.i 0)]))
noncomputable def F_bigend_Get : List Dat → Option (List Dat) := fun ds_0 =>
  onN ds_0 fun bn_0 ds_1 =>
  onL ds_1 fun bl_0 ds_2 =>
  onI ds_2 fun at_0 ds_3 =>
  onI ds_3 fun size_0 ds_4 =>
  Option.bind (F_bigend_isSize [(.i size_0)]) fun r_0 =>
  onB r_0 fun b_0 ds_5 =>
  bif (!b_0) then (some [(.i 0), (.i 2)]) else
  (Option.bind (F_bigend_inside [(.n bn_0), (.l bl_0), (.i at_0), (.i size_0)]) fun r_1 =>
   onB r_1 fun b_1 ds_6 =>
   bif (!b_1) then (some [(.i 0), (.i 19)]) else
   (bif (decide ((0 ≤ at_0) ∧ (at_0 < ((bn_0 : Nat) : Int)))) then (Option.bind (asI .u8 (bl_0)[(at_0).toNat]?) fun x_0 =>
    iter F_bigend_Get_L0 [(.n bn_0), (.l bl_0), (.i at_0), (.i size_0), (.i (i64 (i8 x_0))), (.i 1)]) else none))
noncomputable def F_slices_Clonebyte_byte__nil : List Dat → Option (List Dat) := fun ds_0 =>
  some [(.n 0), (.l [])]
noncomputable def F_slices_Clonebyte_byte__empty : List Dat → Option (List Dat) := fun ds_0 =>
  some [(.n 0), (.l [])]
noncomputable def F_slices_Clonebyte_byte__list : List Dat → Option (List Dat) := fun ds_0 =>
  onN ds_0 fun sn_0 ds_1 =>
  onL ds_1 fun sl_0 ds_2 =>
  bif (decide ((sl_0).length = sn_0)) then (bif (decide (sn_0 ≤ 0)) then (bif (decide ((0 + sn_0) ≤ 0)) then (bif (decide ((sl_0).length = sn_0)) then (bif (decide ((0 + (sn_0 * 1)) ≤ ((Ax.write [] 0 sl_0)).length)) then (bif (List.all (List.take (sn_0 * 1) (List.drop 0 (Ax.write [] 0 sl_0))) (Ax.closedN 20)) then (some [(.n sn_0), (.l (List.take (sn_0 * 1) (List.drop 0 (Ax.write [] 0 sl_0))))]) else
    (none)) else
   (none)) else none) else none) else
  (bif (decide ((sn_0 * 1) ≤ 140737488355328)) then (bif (decide ((0 + (sn_0 * 1)) ≤ (([] ++ sl_0)).length)) then (bif (List.all (List.take (sn_0 * 1) (List.drop 0 ([] ++ sl_0))) (Ax.closedN 20)) then (some [(.n sn_0), (.l (List.take (sn_0 * 1) (List.drop 0 ([] ++ sl_0))))]) else
    (none)) else
   (none)) else none)) else none
noncomputable def F_slices_Clonebyte_byte_ : List Dat → Option (List Dat) := seq3 (.seq) F_slices_Clonebyte_byte__list
noncomputable def F_bigend_Bytes : List Dat → Option (List Dat) := fun ds_0 =>
  onN ds_0 fun bn_0 ds_1 =>
  onL ds_1 fun bl_0 ds_2 =>
  onI ds_2 fun at_0 ds_3 =>
  onI ds_3 fun n_0 ds_4 =>
  bif (decide (n_0 < 0)) then (some [(.n 0), (.l []), (.i 2)]) else
  (Option.bind (F_bigend_inside [(.n bn_0), (.l bl_0), (.i at_0), (.i n_0)]) fun r_0 =>
   onB r_0 fun b_0 ds_5 =>
   bif (!b_0) then (some [(.n 0), (.l []), (.i 19)]) else
   (bif (decide ((0 ≤ (i64 (at_0 + n_0))) ∧ ((i64 (at_0 + n_0)) ≤ ((bn_0 : Nat) : Int)))) then (bif (decide ((0 ≤ at_0) ∧ (at_0 ≤ ((((i64 (at_0 + n_0))).toNat : Nat) : Int)))) then (bif (decide (((at_0).toNat + (((i64 (at_0 + n_0))).toNat - (at_0).toNat)) ≤ (bl_0).length)) then (Option.bind (F_slices_Clonebyte_byte_ [(.n (((i64 (at_0 + n_0))).toNat - (at_0).toNat)), (.l (List.take (((i64 (at_0 + n_0))).toNat - (at_0).toNat) (List.drop (at_0).toNat bl_0)))]) fun r_1 =>
    onN r_1 fun n_1 ds_6 =>
    onL ds_6 fun l_0 ds_7 =>
    some [(.n n_1), (.l l_0), (.i 0)]) else none) else none) else none))
noncomputable def F_bytes_Equal : List Dat → Option (List Dat) := fun ds_0 =>
  onN ds_0 fun an_0 ds_1 =>
  onL ds_1 fun al_0 ds_2 =>
  onN ds_2 fun bn_0 ds_3 =>
  onL ds_3 fun bl_0 ds_4 =>
  Option.bind (bif (decide ((al_0).length = an_0)) then (Option.bind (bytesOf al_0) fun s_0 =>
   bif (decide ((bl_0).length = bn_0)) then (Option.bind (bytesOf bl_0) fun s_1 =>
   bif (s_0 == s_1) then (some true) else
   (some false)) else none) else none) fun b_0 =>
  some [(.b b_0)]
noncomputable def F_law41_works : List Dat → Option (List Dat) := fun _ => some [.b true]
noncomputable def F_law41_BigendParts : List Dat → Option (List Dat) := fun ds_0 =>
  onI ds_0 fun x_0 ds_1 =>
  Option.bind (F_bigend_Put [(.n 0), (.l []), (.i 8), (.i x_0)]) fun r_0 =>
  onN r_0 fun n_0 ds_2 =>
  onL ds_2 fun l_0 ds_3 =>
  onI ds_3 fun i_0 ds_4 =>
  Option.bind (bif (!decide (i_0 = 0)) then (some true) else
   (bif (!decide (((n_0 : Nat) : Int) = 8)) then (some true) else
    (some false))) fun b_0 =>
  bif b_0 then (some [(.b false)]) else
  (Option.bind (F_bigend_Get [(.n n_0), (.l l_0), (.i 0), (.i 4)]) fun r_1 =>
   onI r_1 fun i_1 ds_5 =>
   onI ds_5 fun i_2 ds_6 =>
   Option.bind (F_bigend_Get [(.n n_0), (.l l_0), (.i 4), (.i 4)]) fun r_2 =>
   onI r_2 fun i_3 ds_7 =>
   onI ds_7 fun i_4 ds_8 =>
   Option.bind (bif (!decide (i_2 = 0)) then (some true) else
    (bif (!decide (i_4 = 0)) then (some true) else
     (bif (!decide (i_1 = (arith .shr .i64 x_0 32))) then (some true) else
      (bif (!decide ((u32 i_3) = (u32 x_0))) then (some true) else
       (some false))))) fun b_1 =>
   bif b_1 then (some [(.b false)]) else
   (Option.bind (F_bigend_Get [(.n n_0), (.l l_0), (.i 0), (.i 1)]) fun r_3 =>
    onI r_3 fun i_5 ds_9 =>
    onI ds_9 fun i_6 ds_10 =>
    Option.bind (F_bigend_Bytes [(.n n_0), (.l l_0), (.i 0), (.i 1)]) fun r_4 =>
    onN r_4 fun n_1 ds_11 =>
    onL ds_11 fun l_1 ds_12 =>
    onI ds_12 fun i_7 ds_13 =>
    bif (!decide (i_6 = 0)) then (some [(.b false)]) else
    (bif (!decide (i_7 = 0)) then (some [(.b false)]) else
     (bif (!decide (((n_1 : Nat) : Int) = 1)) then (some [(.b false)]) else
      (bif (decide (((0 : Int) ≤ 0) ∧ (0 < ((n_1 : Nat) : Int)))) then (Option.bind (asI .u8 (l_1)[0]?) fun x_1 =>
       bif (!decide (x_1 = (u8 (arith .shr .i64 x_0 56)))) then (some [(.b false)]) else
       (bif (decide (((0 : Int) ≤ 0) ∧ (0 < ((n_1 : Nat) : Int)))) then (Option.bind (asI .u8 (l_1)[0]?) fun x_2 =>
        bif (!decide ((u8 i_5) = x_2)) then (some [(.b false)]) else
        (Option.bind (F_bigend_Get [(.n n_0), (.l l_0), (.i 1), (.i 1)]) fun r_5 =>
         onI r_5 fun i_8 ds_14 =>
         onI ds_14 fun i_9 ds_15 =>
         Option.bind (F_bigend_Bytes [(.n n_0), (.l l_0), (.i 1), (.i 1)]) fun r_6 =>
         onN r_6 fun n_2 ds_16 =>
         onL ds_16 fun l_2 ds_17 =>
         onI ds_17 fun i_10 ds_18 =>
         bif (!decide (i_9 = 0)) then (some [(.b false)]) else
         (bif (!decide (i_10 = 0)) then (some [(.b false)]) else
          (bif (!decide (((n_2 : Nat) : Int) = 1)) then (some [(.b false)]) else
           (bif (decide (((0 : Int) ≤ 0) ∧ (0 < ((n_2 : Nat) : Int)))) then (Option.bind (asI .u8 (l_2)[0]?) fun x_3 =>
            bif (!decide (x_3 = (u8 (arith .shr .i64 x_0 48)))) then (some [(.b false)]) else
            (bif (decide (((0 : Int) ≤ 0) ∧ (0 < ((n_2 : Nat) : Int)))) then (Option.bind (asI .u8 (l_2)[0]?) fun x_4 =>
             bif (!decide ((u8 i_8) = x_4)) then (some [(.b false)]) else
             (Option.bind (F_bigend_Get [(.n n_0), (.l l_0), (.i 2), (.i 1)]) fun r_7 =>
              onI r_7 fun i_11 ds_19 =>
              onI ds_19 fun i_12 ds_20 =>
              Option.bind (F_bigend_Bytes [(.n n_0), (.l l_0), (.i 2), (.i 1)]) fun r_8 =>
              onN r_8 fun n_3 ds_21 =>
              onL ds_21 fun l_3 ds_22 =>
              onI ds_22 fun i_13 ds_23 =>
              bif (!decide (i_12 = 0)) then (some [(.b false)]) else
              (bif (!decide (i_13 = 0)) then (some [(.b false)]) else
               (bif (!decide (((n_3 : Nat) : Int) = 1)) then (some [(.b false)]) else
                (bif (decide (((0 : Int) ≤ 0) ∧ (0 < ((n_3 : Nat) : Int)))) then (Option.bind (asI .u8 (l_3)[0]?) fun x_5 =>
                 bif (!decide (x_5 = (u8 (arith .shr .i64 x_0 40)))) then (some [(.b false)]) else
                 (bif (decide (((0 : Int) ≤ 0) ∧ (0 < ((n_3 : Nat) : Int)))) then (Option.bind (asI .u8 (l_3)[0]?) fun x_6 =>
                  bif (!decide ((u8 i_11) = x_6)) then (some [(.b false)]) else
                  (Option.bind (F_bigend_Get [(.n n_0), (.l l_0), (.i 3), (.i 1)]) fun r_9 =>
                   onI r_9 fun i_14 ds_24 =>
                   onI ds_24 fun i_15 ds_25 =>
                   Option.bind (F_bigend_Bytes [(.n n_0), (.l l_0), (.i 3), (.i 1)]) fun r_10 =>
                   onN r_10 fun n_4 ds_26 =>
                   onL ds_26 fun l_4 ds_27 =>
                   onI ds_27 fun i_16 ds_28 =>
                   bif (!decide (i_15 = 0)) then (some [(.b false)]) else
                   (bif (!decide (i_16 = 0)) then (some [(.b false)]) else
                    (bif (!decide (((n_4 : Nat) : Int) = 1)) then (some [(.b false)]) else
                     (bif (decide (((0 : Int) ≤ 0) ∧ (0 < ((n_4 : Nat) : Int)))) then (Option.bind (asI .u8 (l_4)[0]?) fun x_7 =>
                      bif (!decide (x_7 = (u8 (arith .shr .i64 x_0 32)))) then (some [(.b false)]) else
                      (bif (decide (((0 : Int) ≤ 0) ∧ (0 < ((n_4 : Nat) : Int)))) then (Option.bind (asI .u8 (l_4)[0]?) fun x_8 =>
                       bif (!decide ((u8 i_14) = x_8)) then (some [(.b false)]) else
                       (Option.bind (F_bigend_Get [(.n n_0), (.l l_0), (.i 4), (.i 1)]) fun r_11 =>
                        onI r_11 fun i_17 ds_29 =>
                        onI ds_29 fun i_18 ds_30 =>
                        Option.bind (F_bigend_Bytes [(.n n_0), (.l l_0), (.i 4), (.i 1)]) fun r_12 =>
                        onN r_12 fun n_5 ds_31 =>
                        onL ds_31 fun l_5 ds_32 =>
                        onI ds_32 fun i_19 ds_33 =>
                        bif (!decide (i_18 = 0)) then (some [(.b false)]) else
                        (bif (!decide (i_19 = 0)) then (some [(.b false)]) else
                         (bif (!decide (((n_5 : Nat) : Int) = 1)) then (some [(.b false)]) else
                          (bif (decide (((0 : Int) ≤ 0) ∧ (0 < ((n_5 : Nat) : Int)))) then (Option.bind (asI .u8 (l_5)[0]?) fun x_9 =>
                           bif (!decide (x_9 = (u8 (arith .shr .i64 x_0 24)))) then (some [(.b false)]) else
                           (bif (decide (((0 : Int) ≤ 0) ∧ (0 < ((n_5 : Nat) : Int)))) then (Option.bind (asI .u8 (l_5)[0]?) fun x_10 =>
                            bif (!decide ((u8 i_17) = x_10)) then (some [(.b false)]) else
                            (Option.bind (F_bigend_Get [(.n n_0), (.l l_0), (.i 5), (.i 1)]) fun r_13 =>
                             onI r_13 fun i_20 ds_34 =>
                             onI ds_34 fun i_21 ds_35 =>
                             Option.bind (F_bigend_Bytes [(.n n_0), (.l l_0), (.i 5), (.i 1)]) fun r_14 =>
                             onN r_14 fun n_6 ds_36 =>
                             onL ds_36 fun l_6 ds_37 =>
                             onI ds_37 fun i_22 ds_38 =>
                             bif (!decide (i_21 = 0)) then (some [(.b false)]) else
                             (bif (!decide (i_22 = 0)) then (some [(.b false)]) else
                              (bif (!decide (((n_6 : Nat) : Int) = 1)) then (some [(.b false)]) else
                               (bif (decide (((0 : Int) ≤ 0) ∧ (0 < ((n_6 : Nat) : Int)))) then (Option.bind (asI .u8 (l_6)[0]?) fun x_11 =>
                                bif (!decide (x_11 = (u8 (arith .shr .i64 x_0 16)))) then (some [(.b false)]) else
                                (bif (decide (((0 : Int) ≤ 0) ∧ (0 < ((n_6 : Nat) : Int)))) then (Option.bind (asI .u8 (l_6)[0]?) fun x_12 =>
                                 bif (!decide ((u8 i_20) = x_12)) then (some [(.b false)]) else
                                 (Option.bind (F_bigend_Get [(.n n_0), (.l l_0), (.i 6), (.i 1)]) fun r_15 =>
                                  onI r_15 fun i_23 ds_39 =>
                                  onI ds_39 fun i_24 ds_40 =>
                                  Option.bind (F_bigend_Bytes [(.n n_0), (.l l_0), (.i 6), (.i 1)]) fun r_16 =>
                                  onN r_16 fun n_7 ds_41 =>
                                  onL ds_41 fun l_7 ds_42 =>
                                  onI ds_42 fun i_25 ds_43 =>
                                  bif (!decide (i_24 = 0)) then (some [(.b false)]) else
                                  (bif (!decide (i_25 = 0)) then (some [(.b false)]) else
                                   (bif (!decide (((n_7 : Nat) : Int) = 1)) then (some [(.b false)]) else
                                    (bif (decide (((0 : Int) ≤ 0) ∧ (0 < ((n_7 : Nat) : Int)))) then (Option.bind (asI .u8 (l_7)[0]?) fun x_13 =>
                                     bif (!decide (x_13 = (u8 (arith .shr .i64 x_0 8)))) then (some [(.b false)]) else
                                     (bif (decide (((0 : Int) ≤ 0) ∧ (0 < ((n_7 : Nat) : Int)))) then (Option.bind (asI .u8 (l_7)[0]?) fun x_14 =>
                                      bif (!decide ((u8 i_23) = x_14)) then (some [(.b false)]) else
                                      (Option.bind (F_bigend_Get [(.n n_0), (.l l_0), (.i 7), (.i 1)]) fun r_17 =>
                                       onI r_17 fun i_26 ds_44 =>
                                       onI ds_44 fun i_27 ds_45 =>
                                       Option.bind (F_bigend_Bytes [(.n n_0), (.l l_0), (.i 7), (.i 1)]) fun r_18 =>
                                       onN r_18 fun n_8 ds_46 =>
                                       onL ds_46 fun l_8 ds_47 =>
                                       onI ds_47 fun i_28 ds_48 =>
                                       bif (!decide (i_27 = 0)) then (some [(.b false)]) else
                                       (bif (!decide (i_28 = 0)) then (some [(.b false)]) else
                                        (bif (!decide (((n_8 : Nat) : Int) = 1)) then (some [(.b false)]) else
                                        (bif (decide (((0 : Int) ≤ 0) ∧ (0 < ((n_8 : Nat) : Int)))) then (Option.bind (asI .u8 (l_8)[0]?) fun x_15 =>
                                        bif (!decide (x_15 = (u8 (arith .shr .i64 x_0 0)))) then (some [(.b false)]) else
                                        (bif (decide (((0 : Int) ≤ 0) ∧ (0 < ((n_8 : Nat) : Int)))) then (Option.bind (asI .u8 (l_8)[0]?) fun x_16 =>
                                        bif (!decide ((u8 i_26) = x_16)) then (some [(.b false)]) else
                                        (Option.bind (F_law41_works []) fun r_19 =>
                                        onB r_19 fun b_2 ds_49 =>
                                        some [(.b b_2)])) else none)) else none))))) else none)) else none))))) else none)) else none))))) else none)) else none))))) else none)) else none))))) else none)) else none))))) else none)) else none))))) else none)) else none)))))
end Go.Proofs.Ytljbgkfoljjgbaa
