/-
  The functions of plain data that the laws of this group reach, as the program has them.
-/
import Derived.Test.YtdpednaafficmaaDoorAx33
import Derived.Test.YtdpednaafficmaaDoorAx36
import Derived.Test.YtdpednaafficmaaDoorAx37
import Derived.Test.YtdpednaafficmaaDoorAx39
import Derived.Test.YtdpednaafficmaaDoorAx40
import Derived.Test.YtdpednaafficmaaDoorHBuilder
import Derived.Test.YtdpednaafficmaaDoorHIdxAny
import Derived.Test.YtdpednaafficmaaDoorHWordFind
namespace Go.Proofs.YtdpednaafficmaaDoor
open Go.Ax
set_option linter.all false
set_option maxRecDepth 100000
noncomputable def F_law09_Made : List Dat → Option (List Dat) := fun ds_0 =>
  onI ds_0 fun kind_0 ds_1 =>
  onI ds_1 fun week_0 ds_2 =>
  onI ds_2 fun day_0 ds_3 =>
  bif (decide ((i64 (1 + (i64 (Int.tmod kind_0 4)))) = 1)) then (some [(.i (i64 (1 + (i64 (Int.tmod kind_0 4))))), (.i 0), (.i (i64 (1 + (i64 (Int.tmod day_0 31)))))]) else
  (bif (decide ((i64 (1 + (i64 (Int.tmod kind_0 4)))) = 2)) then (some [(.i (i64 (1 + (i64 (Int.tmod kind_0 4))))), (.i (i64 (Int.tmod week_0 7))), (.i 0)]) else
   (some [(.i (i64 (1 + (i64 (Int.tmod kind_0 4))))), (.i (i64 (Int.tmod week_0 7))), (.i (i64 (1 + (i64 (Int.tmod day_0 31)))))]))
noncomputable def F_dayform_dayOf : List Dat → Option (List Dat) := fun ds_0 =>
  onI ds_0 fun d_0 ds_1 =>
  onI ds_1 fun d_1 ds_2 =>
  onI ds_2 fun d_2 ds_3 =>
  onI ds_3 fun first_0 ds_4 =>
  some [(.i (i64 ((i64 (first_0 + d_2)) - 1)))]
noncomputable def F_civil_Weekday : List Dat → Option (List Dat) := fun ds_0 =>
  onI ds_0 fun days_0 ds_1 =>
  some [(.i (Int.tmod (i64 ((i64 ((Int.tmod days_0 7) + 7)) + 4)) 7))]
noncomputable def F_dayform_back : List Dat → Option (List Dat) := fun ds_0 =>
  onI ds_0 fun week_0 ds_1 =>
  onI ds_1 fun day_0 ds_2 =>
  Option.bind (F_civil_Weekday [(.i day_0)]) fun r_0 =>
  onI r_0 fun i_0 ds_3 =>
  some [(.i (Int.tmod (i64 ((i64 (i_0 - week_0)) + 7)) 7))]
noncomputable def F_dayform_kinds : List Dat → Option (List Dat) := fun ds_0 =>
  some [(.b false), (.b false), (.b false), (.b true), (.b true), (.b false), (.b true), (.b true), (.b true), (.b true)]
noncomputable def F_dayform_Check : List Dat → Option (List Dat) := fun ds_0 =>
  onI ds_0 fun d_0 ds_1 =>
  onI ds_1 fun d_1 ds_2 =>
  onI ds_2 fun d_2 ds_3 =>
  Option.bind (bif (decide (d_0 < 1)) then (some true) else
   (bif (decide (4 < d_0)) then (some true) else
    (some false))) fun b_0 =>
  bif b_0 then (some [(.i 2)]) else
  (Option.bind (F_dayform_kinds []) fun r_0 =>
   onB r_0 fun b_1 ds_4 =>
   onB ds_4 fun b_2 ds_5 =>
   onB ds_5 fun b_3 ds_6 =>
   onB ds_6 fun b_4 ds_7 =>
   onB ds_7 fun b_5 ds_8 =>
   onB ds_8 fun b_6 ds_9 =>
   onB ds_9 fun b_7 ds_10 =>
   onB ds_10 fun b_8 ds_11 =>
   onB ds_11 fun b_9 ds_12 =>
   onB ds_12 fun b_10 ds_13 =>
   bif (decide ((0 ≤ d_0) ∧ (d_0 < 5))) then (bif (decide (d_0 = 4)) then (Option.bind (bif b_9 then (bif (decide (d_1 < 0)) then (some true) else
      (bif (decide (6 < d_1)) then (some true) else
       (bif (!b_9) then (bif (!decide (d_1 = 0)) then (some true) else
         (some false)) else
        (some false)))) else
     (bif (!b_9) then (bif (!decide (d_1 = 0)) then (some true) else
       (some false)) else
      (some false))) fun b_11 =>
    bif b_11 then (some [(.i 2)]) else
    (Option.bind (bif b_10 then (bif (decide (d_2 < 1)) then (some true) else
       (bif (decide (31 < d_2)) then (some true) else
        (bif (!b_10) then (bif (!decide (d_2 = 0)) then (some true) else
          (some false)) else
         (some false)))) else
      (bif (!b_10) then (bif (!decide (d_2 = 0)) then (some true) else
        (some false)) else
       (some false))) fun b_12 =>
     bif b_12 then (some [(.i 2)]) else
     (some [(.i 0)]))) else
   (bif (decide (d_0 = 3)) then (Option.bind (bif b_7 then (bif (decide (d_1 < 0)) then (some true) else
       (bif (decide (6 < d_1)) then (some true) else
        (bif (!b_7) then (bif (!decide (d_1 = 0)) then (some true) else
          (some false)) else
         (some false)))) else
      (bif (!b_7) then (bif (!decide (d_1 = 0)) then (some true) else
        (some false)) else
       (some false))) fun b_13 =>
     bif b_13 then (some [(.i 2)]) else
     (Option.bind (bif b_8 then (bif (decide (d_2 < 1)) then (some true) else
        (bif (decide (31 < d_2)) then (some true) else
         (bif (!b_8) then (bif (!decide (d_2 = 0)) then (some true) else
           (some false)) else
          (some false)))) else
       (bif (!b_8) then (bif (!decide (d_2 = 0)) then (some true) else
         (some false)) else
        (some false))) fun b_14 =>
      bif b_14 then (some [(.i 2)]) else
      (some [(.i 0)]))) else
    (bif (decide (d_0 = 2)) then (Option.bind (bif b_5 then (bif (decide (d_1 < 0)) then (some true) else
        (bif (decide (6 < d_1)) then (some true) else
         (bif (!b_5) then (bif (!decide (d_1 = 0)) then (some true) else
           (some false)) else
          (some false)))) else
       (bif (!b_5) then (bif (!decide (d_1 = 0)) then (some true) else
         (some false)) else
        (some false))) fun b_15 =>
      bif b_15 then (some [(.i 2)]) else
      (Option.bind (bif b_6 then (bif (decide (d_2 < 1)) then (some true) else
         (bif (decide (31 < d_2)) then (some true) else
          (bif (!b_6) then (bif (!decide (d_2 = 0)) then (some true) else
            (some false)) else
           (some false)))) else
        (bif (!b_6) then (bif (!decide (d_2 = 0)) then (some true) else
          (some false)) else
         (some false))) fun b_16 =>
       bif b_16 then (some [(.i 2)]) else
       (some [(.i 0)]))) else
     (bif (decide (d_0 = 1)) then (Option.bind (bif b_3 then (bif (decide (d_1 < 0)) then (some true) else
         (bif (decide (6 < d_1)) then (some true) else
          (bif (!b_3) then (bif (!decide (d_1 = 0)) then (some true) else
            (some false)) else
           (some false)))) else
        (bif (!b_3) then (bif (!decide (d_1 = 0)) then (some true) else
          (some false)) else
         (some false))) fun b_17 =>
       bif b_17 then (some [(.i 2)]) else
       (Option.bind (bif b_4 then (bif (decide (d_2 < 1)) then (some true) else
          (bif (decide (31 < d_2)) then (some true) else
           (bif (!b_4) then (bif (!decide (d_2 = 0)) then (some true) else
             (some false)) else
            (some false)))) else
         (bif (!b_4) then (bif (!decide (d_2 = 0)) then (some true) else
           (some false)) else
          (some false))) fun b_18 =>
        bif b_18 then (some [(.i 2)]) else
        (some [(.i 0)]))) else
      (bif (decide (d_0 = 0)) then (Option.bind (bif b_1 then (bif (decide (d_1 < 0)) then (some true) else
          (bif (decide (6 < d_1)) then (some true) else
           (bif (!b_1) then (bif (!decide (d_1 = 0)) then (some true) else
             (some false)) else
            (some false)))) else
         (bif (!b_1) then (bif (!decide (d_1 = 0)) then (some true) else
           (some false)) else
          (some false))) fun b_19 =>
        bif b_19 then (some [(.i 2)]) else
        (Option.bind (bif b_2 then (bif (decide (d_2 < 1)) then (some true) else
           (bif (decide (31 < d_2)) then (some true) else
            (bif (!b_2) then (bif (!decide (d_2 = 0)) then (some true) else
              (some false)) else
             (some false)))) else
          (bif (!b_2) then (bif (!decide (d_2 = 0)) then (some true) else
            (some false)) else
           (some false))) fun b_20 =>
         bif b_20 then (some [(.i 2)]) else
         (some [(.i 0)]))) else
       (none)))))) else none)
noncomputable def F_word_short : List Dat → Option (List Dat) := fun ds_0 =>
  onS ds_0 fun l_0 ds_1 =>
  onS ds_1 fun l_1 ds_2 =>
  onS ds_2 fun l_2 ds_3 =>
  onS ds_3 fun l_3 ds_4 =>
  onS ds_4 fun l_4 ds_5 =>
  onS ds_5 fun l_5 ds_6 =>
  onS ds_6 fun l_6 ds_7 =>
  onS ds_7 fun l_7 ds_8 =>
  onS ds_8 fun l_8 ds_9 =>
  onS ds_9 fun l_9 ds_10 =>
  onS ds_10 fun l_10 ds_11 =>
  onS ds_11 fun l_11 ds_12 =>
  onI ds_12 fun i_0 ds_13 =>
  Option.bind (bif (decide (i_0 < 0)) then (some true) else
   (bif (decide (12 ≤ i_0)) then (some true) else
    (bif (decide ((0 ≤ i_0) ∧ (i_0 < 12))) then (Option.bind (asS ([(Ax.AV.str (Ax.S.sym l_0)), (Ax.AV.str (Ax.S.sym l_1)), (Ax.AV.str (Ax.S.sym l_2)), (Ax.AV.str (Ax.S.sym l_3)), (Ax.AV.str (Ax.S.sym l_4)), (Ax.AV.str (Ax.S.sym l_5)), (Ax.AV.str (Ax.S.sym l_6)), (Ax.AV.str (Ax.S.sym l_7)), (Ax.AV.str (Ax.S.sym l_8)), (Ax.AV.str (Ax.S.sym l_9)), (Ax.AV.str (Ax.S.sym l_10)), (Ax.AV.str (Ax.S.sym l_11))])[(i_0).toNat]?) fun s_0 =>
     bif (s_0 == ([] : List UInt8)) then (some true) else
     (some false)) else none))) fun b_0 =>
  bif b_0 then (some [(.s ([] : List UInt8))]) else
  (bif (decide ((0 ≤ i_0) ∧ (i_0 < 12))) then (Option.bind (asS ([(Ax.AV.str (Ax.S.sym l_0)), (Ax.AV.str (Ax.S.sym l_1)), (Ax.AV.str (Ax.S.sym l_2)), (Ax.AV.str (Ax.S.sym l_3)), (Ax.AV.str (Ax.S.sym l_4)), (Ax.AV.str (Ax.S.sym l_5)), (Ax.AV.str (Ax.S.sym l_6)), (Ax.AV.str (Ax.S.sym l_7)), (Ax.AV.str (Ax.S.sym l_8)), (Ax.AV.str (Ax.S.sym l_9)), (Ax.AV.str (Ax.S.sym l_10)), (Ax.AV.str (Ax.S.sym l_11))])[(i_0).toNat]?) fun s_1 =>
   bif (decide (((0 : Int) ≤ 0) ∧ (0 < (((s_1).length : Nat) : Int)))) then (bif (decide ((0 ≤ i_0) ∧ (i_0 < 12))) then (Option.bind (asS ([(Ax.AV.str (Ax.S.sym l_0)), (Ax.AV.str (Ax.S.sym l_1)), (Ax.AV.str (Ax.S.sym l_2)), (Ax.AV.str (Ax.S.sym l_3)), (Ax.AV.str (Ax.S.sym l_4)), (Ax.AV.str (Ax.S.sym l_5)), (Ax.AV.str (Ax.S.sym l_6)), (Ax.AV.str (Ax.S.sym l_7)), (Ax.AV.str (Ax.S.sym l_8)), (Ax.AV.str (Ax.S.sym l_9)), (Ax.AV.str (Ax.S.sym l_10)), (Ax.AV.str (Ax.S.sym l_11))])[(i_0).toNat]?) fun s_2 =>
   bif (decide (((0 : Int) ≤ 3) ∧ (3 ≤ (((s_2).length : Nat) : Int)))) then (bif (decide ((((Array.toList (ByteArray.data (Go.Utf8.encode (u8 ((u8 (((((List.getD s_1 0 0)).toNat : Nat) : Int) - 97)) + 65)))))).length + ((List.take 2 (List.drop 1 s_2))).length) ≤ 9223372036854775807)) then (some [(.s ((Array.toList (ByteArray.data (Go.Utf8.encode (u8 ((u8 (((((List.getD s_1 0 0)).toNat : Nat) : Int) - 97)) + 65))))) ++ (List.take 2 (List.drop 1 s_2))))]) else none) else none) else none) else none) else none)
noncomputable def F_word_WeekText : List Dat → Option (List Dat) := fun ds_0 =>
  onI ds_0 fun w_0 ds_1 =>
  Option.bind (F_word_short [(.s ([115, 117, 110, 100, 97, 121] : List UInt8)), (.s ([109, 111, 110, 100, 97, 121] : List UInt8)), (.s ([116, 117, 101, 115, 100, 97, 121] : List UInt8)), (.s ([119, 101, 100, 110, 101, 115, 100, 97, 121] : List UInt8)), (.s ([116, 104, 117, 114, 115, 100, 97, 121] : List UInt8)), (.s ([102, 114, 105, 100, 97, 121] : List UInt8)), (.s ([115, 97, 116, 117, 114, 100, 97, 121] : List UInt8)), (.s ([] : List UInt8)), (.s ([] : List UInt8)), (.s ([] : List UInt8)), (.s ([] : List UInt8)), (.s ([] : List UInt8)), (.i w_0)]) fun r_0 =>
  onS r_0 fun s_0 ds_2 =>
  some [(.s s_0)]
noncomputable def F_internal_strconv_small : List Dat → Option (List Dat) := fun ds_0 =>
  onI ds_0 fun i_0 ds_1 =>
  bif (decide (i_0 < 10)) then (bif (decide ((0 ≤ (i64 (i_0 + 1))) ∧ ((i64 (i_0 + 1)) ≤ 36))) then (bif (decide ((0 ≤ i_0) ∧ (i_0 ≤ ((((i64 (i_0 + 1))).toNat : Nat) : Int)))) then (some [(.s (List.take (((i64 (i_0 + 1))).toNat - (i_0).toNat) (List.drop (i_0).toNat ([48, 49, 50, 51, 52, 53, 54, 55, 56, 57, 97, 98, 99, 100, 101, 102, 103, 104, 105, 106, 107, 108, 109, 110, 111, 112, 113, 114, 115, 116, 117, 118, 119, 120, 121, 122] : List UInt8))))]) else none) else none) else
  (bif (decide ((0 ≤ (i64 ((i64 (i_0 * 2)) + 2))) ∧ ((i64 ((i64 (i_0 * 2)) + 2)) ≤ 200))) then (bif (decide ((0 ≤ (i64 (i_0 * 2))) ∧ ((i64 (i_0 * 2)) ≤ ((((i64 ((i64 (i_0 * 2)) + 2))).toNat : Nat) : Int)))) then (some [(.s (List.take (((i64 ((i64 (i_0 * 2)) + 2))).toNat - ((i64 (i_0 * 2))).toNat) (List.drop ((i64 (i_0 * 2))).toNat ([48, 48, 48, 49, 48, 50, 48, 51, 48, 52, 48, 53, 48, 54, 48, 55, 48, 56, 48, 57, 49, 48, 49, 49, 49, 50, 49, 51, 49, 52, 49, 53, 49, 54, 49, 55, 49, 56, 49, 57, 50, 48, 50, 49, 50, 50, 50, 51, 50, 52, 50, 53, 50, 54, 50, 55, 50, 56, 50, 57, 51, 48, 51, 49, 51, 50, 51, 51, 51, 52, 51, 53, 51, 54, 51, 55, 51, 56, 51, 57, 52, 48, 52, 49, 52, 50, 52, 51, 52, 52, 52, 53, 52, 54, 52, 55, 52, 56, 52, 57, 53, 48, 53, 49, 53, 50, 53, 51, 53, 52, 53, 53, 53, 54, 53, 55, 53, 56, 53, 57, 54, 48, 54, 49, 54, 50, 54, 51, 54, 52, 54, 53, 54, 54, 54, 55, 54, 56, 54, 57, 55, 48, 55, 49, 55, 50, 55, 51, 55, 52, 55, 53, 55, 54, 55, 55, 55, 56, 55, 57, 56, 48, 56, 49, 56, 50, 56, 51, 56, 52, 56, 53, 56, 54, 56, 55, 56, 56, 56, 57, 57, 48, 57, 49, 57, 50, 57, 51, 57, 52, 57, 53, 57, 54, 57, 55, 57, 56, 57, 57] : List UInt8))))]) else none) else none)
noncomputable def F_math_bits_Len64 : List Dat → Option (List Dat) := fun ds_0 =>
  onI ds_0 fun x_0 ds_1 =>
  bif (decide (4294967296 ≤ x_0)) then (bif (decide (65536 ≤ (arith .shr .u64 x_0 32))) then (bif (decide (256 ≤ (arith .shr .u64 (arith .shr .u64 x_0 32) 16))) then (bif (decide ((0 ≤ (u8 (arith .shr .u64 (arith .shr .u64 (arith .shr .u64 x_0 32) 16) 8))) ∧ ((u8 (arith .shr .u64 (arith .shr .u64 (arith .shr .u64 x_0 32) 16) 8)) < 256))) then (some [(.i (i64 (56 + (i64 ((((List.getD ([0, 1, 2, 2, 3, 3, 3, 3, 4, 4, 4, 4, 4, 4, 4, 4, 5, 5, 5, 5, 5, 5, 5, 5, 5, 5, 5, 5, 5, 5, 5, 5, 6, 6, 6, 6, 6, 6, 6, 6, 6, 6, 6, 6, 6, 6, 6, 6, 6, 6, 6, 6, 6, 6, 6, 6, 6, 6, 6, 6, 6, 6, 6, 6, 7, 7, 7, 7, 7, 7, 7, 7, 7, 7, 7, 7, 7, 7, 7, 7, 7, 7, 7, 7, 7, 7, 7, 7, 7, 7, 7, 7, 7, 7, 7, 7, 7, 7, 7, 7, 7, 7, 7, 7, 7, 7, 7, 7, 7, 7, 7, 7, 7, 7, 7, 7, 7, 7, 7, 7, 7, 7, 7, 7, 7, 7, 7, 7, 8, 8, 8, 8, 8, 8, 8, 8, 8, 8, 8, 8, 8, 8, 8, 8, 8, 8, 8, 8, 8, 8, 8, 8, 8, 8, 8, 8, 8, 8, 8, 8, 8, 8, 8, 8, 8, 8, 8, 8, 8, 8, 8, 8, 8, 8, 8, 8, 8, 8, 8, 8, 8, 8, 8, 8, 8, 8, 8, 8, 8, 8, 8, 8, 8, 8, 8, 8, 8, 8, 8, 8, 8, 8, 8, 8, 8, 8, 8, 8, 8, 8, 8, 8, 8, 8, 8, 8, 8, 8, 8, 8, 8, 8, 8, 8, 8, 8, 8, 8, 8, 8, 8, 8, 8, 8, 8, 8, 8, 8, 8, 8, 8, 8, 8, 8, 8, 8, 8, 8, 8, 8, 8, 8, 8, 8, 8, 8] : List UInt8) ((u8 (arith .shr .u64 (arith .shr .u64 (arith .shr .u64 x_0 32) 16) 8))).toNat 0)).toNat : Nat) : Int)))))]) else none) else
    (bif (decide ((0 ≤ (u8 (arith .shr .u64 (arith .shr .u64 x_0 32) 16))) ∧ ((u8 (arith .shr .u64 (arith .shr .u64 x_0 32) 16)) < 256))) then (some [(.i (i64 (48 + (i64 ((((List.getD ([0, 1, 2, 2, 3, 3, 3, 3, 4, 4, 4, 4, 4, 4, 4, 4, 5, 5, 5, 5, 5, 5, 5, 5, 5, 5, 5, 5, 5, 5, 5, 5, 6, 6, 6, 6, 6, 6, 6, 6, 6, 6, 6, 6, 6, 6, 6, 6, 6, 6, 6, 6, 6, 6, 6, 6, 6, 6, 6, 6, 6, 6, 6, 6, 7, 7, 7, 7, 7, 7, 7, 7, 7, 7, 7, 7, 7, 7, 7, 7, 7, 7, 7, 7, 7, 7, 7, 7, 7, 7, 7, 7, 7, 7, 7, 7, 7, 7, 7, 7, 7, 7, 7, 7, 7, 7, 7, 7, 7, 7, 7, 7, 7, 7, 7, 7, 7, 7, 7, 7, 7, 7, 7, 7, 7, 7, 7, 7, 8, 8, 8, 8, 8, 8, 8, 8, 8, 8, 8, 8, 8, 8, 8, 8, 8, 8, 8, 8, 8, 8, 8, 8, 8, 8, 8, 8, 8, 8, 8, 8, 8, 8, 8, 8, 8, 8, 8, 8, 8, 8, 8, 8, 8, 8, 8, 8, 8, 8, 8, 8, 8, 8, 8, 8, 8, 8, 8, 8, 8, 8, 8, 8, 8, 8, 8, 8, 8, 8, 8, 8, 8, 8, 8, 8, 8, 8, 8, 8, 8, 8, 8, 8, 8, 8, 8, 8, 8, 8, 8, 8, 8, 8, 8, 8, 8, 8, 8, 8, 8, 8, 8, 8, 8, 8, 8, 8, 8, 8, 8, 8, 8, 8, 8, 8, 8, 8, 8, 8, 8, 8, 8, 8, 8, 8, 8, 8] : List UInt8) ((u8 (arith .shr .u64 (arith .shr .u64 x_0 32) 16))).toNat 0)).toNat : Nat) : Int)))))]) else none)) else
   (bif (decide (256 ≤ (arith .shr .u64 x_0 32))) then (bif (decide ((0 ≤ (u8 (arith .shr .u64 (arith .shr .u64 x_0 32) 8))) ∧ ((u8 (arith .shr .u64 (arith .shr .u64 x_0 32) 8)) < 256))) then (some [(.i (i64 (40 + (i64 ((((List.getD ([0, 1, 2, 2, 3, 3, 3, 3, 4, 4, 4, 4, 4, 4, 4, 4, 5, 5, 5, 5, 5, 5, 5, 5, 5, 5, 5, 5, 5, 5, 5, 5, 6, 6, 6, 6, 6, 6, 6, 6, 6, 6, 6, 6, 6, 6, 6, 6, 6, 6, 6, 6, 6, 6, 6, 6, 6, 6, 6, 6, 6, 6, 6, 6, 7, 7, 7, 7, 7, 7, 7, 7, 7, 7, 7, 7, 7, 7, 7, 7, 7, 7, 7, 7, 7, 7, 7, 7, 7, 7, 7, 7, 7, 7, 7, 7, 7, 7, 7, 7, 7, 7, 7, 7, 7, 7, 7, 7, 7, 7, 7, 7, 7, 7, 7, 7, 7, 7, 7, 7, 7, 7, 7, 7, 7, 7, 7, 7, 8, 8, 8, 8, 8, 8, 8, 8, 8, 8, 8, 8, 8, 8, 8, 8, 8, 8, 8, 8, 8, 8, 8, 8, 8, 8, 8, 8, 8, 8, 8, 8, 8, 8, 8, 8, 8, 8, 8, 8, 8, 8, 8, 8, 8, 8, 8, 8, 8, 8, 8, 8, 8, 8, 8, 8, 8, 8, 8, 8, 8, 8, 8, 8, 8, 8, 8, 8, 8, 8, 8, 8, 8, 8, 8, 8, 8, 8, 8, 8, 8, 8, 8, 8, 8, 8, 8, 8, 8, 8, 8, 8, 8, 8, 8, 8, 8, 8, 8, 8, 8, 8, 8, 8, 8, 8, 8, 8, 8, 8, 8, 8, 8, 8, 8, 8, 8, 8, 8, 8, 8, 8, 8, 8, 8, 8, 8, 8] : List UInt8) ((u8 (arith .shr .u64 (arith .shr .u64 x_0 32) 8))).toNat 0)).toNat : Nat) : Int)))))]) else none) else
    (bif (decide ((0 ≤ (u8 (arith .shr .u64 x_0 32))) ∧ ((u8 (arith .shr .u64 x_0 32)) < 256))) then (some [(.i (i64 (32 + (i64 ((((List.getD ([0, 1, 2, 2, 3, 3, 3, 3, 4, 4, 4, 4, 4, 4, 4, 4, 5, 5, 5, 5, 5, 5, 5, 5, 5, 5, 5, 5, 5, 5, 5, 5, 6, 6, 6, 6, 6, 6, 6, 6, 6, 6, 6, 6, 6, 6, 6, 6, 6, 6, 6, 6, 6, 6, 6, 6, 6, 6, 6, 6, 6, 6, 6, 6, 7, 7, 7, 7, 7, 7, 7, 7, 7, 7, 7, 7, 7, 7, 7, 7, 7, 7, 7, 7, 7, 7, 7, 7, 7, 7, 7, 7, 7, 7, 7, 7, 7, 7, 7, 7, 7, 7, 7, 7, 7, 7, 7, 7, 7, 7, 7, 7, 7, 7, 7, 7, 7, 7, 7, 7, 7, 7, 7, 7, 7, 7, 7, 7, 8, 8, 8, 8, 8, 8, 8, 8, 8, 8, 8, 8, 8, 8, 8, 8, 8, 8, 8, 8, 8, 8, 8, 8, 8, 8, 8, 8, 8, 8, 8, 8, 8, 8, 8, 8, 8, 8, 8, 8, 8, 8, 8, 8, 8, 8, 8, 8, 8, 8, 8, 8, 8, 8, 8, 8, 8, 8, 8, 8, 8, 8, 8, 8, 8, 8, 8, 8, 8, 8, 8, 8, 8, 8, 8, 8, 8, 8, 8, 8, 8, 8, 8, 8, 8, 8, 8, 8, 8, 8, 8, 8, 8, 8, 8, 8, 8, 8, 8, 8, 8, 8, 8, 8, 8, 8, 8, 8, 8, 8, 8, 8, 8, 8, 8, 8, 8, 8, 8, 8, 8, 8, 8, 8, 8, 8, 8, 8] : List UInt8) ((u8 (arith .shr .u64 x_0 32))).toNat 0)).toNat : Nat) : Int)))))]) else none))) else
  (bif (decide (65536 ≤ x_0)) then (bif (decide (256 ≤ (arith .shr .u64 x_0 16))) then (bif (decide ((0 ≤ (u8 (arith .shr .u64 (arith .shr .u64 x_0 16) 8))) ∧ ((u8 (arith .shr .u64 (arith .shr .u64 x_0 16) 8)) < 256))) then (some [(.i (i64 (24 + (i64 ((((List.getD ([0, 1, 2, 2, 3, 3, 3, 3, 4, 4, 4, 4, 4, 4, 4, 4, 5, 5, 5, 5, 5, 5, 5, 5, 5, 5, 5, 5, 5, 5, 5, 5, 6, 6, 6, 6, 6, 6, 6, 6, 6, 6, 6, 6, 6, 6, 6, 6, 6, 6, 6, 6, 6, 6, 6, 6, 6, 6, 6, 6, 6, 6, 6, 6, 7, 7, 7, 7, 7, 7, 7, 7, 7, 7, 7, 7, 7, 7, 7, 7, 7, 7, 7, 7, 7, 7, 7, 7, 7, 7, 7, 7, 7, 7, 7, 7, 7, 7, 7, 7, 7, 7, 7, 7, 7, 7, 7, 7, 7, 7, 7, 7, 7, 7, 7, 7, 7, 7, 7, 7, 7, 7, 7, 7, 7, 7, 7, 7, 8, 8, 8, 8, 8, 8, 8, 8, 8, 8, 8, 8, 8, 8, 8, 8, 8, 8, 8, 8, 8, 8, 8, 8, 8, 8, 8, 8, 8, 8, 8, 8, 8, 8, 8, 8, 8, 8, 8, 8, 8, 8, 8, 8, 8, 8, 8, 8, 8, 8, 8, 8, 8, 8, 8, 8, 8, 8, 8, 8, 8, 8, 8, 8, 8, 8, 8, 8, 8, 8, 8, 8, 8, 8, 8, 8, 8, 8, 8, 8, 8, 8, 8, 8, 8, 8, 8, 8, 8, 8, 8, 8, 8, 8, 8, 8, 8, 8, 8, 8, 8, 8, 8, 8, 8, 8, 8, 8, 8, 8, 8, 8, 8, 8, 8, 8, 8, 8, 8, 8, 8, 8, 8, 8, 8, 8, 8, 8] : List UInt8) ((u8 (arith .shr .u64 (arith .shr .u64 x_0 16) 8))).toNat 0)).toNat : Nat) : Int)))))]) else none) else
    (bif (decide ((0 ≤ (u8 (arith .shr .u64 x_0 16))) ∧ ((u8 (arith .shr .u64 x_0 16)) < 256))) then (some [(.i (i64 (16 + (i64 ((((List.getD ([0, 1, 2, 2, 3, 3, 3, 3, 4, 4, 4, 4, 4, 4, 4, 4, 5, 5, 5, 5, 5, 5, 5, 5, 5, 5, 5, 5, 5, 5, 5, 5, 6, 6, 6, 6, 6, 6, 6, 6, 6, 6, 6, 6, 6, 6, 6, 6, 6, 6, 6, 6, 6, 6, 6, 6, 6, 6, 6, 6, 6, 6, 6, 6, 7, 7, 7, 7, 7, 7, 7, 7, 7, 7, 7, 7, 7, 7, 7, 7, 7, 7, 7, 7, 7, 7, 7, 7, 7, 7, 7, 7, 7, 7, 7, 7, 7, 7, 7, 7, 7, 7, 7, 7, 7, 7, 7, 7, 7, 7, 7, 7, 7, 7, 7, 7, 7, 7, 7, 7, 7, 7, 7, 7, 7, 7, 7, 7, 8, 8, 8, 8, 8, 8, 8, 8, 8, 8, 8, 8, 8, 8, 8, 8, 8, 8, 8, 8, 8, 8, 8, 8, 8, 8, 8, 8, 8, 8, 8, 8, 8, 8, 8, 8, 8, 8, 8, 8, 8, 8, 8, 8, 8, 8, 8, 8, 8, 8, 8, 8, 8, 8, 8, 8, 8, 8, 8, 8, 8, 8, 8, 8, 8, 8, 8, 8, 8, 8, 8, 8, 8, 8, 8, 8, 8, 8, 8, 8, 8, 8, 8, 8, 8, 8, 8, 8, 8, 8, 8, 8, 8, 8, 8, 8, 8, 8, 8, 8, 8, 8, 8, 8, 8, 8, 8, 8, 8, 8, 8, 8, 8, 8, 8, 8, 8, 8, 8, 8, 8, 8, 8, 8, 8, 8, 8, 8] : List UInt8) ((u8 (arith .shr .u64 x_0 16))).toNat 0)).toNat : Nat) : Int)))))]) else none)) else
   (bif (decide (256 ≤ x_0)) then (bif (decide ((0 ≤ (u8 (arith .shr .u64 x_0 8))) ∧ ((u8 (arith .shr .u64 x_0 8)) < 256))) then (some [(.i (i64 (8 + (i64 ((((List.getD ([0, 1, 2, 2, 3, 3, 3, 3, 4, 4, 4, 4, 4, 4, 4, 4, 5, 5, 5, 5, 5, 5, 5, 5, 5, 5, 5, 5, 5, 5, 5, 5, 6, 6, 6, 6, 6, 6, 6, 6, 6, 6, 6, 6, 6, 6, 6, 6, 6, 6, 6, 6, 6, 6, 6, 6, 6, 6, 6, 6, 6, 6, 6, 6, 7, 7, 7, 7, 7, 7, 7, 7, 7, 7, 7, 7, 7, 7, 7, 7, 7, 7, 7, 7, 7, 7, 7, 7, 7, 7, 7, 7, 7, 7, 7, 7, 7, 7, 7, 7, 7, 7, 7, 7, 7, 7, 7, 7, 7, 7, 7, 7, 7, 7, 7, 7, 7, 7, 7, 7, 7, 7, 7, 7, 7, 7, 7, 7, 8, 8, 8, 8, 8, 8, 8, 8, 8, 8, 8, 8, 8, 8, 8, 8, 8, 8, 8, 8, 8, 8, 8, 8, 8, 8, 8, 8, 8, 8, 8, 8, 8, 8, 8, 8, 8, 8, 8, 8, 8, 8, 8, 8, 8, 8, 8, 8, 8, 8, 8, 8, 8, 8, 8, 8, 8, 8, 8, 8, 8, 8, 8, 8, 8, 8, 8, 8, 8, 8, 8, 8, 8, 8, 8, 8, 8, 8, 8, 8, 8, 8, 8, 8, 8, 8, 8, 8, 8, 8, 8, 8, 8, 8, 8, 8, 8, 8, 8, 8, 8, 8, 8, 8, 8, 8, 8, 8, 8, 8, 8, 8, 8, 8, 8, 8, 8, 8, 8, 8, 8, 8, 8, 8, 8, 8, 8, 8] : List UInt8) ((u8 (arith .shr .u64 x_0 8))).toNat 0)).toNat : Nat) : Int)))))]) else none) else
    (bif (decide ((0 ≤ (u8 x_0)) ∧ ((u8 x_0) < 256))) then (some [(.i (i64 (0 + (i64 ((((List.getD ([0, 1, 2, 2, 3, 3, 3, 3, 4, 4, 4, 4, 4, 4, 4, 4, 5, 5, 5, 5, 5, 5, 5, 5, 5, 5, 5, 5, 5, 5, 5, 5, 6, 6, 6, 6, 6, 6, 6, 6, 6, 6, 6, 6, 6, 6, 6, 6, 6, 6, 6, 6, 6, 6, 6, 6, 6, 6, 6, 6, 6, 6, 6, 6, 7, 7, 7, 7, 7, 7, 7, 7, 7, 7, 7, 7, 7, 7, 7, 7, 7, 7, 7, 7, 7, 7, 7, 7, 7, 7, 7, 7, 7, 7, 7, 7, 7, 7, 7, 7, 7, 7, 7, 7, 7, 7, 7, 7, 7, 7, 7, 7, 7, 7, 7, 7, 7, 7, 7, 7, 7, 7, 7, 7, 7, 7, 7, 7, 8, 8, 8, 8, 8, 8, 8, 8, 8, 8, 8, 8, 8, 8, 8, 8, 8, 8, 8, 8, 8, 8, 8, 8, 8, 8, 8, 8, 8, 8, 8, 8, 8, 8, 8, 8, 8, 8, 8, 8, 8, 8, 8, 8, 8, 8, 8, 8, 8, 8, 8, 8, 8, 8, 8, 8, 8, 8, 8, 8, 8, 8, 8, 8, 8, 8, 8, 8, 8, 8, 8, 8, 8, 8, 8, 8, 8, 8, 8, 8, 8, 8, 8, 8, 8, 8, 8, 8, 8, 8, 8, 8, 8, 8, 8, 8, 8, 8, 8, 8, 8, 8, 8, 8, 8, 8, 8, 8, 8, 8, 8, 8, 8, 8, 8, 8, 8, 8, 8, 8, 8, 8, 8, 8, 8, 8, 8, 8] : List UInt8) ((u8 x_0)).toNat 0)).toNat : Nat) : Int)))))]) else none)))
noncomputable def F_internal_strconv_log10Pow2 : List Dat → Option (List Dat) := fun ds_0 =>
  onI ds_0 fun x_0 ds_1 =>
  some [(.i (arith .shr .i64 (i64 (x_0 * 78913)) 18))]
noncomputable def F_internal_strconv_bool2 : List Dat → Option (List Dat) := fun ds_0 =>
  onB ds_0 fun b_0 ds_1 =>
  bif b_0 then (some [(.i 1)]) else
  (some [(.i 0)])
noncomputable def F_internal_strconv_numDigits : List Dat → Option (List Dat) := fun ds_0 =>
  onI ds_0 fun d_0 ds_1 =>
  Option.bind (F_math_bits_Len64 [(.i d_0)]) fun r_0 =>
  onI r_0 fun i_0 ds_2 =>
  Option.bind (F_internal_strconv_log10Pow2 [(.i i_0)]) fun r_1 =>
  onI r_1 fun i_1 ds_3 =>
  bif (decide ((0 ≤ i_1) ∧ (i_1 < 20))) then (Option.bind (asI .u64 ([(Ax.AV.int .u64 (Ax.I.lit 1)), (Ax.AV.int .u64 (Ax.I.lit 10)), (Ax.AV.int .u64 (Ax.I.lit 100)), (Ax.AV.int .u64 (Ax.I.lit 1000)), (Ax.AV.int .u64 (Ax.I.lit 10000)), (Ax.AV.int .u64 (Ax.I.lit 100000)), (Ax.AV.int .u64 (Ax.I.lit 1000000)), (Ax.AV.int .u64 (Ax.I.lit 10000000)), (Ax.AV.int .u64 (Ax.I.lit 100000000)), (Ax.AV.int .u64 (Ax.I.lit 1000000000)), (Ax.AV.int .u64 (Ax.I.lit 10000000000)), (Ax.AV.int .u64 (Ax.I.lit 100000000000)), (Ax.AV.int .u64 (Ax.I.lit 1000000000000)), (Ax.AV.int .u64 (Ax.I.lit 10000000000000)), (Ax.AV.int .u64 (Ax.I.lit 100000000000000)), (Ax.AV.int .u64 (Ax.I.lit 1000000000000000)), (Ax.AV.int .u64 (Ax.I.lit 10000000000000000)), (Ax.AV.int .u64 (Ax.I.lit 100000000000000000)), (Ax.AV.int .u64 (Ax.I.lit 1000000000000000000)), (Ax.AV.int .u64 (Ax.I.lit 10000000000000000000))])[(i_1).toNat]?) fun x_0 =>
  bif (decide (x_0 ≤ d_0)) then (Option.bind (F_internal_strconv_bool2 [(.b true)]) fun r_2 =>
   onI r_2 fun i_2 ds_4 =>
   some [(.i (i64 (i_1 + i_2)))]) else
  (Option.bind (F_internal_strconv_bool2 [(.b false)]) fun r_3 =>
   onI r_3 fun i_3 ds_5 =>
   some [(.i (i64 (i_1 + i_3)))])) else none
noncomputable def F_internal_strconv_isPowerOfTwo : List Dat → Option (List Dat) := fun ds_0 =>
  onI ds_0 fun x_0 ds_1 =>
  Option.bind (bif (decide ((arith .and .i64 x_0 (i64 (x_0 - 1))) = 0)) then (some true) else
   (some false)) fun b_0 =>
  some [(.b b_0)]
noncomputable def F_internal_strconv_FormatInt_L0 (i_0 : Int) (i_1 : Int) : List Dat → Option (List Dat ⊕ List Dat) := fun ds_4 =>
  onN ds_4 fun an_0 ds_5 =>
  onI ds_5 fun u_0 ds_6 =>
  onI ds_6 fun nd_0 ds_7 =>
  onI ds_7 fun c_0 ds_8 =>
  onI ds_8 fun c_1 ds_9 =>
  onI ds_9 fun c_2 ds_10 =>
  onI ds_10 fun c_3 ds_11 =>
  onI ds_11 fun c_4 ds_12 =>
  onI ds_12 fun c_5 ds_13 =>
  onI ds_13 fun c_6 ds_14 =>
  onI ds_14 fun c_7 ds_15 =>
  onI ds_15 fun c_8 ds_16 =>
  onI ds_16 fun c_9 ds_17 =>
  onI ds_17 fun c_10 ds_18 =>
  onI ds_18 fun c_11 ds_19 =>
  onI ds_19 fun c_12 ds_20 =>
  onI ds_20 fun c_13 ds_21 =>
  onI ds_21 fun c_14 ds_22 =>
  onI ds_22 fun c_15 ds_23 =>
  onI ds_23 fun c_16 ds_24 =>
  onI ds_24 fun c_17 ds_25 =>
  onI ds_25 fun c_18 ds_26 =>
  onI ds_26 fun c_19 ds_27 =>
  onI ds_27 fun c_20 ds_28 =>
  onI ds_28 fun c_21 ds_29 =>
  onI ds_29 fun c_22 ds_30 =>
  onI ds_30 fun c_23 ds_31 =>
  bif (decide (8 ≤ nd_0)) then (bif (decide ((0 ≤ (u32 ((u32 ((Int.tmod (Int.tmod (u32 (Int.tmod u_0 100000000)) 10000) 100) * 2)) + 1))) ∧ ((u32 ((u32 ((Int.tmod (Int.tmod (u32 (Int.tmod u_0 100000000)) 10000) 100) * 2)) + 1)) < 200))) then (bif (decide ((0 ≤ (u32 ((Int.tmod (Int.tmod (u32 (Int.tmod u_0 100000000)) 10000) 100) * 2))) ∧ ((u32 ((Int.tmod (Int.tmod (u32 (Int.tmod u_0 100000000)) 10000) 100) * 2)) < 200))) then (bif (decide ((0 ≤ (i64 (nd_0 - 1))) ∧ ((i64 (nd_0 - 1)) < ((an_0 : Nat) : Int)))) then (none) else none) else none) else none) else
  (Option.map .inr (bif (decide (4 ≤ nd_0)) then (bif (decide ((0 ≤ (u32 ((u32 ((Int.tmod (Int.tmod (u32 u_0) 10000) 100) * 2)) + 1))) ∧ ((u32 ((u32 ((Int.tmod (Int.tmod (u32 u_0) 10000) 100) * 2)) + 1)) < 200))) then (bif (decide ((0 ≤ (u32 ((Int.tmod (Int.tmod (u32 u_0) 10000) 100) * 2))) ∧ ((u32 ((Int.tmod (Int.tmod (u32 u_0) 10000) 100) * 2)) < 200))) then (bif (decide ((0 ≤ (i64 (nd_0 - 1))) ∧ ((i64 (nd_0 - 1)) < ((an_0 : Nat) : Int)))) then (none) else none) else none) else none) else
    (bif (decide (2 ≤ nd_0)) then (bif (decide ((0 ≤ (u32 ((u32 ((Int.tmod (u32 u_0) 100) * 2)) + 1))) ∧ ((u32 ((u32 ((Int.tmod (u32 u_0) 100) * 2)) + 1)) < 200))) then (bif (decide ((0 ≤ (u32 ((Int.tmod (u32 u_0) 100) * 2))) ∧ ((u32 ((Int.tmod (u32 u_0) 100) * 2)) < 200))) then (bif (decide ((0 ≤ (i64 (nd_0 - 1))) ∧ ((i64 (nd_0 - 1)) < ((an_0 : Nat) : Int)))) then (none) else none) else none) else none) else
     (bif (decide (0 < nd_0)) then (bif (decide (((0 : Int) ≤ 0) ∧ (0 < ((an_0 : Nat) : Int)))) then (bif (decide (i_0 < 0)) then (bif (decide ((0 ≤ (i64 (1 + i_1))) ∧ ((i64 (1 + i_1)) ≤ 24))) then (bif (decide ((0 + ((i64 (1 + i_1))).toNat) ≤ ([(Ax.AV.int .u8 (Ax.I.lit 45)), (Ax.AV.int .u8 (Ax.I.sym (u8 (u32 (48 + (u32 u_0)))))), (Ax.AV.int .u8 (Ax.I.sym c_2)), (Ax.AV.int .u8 (Ax.I.sym c_3)), (Ax.AV.int .u8 (Ax.I.sym c_4)), (Ax.AV.int .u8 (Ax.I.sym c_5)), (Ax.AV.int .u8 (Ax.I.sym c_6)), (Ax.AV.int .u8 (Ax.I.sym c_7)), (Ax.AV.int .u8 (Ax.I.sym c_8)), (Ax.AV.int .u8 (Ax.I.sym c_9)), (Ax.AV.int .u8 (Ax.I.sym c_10)), (Ax.AV.int .u8 (Ax.I.sym c_11)), (Ax.AV.int .u8 (Ax.I.sym c_12)), (Ax.AV.int .u8 (Ax.I.sym c_13)), (Ax.AV.int .u8 (Ax.I.sym c_14)), (Ax.AV.int .u8 (Ax.I.sym c_15)), (Ax.AV.int .u8 (Ax.I.sym c_16)), (Ax.AV.int .u8 (Ax.I.sym c_17)), (Ax.AV.int .u8 (Ax.I.sym c_18)), (Ax.AV.int .u8 (Ax.I.sym c_19)), (Ax.AV.int .u8 (Ax.I.sym c_20)), (Ax.AV.int .u8 (Ax.I.sym c_21)), (Ax.AV.int .u8 (Ax.I.sym c_22)), (Ax.AV.int .u8 (Ax.I.sym c_23))]).length)) then (Option.bind (bytesOf (List.take ((i64 (1 + i_1))).toNat (List.drop 0 [(Ax.AV.int .u8 (Ax.I.lit 45)), (Ax.AV.int .u8 (Ax.I.sym (u8 (u32 (48 + (u32 u_0)))))), (Ax.AV.int .u8 (Ax.I.sym c_2)), (Ax.AV.int .u8 (Ax.I.sym c_3)), (Ax.AV.int .u8 (Ax.I.sym c_4)), (Ax.AV.int .u8 (Ax.I.sym c_5)), (Ax.AV.int .u8 (Ax.I.sym c_6)), (Ax.AV.int .u8 (Ax.I.sym c_7)), (Ax.AV.int .u8 (Ax.I.sym c_8)), (Ax.AV.int .u8 (Ax.I.sym c_9)), (Ax.AV.int .u8 (Ax.I.sym c_10)), (Ax.AV.int .u8 (Ax.I.sym c_11)), (Ax.AV.int .u8 (Ax.I.sym c_12)), (Ax.AV.int .u8 (Ax.I.sym c_13)), (Ax.AV.int .u8 (Ax.I.sym c_14)), (Ax.AV.int .u8 (Ax.I.sym c_15)), (Ax.AV.int .u8 (Ax.I.sym c_16)), (Ax.AV.int .u8 (Ax.I.sym c_17)), (Ax.AV.int .u8 (Ax.I.sym c_18)), (Ax.AV.int .u8 (Ax.I.sym c_19)), (Ax.AV.int .u8 (Ax.I.sym c_20)), (Ax.AV.int .u8 (Ax.I.sym c_21)), (Ax.AV.int .u8 (Ax.I.sym c_22)), (Ax.AV.int .u8 (Ax.I.sym c_23))]))) fun s_1 =>
        some [(.s s_1)]) else none) else none) else
       (bif (decide ((0 ≤ (i64 (1 + i_1))) ∧ ((i64 (1 + i_1)) ≤ 24))) then (bif (decide (((0 : Int) ≤ 1) ∧ (1 ≤ ((((i64 (1 + i_1))).toNat : Nat) : Int)))) then (bif (decide ((1 + (((i64 (1 + i_1))).toNat - 1)) ≤ ([(Ax.AV.int .u8 (Ax.I.sym c_0)), (Ax.AV.int .u8 (Ax.I.sym (u8 (u32 (48 + (u32 u_0)))))), (Ax.AV.int .u8 (Ax.I.sym c_2)), (Ax.AV.int .u8 (Ax.I.sym c_3)), (Ax.AV.int .u8 (Ax.I.sym c_4)), (Ax.AV.int .u8 (Ax.I.sym c_5)), (Ax.AV.int .u8 (Ax.I.sym c_6)), (Ax.AV.int .u8 (Ax.I.sym c_7)), (Ax.AV.int .u8 (Ax.I.sym c_8)), (Ax.AV.int .u8 (Ax.I.sym c_9)), (Ax.AV.int .u8 (Ax.I.sym c_10)), (Ax.AV.int .u8 (Ax.I.sym c_11)), (Ax.AV.int .u8 (Ax.I.sym c_12)), (Ax.AV.int .u8 (Ax.I.sym c_13)), (Ax.AV.int .u8 (Ax.I.sym c_14)), (Ax.AV.int .u8 (Ax.I.sym c_15)), (Ax.AV.int .u8 (Ax.I.sym c_16)), (Ax.AV.int .u8 (Ax.I.sym c_17)), (Ax.AV.int .u8 (Ax.I.sym c_18)), (Ax.AV.int .u8 (Ax.I.sym c_19)), (Ax.AV.int .u8 (Ax.I.sym c_20)), (Ax.AV.int .u8 (Ax.I.sym c_21)), (Ax.AV.int .u8 (Ax.I.sym c_22)), (Ax.AV.int .u8 (Ax.I.sym c_23))]).length)) then (Option.bind (bytesOf (List.take (((i64 (1 + i_1))).toNat - 1) (List.drop 1 [(Ax.AV.int .u8 (Ax.I.sym c_0)), (Ax.AV.int .u8 (Ax.I.sym (u8 (u32 (48 + (u32 u_0)))))), (Ax.AV.int .u8 (Ax.I.sym c_2)), (Ax.AV.int .u8 (Ax.I.sym c_3)), (Ax.AV.int .u8 (Ax.I.sym c_4)), (Ax.AV.int .u8 (Ax.I.sym c_5)), (Ax.AV.int .u8 (Ax.I.sym c_6)), (Ax.AV.int .u8 (Ax.I.sym c_7)), (Ax.AV.int .u8 (Ax.I.sym c_8)), (Ax.AV.int .u8 (Ax.I.sym c_9)), (Ax.AV.int .u8 (Ax.I.sym c_10)), (Ax.AV.int .u8 (Ax.I.sym c_11)), (Ax.AV.int .u8 (Ax.I.sym c_12)), (Ax.AV.int .u8 (Ax.I.sym c_13)), (Ax.AV.int .u8 (Ax.I.sym c_14)), (Ax.AV.int .u8 (Ax.I.sym c_15)), (Ax.AV.int .u8 (Ax.I.sym c_16)), (Ax.AV.int .u8 (Ax.I.sym c_17)), (Ax.AV.int .u8 (Ax.I.sym c_18)), (Ax.AV.int .u8 (Ax.I.sym c_19)), (Ax.AV.int .u8 (Ax.I.sym c_20)), (Ax.AV.int .u8 (Ax.I.sym c_21)), (Ax.AV.int .u8 (Ax.I.sym c_22)), (Ax.AV.int .u8 (Ax.I.sym c_23))]))) fun s_2 =>
        some [(.s s_2)]) else none) else none) else none)) else none) else
      (bif (decide (i_0 < 0)) then (bif (decide ((0 ≤ (i64 (1 + i_1))) ∧ ((i64 (1 + i_1)) ≤ 24))) then (bif (decide ((0 + ((i64 (1 + i_1))).toNat) ≤ ([(Ax.AV.int .u8 (Ax.I.lit 45)), (Ax.AV.int .u8 (Ax.I.sym c_1)), (Ax.AV.int .u8 (Ax.I.sym c_2)), (Ax.AV.int .u8 (Ax.I.sym c_3)), (Ax.AV.int .u8 (Ax.I.sym c_4)), (Ax.AV.int .u8 (Ax.I.sym c_5)), (Ax.AV.int .u8 (Ax.I.sym c_6)), (Ax.AV.int .u8 (Ax.I.sym c_7)), (Ax.AV.int .u8 (Ax.I.sym c_8)), (Ax.AV.int .u8 (Ax.I.sym c_9)), (Ax.AV.int .u8 (Ax.I.sym c_10)), (Ax.AV.int .u8 (Ax.I.sym c_11)), (Ax.AV.int .u8 (Ax.I.sym c_12)), (Ax.AV.int .u8 (Ax.I.sym c_13)), (Ax.AV.int .u8 (Ax.I.sym c_14)), (Ax.AV.int .u8 (Ax.I.sym c_15)), (Ax.AV.int .u8 (Ax.I.sym c_16)), (Ax.AV.int .u8 (Ax.I.sym c_17)), (Ax.AV.int .u8 (Ax.I.sym c_18)), (Ax.AV.int .u8 (Ax.I.sym c_19)), (Ax.AV.int .u8 (Ax.I.sym c_20)), (Ax.AV.int .u8 (Ax.I.sym c_21)), (Ax.AV.int .u8 (Ax.I.sym c_22)), (Ax.AV.int .u8 (Ax.I.sym c_23))]).length)) then (Option.bind (bytesOf (List.take ((i64 (1 + i_1))).toNat (List.drop 0 [(Ax.AV.int .u8 (Ax.I.lit 45)), (Ax.AV.int .u8 (Ax.I.sym c_1)), (Ax.AV.int .u8 (Ax.I.sym c_2)), (Ax.AV.int .u8 (Ax.I.sym c_3)), (Ax.AV.int .u8 (Ax.I.sym c_4)), (Ax.AV.int .u8 (Ax.I.sym c_5)), (Ax.AV.int .u8 (Ax.I.sym c_6)), (Ax.AV.int .u8 (Ax.I.sym c_7)), (Ax.AV.int .u8 (Ax.I.sym c_8)), (Ax.AV.int .u8 (Ax.I.sym c_9)), (Ax.AV.int .u8 (Ax.I.sym c_10)), (Ax.AV.int .u8 (Ax.I.sym c_11)), (Ax.AV.int .u8 (Ax.I.sym c_12)), (Ax.AV.int .u8 (Ax.I.sym c_13)), (Ax.AV.int .u8 (Ax.I.sym c_14)), (Ax.AV.int .u8 (Ax.I.sym c_15)), (Ax.AV.int .u8 (Ax.I.sym c_16)), (Ax.AV.int .u8 (Ax.I.sym c_17)), (Ax.AV.int .u8 (Ax.I.sym c_18)), (Ax.AV.int .u8 (Ax.I.sym c_19)), (Ax.AV.int .u8 (Ax.I.sym c_20)), (Ax.AV.int .u8 (Ax.I.sym c_21)), (Ax.AV.int .u8 (Ax.I.sym c_22)), (Ax.AV.int .u8 (Ax.I.sym c_23))]))) fun s_3 =>
        some [(.s s_3)]) else none) else none) else
       (bif (decide ((0 ≤ (i64 (1 + i_1))) ∧ ((i64 (1 + i_1)) ≤ 24))) then (bif (decide (((0 : Int) ≤ 1) ∧ (1 ≤ ((((i64 (1 + i_1))).toNat : Nat) : Int)))) then (bif (decide ((1 + (((i64 (1 + i_1))).toNat - 1)) ≤ ([(Ax.AV.int .u8 (Ax.I.sym c_0)), (Ax.AV.int .u8 (Ax.I.sym c_1)), (Ax.AV.int .u8 (Ax.I.sym c_2)), (Ax.AV.int .u8 (Ax.I.sym c_3)), (Ax.AV.int .u8 (Ax.I.sym c_4)), (Ax.AV.int .u8 (Ax.I.sym c_5)), (Ax.AV.int .u8 (Ax.I.sym c_6)), (Ax.AV.int .u8 (Ax.I.sym c_7)), (Ax.AV.int .u8 (Ax.I.sym c_8)), (Ax.AV.int .u8 (Ax.I.sym c_9)), (Ax.AV.int .u8 (Ax.I.sym c_10)), (Ax.AV.int .u8 (Ax.I.sym c_11)), (Ax.AV.int .u8 (Ax.I.sym c_12)), (Ax.AV.int .u8 (Ax.I.sym c_13)), (Ax.AV.int .u8 (Ax.I.sym c_14)), (Ax.AV.int .u8 (Ax.I.sym c_15)), (Ax.AV.int .u8 (Ax.I.sym c_16)), (Ax.AV.int .u8 (Ax.I.sym c_17)), (Ax.AV.int .u8 (Ax.I.sym c_18)), (Ax.AV.int .u8 (Ax.I.sym c_19)), (Ax.AV.int .u8 (Ax.I.sym c_20)), (Ax.AV.int .u8 (Ax.I.sym c_21)), (Ax.AV.int .u8 (Ax.I.sym c_22)), (Ax.AV.int .u8 (Ax.I.sym c_23))]).length)) then (Option.bind (bytesOf (List.take (((i64 (1 + i_1))).toNat - 1) (List.drop 1 [(Ax.AV.int .u8 (Ax.I.sym c_0)), (Ax.AV.int .u8 (Ax.I.sym c_1)), (Ax.AV.int .u8 (Ax.I.sym c_2)), (Ax.AV.int .u8 (Ax.I.sym c_3)), (Ax.AV.int .u8 (Ax.I.sym c_4)), (Ax.AV.int .u8 (Ax.I.sym c_5)), (Ax.AV.int .u8 (Ax.I.sym c_6)), (Ax.AV.int .u8 (Ax.I.sym c_7)), (Ax.AV.int .u8 (Ax.I.sym c_8)), (Ax.AV.int .u8 (Ax.I.sym c_9)), (Ax.AV.int .u8 (Ax.I.sym c_10)), (Ax.AV.int .u8 (Ax.I.sym c_11)), (Ax.AV.int .u8 (Ax.I.sym c_12)), (Ax.AV.int .u8 (Ax.I.sym c_13)), (Ax.AV.int .u8 (Ax.I.sym c_14)), (Ax.AV.int .u8 (Ax.I.sym c_15)), (Ax.AV.int .u8 (Ax.I.sym c_16)), (Ax.AV.int .u8 (Ax.I.sym c_17)), (Ax.AV.int .u8 (Ax.I.sym c_18)), (Ax.AV.int .u8 (Ax.I.sym c_19)), (Ax.AV.int .u8 (Ax.I.sym c_20)), (Ax.AV.int .u8 (Ax.I.sym c_21)), (Ax.AV.int .u8 (Ax.I.sym c_22)), (Ax.AV.int .u8 (Ax.I.sym c_23))]))) fun s_4 =>
        some [(.s s_4)]) else none) else none) else none))))))
noncomputable def F_internal_strconv_FormatInt_L1 (i_0 : Int) (i_2 : Int) : List Dat → Option (List Dat ⊕ List Dat) := fun ds_33 =>
  onN ds_33 fun n_0 ds_34 =>
  onI ds_34 fun i_3 ds_35 =>
  onI ds_35 fun i_4 ds_36 =>
  onI ds_36 fun i_5 ds_37 =>
  onI ds_37 fun i_6 ds_38 =>
  onI ds_38 fun i_7 ds_39 =>
  onI ds_39 fun i_8 ds_40 =>
  onI ds_40 fun i_9 ds_41 =>
  onI ds_41 fun i_10 ds_42 =>
  onI ds_42 fun i_11 ds_43 =>
  onI ds_43 fun i_12 ds_44 =>
  onI ds_44 fun i_13 ds_45 =>
  onI ds_45 fun i_14 ds_46 =>
  onI ds_46 fun i_15 ds_47 =>
  onI ds_47 fun i_16 ds_48 =>
  onI ds_48 fun i_17 ds_49 =>
  onI ds_49 fun i_18 ds_50 =>
  onI ds_50 fun i_19 ds_51 =>
  onI ds_51 fun i_20 ds_52 =>
  onI ds_52 fun i_21 ds_53 =>
  onI ds_53 fun i_22 ds_54 =>
  onI ds_54 fun i_23 ds_55 =>
  onI ds_55 fun i_24 ds_56 =>
  onI ds_56 fun i_25 ds_57 =>
  onI ds_57 fun i_26 ds_58 =>
  onI ds_58 fun i_27 ds_59 =>
  onI ds_59 fun i_28 ds_60 =>
  bif (decide (8 ≤ i_4)) then (bif (decide ((0 ≤ (u32 ((u32 ((Int.tmod (Int.tmod (u32 (Int.tmod i_3 100000000)) 10000) 100) * 2)) + 1))) ∧ ((u32 ((u32 ((Int.tmod (Int.tmod (u32 (Int.tmod i_3 100000000)) 10000) 100) * 2)) + 1)) < 200))) then (bif (decide ((0 ≤ (u32 ((Int.tmod (Int.tmod (u32 (Int.tmod i_3 100000000)) 10000) 100) * 2))) ∧ ((u32 ((Int.tmod (Int.tmod (u32 (Int.tmod i_3 100000000)) 10000) 100) * 2)) < 200))) then (bif (decide ((0 ≤ (i64 (i_4 - 1))) ∧ ((i64 (i_4 - 1)) < ((n_0 : Nat) : Int)))) then (none) else none) else none) else none) else
  (Option.map .inr (bif (decide (4 ≤ i_4)) then (bif (decide ((0 ≤ (u32 ((u32 ((Int.tmod (Int.tmod (u32 i_3) 10000) 100) * 2)) + 1))) ∧ ((u32 ((u32 ((Int.tmod (Int.tmod (u32 i_3) 10000) 100) * 2)) + 1)) < 200))) then (bif (decide ((0 ≤ (u32 ((Int.tmod (Int.tmod (u32 i_3) 10000) 100) * 2))) ∧ ((u32 ((Int.tmod (Int.tmod (u32 i_3) 10000) 100) * 2)) < 200))) then (bif (decide ((0 ≤ (i64 (i_4 - 1))) ∧ ((i64 (i_4 - 1)) < ((n_0 : Nat) : Int)))) then (none) else none) else none) else none) else
    (bif (decide (2 ≤ i_4)) then (bif (decide ((0 ≤ (u32 ((u32 ((Int.tmod (u32 i_3) 100) * 2)) + 1))) ∧ ((u32 ((u32 ((Int.tmod (u32 i_3) 100) * 2)) + 1)) < 200))) then (bif (decide ((0 ≤ (u32 ((Int.tmod (u32 i_3) 100) * 2))) ∧ ((u32 ((Int.tmod (u32 i_3) 100) * 2)) < 200))) then (bif (decide ((0 ≤ (i64 (i_4 - 1))) ∧ ((i64 (i_4 - 1)) < ((n_0 : Nat) : Int)))) then (none) else none) else none) else none) else
     (bif (decide (0 < i_4)) then (bif (decide (((0 : Int) ≤ 0) ∧ (0 < ((n_0 : Nat) : Int)))) then (bif (decide (i_0 < 0)) then (bif (decide ((0 ≤ (i64 (1 + i_2))) ∧ ((i64 (1 + i_2)) ≤ 24))) then (bif (decide ((0 + ((i64 (1 + i_2))).toNat) ≤ ([(Ax.AV.int .u8 (Ax.I.lit 45)), (Ax.AV.int .u8 (Ax.I.sym (u8 (u32 (48 + (u32 i_3)))))), (Ax.AV.int .u8 (Ax.I.sym i_7)), (Ax.AV.int .u8 (Ax.I.sym i_8)), (Ax.AV.int .u8 (Ax.I.sym i_9)), (Ax.AV.int .u8 (Ax.I.sym i_10)), (Ax.AV.int .u8 (Ax.I.sym i_11)), (Ax.AV.int .u8 (Ax.I.sym i_12)), (Ax.AV.int .u8 (Ax.I.sym i_13)), (Ax.AV.int .u8 (Ax.I.sym i_14)), (Ax.AV.int .u8 (Ax.I.sym i_15)), (Ax.AV.int .u8 (Ax.I.sym i_16)), (Ax.AV.int .u8 (Ax.I.sym i_17)), (Ax.AV.int .u8 (Ax.I.sym i_18)), (Ax.AV.int .u8 (Ax.I.sym i_19)), (Ax.AV.int .u8 (Ax.I.sym i_20)), (Ax.AV.int .u8 (Ax.I.sym i_21)), (Ax.AV.int .u8 (Ax.I.sym i_22)), (Ax.AV.int .u8 (Ax.I.sym i_23)), (Ax.AV.int .u8 (Ax.I.sym i_24)), (Ax.AV.int .u8 (Ax.I.sym i_25)), (Ax.AV.int .u8 (Ax.I.sym i_26)), (Ax.AV.int .u8 (Ax.I.sym i_27)), (Ax.AV.int .u8 (Ax.I.sym i_28))]).length)) then (Option.bind (bytesOf (List.take ((i64 (1 + i_2))).toNat (List.drop 0 [(Ax.AV.int .u8 (Ax.I.lit 45)), (Ax.AV.int .u8 (Ax.I.sym (u8 (u32 (48 + (u32 i_3)))))), (Ax.AV.int .u8 (Ax.I.sym i_7)), (Ax.AV.int .u8 (Ax.I.sym i_8)), (Ax.AV.int .u8 (Ax.I.sym i_9)), (Ax.AV.int .u8 (Ax.I.sym i_10)), (Ax.AV.int .u8 (Ax.I.sym i_11)), (Ax.AV.int .u8 (Ax.I.sym i_12)), (Ax.AV.int .u8 (Ax.I.sym i_13)), (Ax.AV.int .u8 (Ax.I.sym i_14)), (Ax.AV.int .u8 (Ax.I.sym i_15)), (Ax.AV.int .u8 (Ax.I.sym i_16)), (Ax.AV.int .u8 (Ax.I.sym i_17)), (Ax.AV.int .u8 (Ax.I.sym i_18)), (Ax.AV.int .u8 (Ax.I.sym i_19)), (Ax.AV.int .u8 (Ax.I.sym i_20)), (Ax.AV.int .u8 (Ax.I.sym i_21)), (Ax.AV.int .u8 (Ax.I.sym i_22)), (Ax.AV.int .u8 (Ax.I.sym i_23)), (Ax.AV.int .u8 (Ax.I.sym i_24)), (Ax.AV.int .u8 (Ax.I.sym i_25)), (Ax.AV.int .u8 (Ax.I.sym i_26)), (Ax.AV.int .u8 (Ax.I.sym i_27)), (Ax.AV.int .u8 (Ax.I.sym i_28))]))) fun s_5 =>
        some [(.s s_5)]) else none) else none) else
       (bif (decide ((0 ≤ (i64 (1 + i_2))) ∧ ((i64 (1 + i_2)) ≤ 24))) then (bif (decide (((0 : Int) ≤ 1) ∧ (1 ≤ ((((i64 (1 + i_2))).toNat : Nat) : Int)))) then (bif (decide ((1 + (((i64 (1 + i_2))).toNat - 1)) ≤ ([(Ax.AV.int .u8 (Ax.I.sym i_5)), (Ax.AV.int .u8 (Ax.I.sym (u8 (u32 (48 + (u32 i_3)))))), (Ax.AV.int .u8 (Ax.I.sym i_7)), (Ax.AV.int .u8 (Ax.I.sym i_8)), (Ax.AV.int .u8 (Ax.I.sym i_9)), (Ax.AV.int .u8 (Ax.I.sym i_10)), (Ax.AV.int .u8 (Ax.I.sym i_11)), (Ax.AV.int .u8 (Ax.I.sym i_12)), (Ax.AV.int .u8 (Ax.I.sym i_13)), (Ax.AV.int .u8 (Ax.I.sym i_14)), (Ax.AV.int .u8 (Ax.I.sym i_15)), (Ax.AV.int .u8 (Ax.I.sym i_16)), (Ax.AV.int .u8 (Ax.I.sym i_17)), (Ax.AV.int .u8 (Ax.I.sym i_18)), (Ax.AV.int .u8 (Ax.I.sym i_19)), (Ax.AV.int .u8 (Ax.I.sym i_20)), (Ax.AV.int .u8 (Ax.I.sym i_21)), (Ax.AV.int .u8 (Ax.I.sym i_22)), (Ax.AV.int .u8 (Ax.I.sym i_23)), (Ax.AV.int .u8 (Ax.I.sym i_24)), (Ax.AV.int .u8 (Ax.I.sym i_25)), (Ax.AV.int .u8 (Ax.I.sym i_26)), (Ax.AV.int .u8 (Ax.I.sym i_27)), (Ax.AV.int .u8 (Ax.I.sym i_28))]).length)) then (Option.bind (bytesOf (List.take (((i64 (1 + i_2))).toNat - 1) (List.drop 1 [(Ax.AV.int .u8 (Ax.I.sym i_5)), (Ax.AV.int .u8 (Ax.I.sym (u8 (u32 (48 + (u32 i_3)))))), (Ax.AV.int .u8 (Ax.I.sym i_7)), (Ax.AV.int .u8 (Ax.I.sym i_8)), (Ax.AV.int .u8 (Ax.I.sym i_9)), (Ax.AV.int .u8 (Ax.I.sym i_10)), (Ax.AV.int .u8 (Ax.I.sym i_11)), (Ax.AV.int .u8 (Ax.I.sym i_12)), (Ax.AV.int .u8 (Ax.I.sym i_13)), (Ax.AV.int .u8 (Ax.I.sym i_14)), (Ax.AV.int .u8 (Ax.I.sym i_15)), (Ax.AV.int .u8 (Ax.I.sym i_16)), (Ax.AV.int .u8 (Ax.I.sym i_17)), (Ax.AV.int .u8 (Ax.I.sym i_18)), (Ax.AV.int .u8 (Ax.I.sym i_19)), (Ax.AV.int .u8 (Ax.I.sym i_20)), (Ax.AV.int .u8 (Ax.I.sym i_21)), (Ax.AV.int .u8 (Ax.I.sym i_22)), (Ax.AV.int .u8 (Ax.I.sym i_23)), (Ax.AV.int .u8 (Ax.I.sym i_24)), (Ax.AV.int .u8 (Ax.I.sym i_25)), (Ax.AV.int .u8 (Ax.I.sym i_26)), (Ax.AV.int .u8 (Ax.I.sym i_27)), (Ax.AV.int .u8 (Ax.I.sym i_28))]))) fun s_6 =>
        some [(.s s_6)]) else none) else none) else none)) else none) else
      (bif (decide (i_0 < 0)) then (bif (decide ((0 ≤ (i64 (1 + i_2))) ∧ ((i64 (1 + i_2)) ≤ 24))) then (bif (decide ((0 + ((i64 (1 + i_2))).toNat) ≤ ([(Ax.AV.int .u8 (Ax.I.lit 45)), (Ax.AV.int .u8 (Ax.I.sym i_6)), (Ax.AV.int .u8 (Ax.I.sym i_7)), (Ax.AV.int .u8 (Ax.I.sym i_8)), (Ax.AV.int .u8 (Ax.I.sym i_9)), (Ax.AV.int .u8 (Ax.I.sym i_10)), (Ax.AV.int .u8 (Ax.I.sym i_11)), (Ax.AV.int .u8 (Ax.I.sym i_12)), (Ax.AV.int .u8 (Ax.I.sym i_13)), (Ax.AV.int .u8 (Ax.I.sym i_14)), (Ax.AV.int .u8 (Ax.I.sym i_15)), (Ax.AV.int .u8 (Ax.I.sym i_16)), (Ax.AV.int .u8 (Ax.I.sym i_17)), (Ax.AV.int .u8 (Ax.I.sym i_18)), (Ax.AV.int .u8 (Ax.I.sym i_19)), (Ax.AV.int .u8 (Ax.I.sym i_20)), (Ax.AV.int .u8 (Ax.I.sym i_21)), (Ax.AV.int .u8 (Ax.I.sym i_22)), (Ax.AV.int .u8 (Ax.I.sym i_23)), (Ax.AV.int .u8 (Ax.I.sym i_24)), (Ax.AV.int .u8 (Ax.I.sym i_25)), (Ax.AV.int .u8 (Ax.I.sym i_26)), (Ax.AV.int .u8 (Ax.I.sym i_27)), (Ax.AV.int .u8 (Ax.I.sym i_28))]).length)) then (Option.bind (bytesOf (List.take ((i64 (1 + i_2))).toNat (List.drop 0 [(Ax.AV.int .u8 (Ax.I.lit 45)), (Ax.AV.int .u8 (Ax.I.sym i_6)), (Ax.AV.int .u8 (Ax.I.sym i_7)), (Ax.AV.int .u8 (Ax.I.sym i_8)), (Ax.AV.int .u8 (Ax.I.sym i_9)), (Ax.AV.int .u8 (Ax.I.sym i_10)), (Ax.AV.int .u8 (Ax.I.sym i_11)), (Ax.AV.int .u8 (Ax.I.sym i_12)), (Ax.AV.int .u8 (Ax.I.sym i_13)), (Ax.AV.int .u8 (Ax.I.sym i_14)), (Ax.AV.int .u8 (Ax.I.sym i_15)), (Ax.AV.int .u8 (Ax.I.sym i_16)), (Ax.AV.int .u8 (Ax.I.sym i_17)), (Ax.AV.int .u8 (Ax.I.sym i_18)), (Ax.AV.int .u8 (Ax.I.sym i_19)), (Ax.AV.int .u8 (Ax.I.sym i_20)), (Ax.AV.int .u8 (Ax.I.sym i_21)), (Ax.AV.int .u8 (Ax.I.sym i_22)), (Ax.AV.int .u8 (Ax.I.sym i_23)), (Ax.AV.int .u8 (Ax.I.sym i_24)), (Ax.AV.int .u8 (Ax.I.sym i_25)), (Ax.AV.int .u8 (Ax.I.sym i_26)), (Ax.AV.int .u8 (Ax.I.sym i_27)), (Ax.AV.int .u8 (Ax.I.sym i_28))]))) fun s_7 =>
        some [(.s s_7)]) else none) else none) else
       (bif (decide ((0 ≤ (i64 (1 + i_2))) ∧ ((i64 (1 + i_2)) ≤ 24))) then (bif (decide (((0 : Int) ≤ 1) ∧ (1 ≤ ((((i64 (1 + i_2))).toNat : Nat) : Int)))) then (bif (decide ((1 + (((i64 (1 + i_2))).toNat - 1)) ≤ ([(Ax.AV.int .u8 (Ax.I.sym i_5)), (Ax.AV.int .u8 (Ax.I.sym i_6)), (Ax.AV.int .u8 (Ax.I.sym i_7)), (Ax.AV.int .u8 (Ax.I.sym i_8)), (Ax.AV.int .u8 (Ax.I.sym i_9)), (Ax.AV.int .u8 (Ax.I.sym i_10)), (Ax.AV.int .u8 (Ax.I.sym i_11)), (Ax.AV.int .u8 (Ax.I.sym i_12)), (Ax.AV.int .u8 (Ax.I.sym i_13)), (Ax.AV.int .u8 (Ax.I.sym i_14)), (Ax.AV.int .u8 (Ax.I.sym i_15)), (Ax.AV.int .u8 (Ax.I.sym i_16)), (Ax.AV.int .u8 (Ax.I.sym i_17)), (Ax.AV.int .u8 (Ax.I.sym i_18)), (Ax.AV.int .u8 (Ax.I.sym i_19)), (Ax.AV.int .u8 (Ax.I.sym i_20)), (Ax.AV.int .u8 (Ax.I.sym i_21)), (Ax.AV.int .u8 (Ax.I.sym i_22)), (Ax.AV.int .u8 (Ax.I.sym i_23)), (Ax.AV.int .u8 (Ax.I.sym i_24)), (Ax.AV.int .u8 (Ax.I.sym i_25)), (Ax.AV.int .u8 (Ax.I.sym i_26)), (Ax.AV.int .u8 (Ax.I.sym i_27)), (Ax.AV.int .u8 (Ax.I.sym i_28))]).length)) then (Option.bind (bytesOf (List.take (((i64 (1 + i_2))).toNat - 1) (List.drop 1 [(Ax.AV.int .u8 (Ax.I.sym i_5)), (Ax.AV.int .u8 (Ax.I.sym i_6)), (Ax.AV.int .u8 (Ax.I.sym i_7)), (Ax.AV.int .u8 (Ax.I.sym i_8)), (Ax.AV.int .u8 (Ax.I.sym i_9)), (Ax.AV.int .u8 (Ax.I.sym i_10)), (Ax.AV.int .u8 (Ax.I.sym i_11)), (Ax.AV.int .u8 (Ax.I.sym i_12)), (Ax.AV.int .u8 (Ax.I.sym i_13)), (Ax.AV.int .u8 (Ax.I.sym i_14)), (Ax.AV.int .u8 (Ax.I.sym i_15)), (Ax.AV.int .u8 (Ax.I.sym i_16)), (Ax.AV.int .u8 (Ax.I.sym i_17)), (Ax.AV.int .u8 (Ax.I.sym i_18)), (Ax.AV.int .u8 (Ax.I.sym i_19)), (Ax.AV.int .u8 (Ax.I.sym i_20)), (Ax.AV.int .u8 (Ax.I.sym i_21)), (Ax.AV.int .u8 (Ax.I.sym i_22)), (Ax.AV.int .u8 (Ax.I.sym i_23)), (Ax.AV.int .u8 (Ax.I.sym i_24)), (Ax.AV.int .u8 (Ax.I.sym i_25)), (Ax.AV.int .u8 (Ax.I.sym i_26)), (Ax.AV.int .u8 (Ax.I.sym i_27)), (Ax.AV.int .u8 (Ax.I.sym i_28))]))) fun s_8 =>
        some [(.s s_8)]) else none) else none) else none))))))
noncomputable def F_internal_strconv_FormatInt : List Dat → Option (List Dat) := fun ds_0 =>
  onI ds_0 fun i_0 ds_1 =>
  Option.bind (bif (decide (0 ≤ i_0)) then (bif (decide (i_0 < 100)) then (some true) else
    (some false)) else
   (some false)) fun b_0 =>
  bif b_0 then (Option.bind (F_internal_strconv_small [(.i i_0)]) fun r_0 =>
   onS r_0 fun s_0 ds_2 =>
   some [(.s s_0)]) else
  (bif (decide (i_0 < 0)) then (Option.bind (F_internal_strconv_numDigits [(.i (u64 (0 - (u64 i_0))))]) fun r_1 =>
    onI r_1 fun i_1 ds_3 =>
    bif (decide ((0 ≤ (i64 (1 + i_1))) ∧ ((i64 (1 + i_1)) ≤ 24))) then (bif (decide (((0 : Int) ≤ 1) ∧ (1 ≤ ((((i64 (1 + i_1))).toNat : Nat) : Int)))) then (iter (F_internal_strconv_FormatInt_L0 i_0 i_1) [(.n (((i64 (1 + i_1))).toNat - 1)), (.i (u64 (0 - (u64 i_0)))), (.i (((((i64 (1 + i_1))).toNat - 1) : Nat) : Int)), (.i 0), (.i 0), (.i 0), (.i 0), (.i 0), (.i 0), (.i 0), (.i 0), (.i 0), (.i 0), (.i 0), (.i 0), (.i 0), (.i 0), (.i 0), (.i 0), (.i 0), (.i 0), (.i 0), (.i 0), (.i 0), (.i 0), (.i 0), (.i 0)]) else none) else none) else
   (Option.bind (F_internal_strconv_numDigits [(.i (u64 i_0))]) fun r_2 =>
    onI r_2 fun i_2 ds_32 =>
    bif (decide ((0 ≤ (i64 (1 + i_2))) ∧ ((i64 (1 + i_2)) ≤ 24))) then (bif (decide (((0 : Int) ≤ 1) ∧ (1 ≤ ((((i64 (1 + i_2))).toNat : Nat) : Int)))) then (iter (F_internal_strconv_FormatInt_L1 i_0 i_2) [(.n (((i64 (1 + i_2))).toNat - 1)), (.i (u64 i_0)), (.i (((((i64 (1 + i_2))).toNat - 1) : Nat) : Int)), (.i 0), (.i 0), (.i 0), (.i 0), (.i 0), (.i 0), (.i 0), (.i 0), (.i 0), (.i 0), (.i 0), (.i 0), (.i 0), (.i 0), (.i 0), (.i 0), (.i 0), (.i 0), (.i 0), (.i 0), (.i 0), (.i 0), (.i 0), (.i 0)]) else none) else none))
noncomputable def F_internal_strconv_Itoa : List Dat → Option (List Dat) := fun ds_0 =>
  onI ds_0 fun i_0 ds_1 =>
  Option.bind (F_internal_strconv_FormatInt [(.i i_0)]) fun r_0 =>
  onS r_0 fun s_0 ds_2 =>
  some [(.s s_0)]
noncomputable def F_strconv_Itoa : List Dat → Option (List Dat) := fun ds_0 =>
  onI ds_0 fun i_0 ds_1 =>
  Option.bind (F_internal_strconv_Itoa [(.i i_0)]) fun r_0 =>
  onS r_0 fun s_0 ds_2 =>
  some [(.s s_0)]
noncomputable def F_dayspec_Print : List Dat → Option (List Dat) := fun ds_0 =>
  onI ds_0 fun d_0 ds_1 =>
  onI ds_1 fun d_1 ds_2 =>
  onI ds_2 fun d_2 ds_3 =>
  Option.bind (F_dayform_Check [(.i d_0), (.i d_1), (.i d_2)]) fun r_0 =>
  onI r_0 fun i_0 ds_4 =>
  bif (!decide (i_0 = 0)) then (some [(.s ([] : List UInt8)), (.i 2)]) else
  (Option.bind (F_word_WeekText [(.i d_1)]) fun r_1 =>
   onS r_1 fun s_0 ds_5 =>
   Option.bind (F_strconv_Itoa [(.i d_2)]) fun r_2 =>
   onS r_2 fun s_1 ds_6 =>
   bif (decide (d_0 = 2)) then (bif (decide ((4 + (s_0).length) ≤ 9223372036854775807)) then (some [(.s (([108, 97, 115, 116] : List UInt8) ++ s_0)), (.i 0)]) else none) else
   (bif (decide (d_0 = 3)) then (bif (decide (((s_0).length + 2) ≤ 9223372036854775807)) then (bif (decide ((((s_0 ++ ([62, 61] : List UInt8))).length + (s_1).length) ≤ 9223372036854775807)) then (some [(.s ((s_0 ++ ([62, 61] : List UInt8)) ++ s_1)), (.i 0)]) else none) else none) else
    (bif (decide (d_0 = 4)) then (bif (decide (((s_0).length + 2) ≤ 9223372036854775807)) then (bif (decide ((((s_0 ++ ([60, 61] : List UInt8))).length + (s_1).length) ≤ 9223372036854775807)) then (some [(.s ((s_0 ++ ([60, 61] : List UInt8)) ++ s_1)), (.i 0)]) else none) else none) else
     (some [(.s s_1), (.i 0)]))))
noncomputable def F__dayspec_operator__kind : List Dat → Option (List Dat) := fun ds_0 =>
  onI ds_0 fun o_0 ds_1 =>
  onI ds_1 fun o_1 ds_2 =>
  bif ((decide (o_0 = 62)) && ((decide (o_1 = 61)) && true)) then (some [(.i 3)]) else
  (bif ((decide (o_0 = 60)) && ((decide (o_1 = 61)) && true)) then (some [(.i 4)]) else
   (some [(.i 0)]))
noncomputable def F_word_Week : List Dat → Option (List Dat) := fun ds_0 =>
  onS ds_0 fun s_0 ds_1 =>
  Option.bind (wordFind [(.s ([115, 117, 110, 100, 97, 121] : List UInt8)), (.s ([109, 111, 110, 100, 97, 121] : List UInt8)), (.s ([116, 117, 101, 115, 100, 97, 121] : List UInt8)), (.s ([119, 101, 100, 110, 101, 115, 100, 97, 121] : List UInt8)), (.s ([116, 104, 117, 114, 115, 100, 97, 121] : List UInt8)), (.s ([102, 114, 105, 100, 97, 121] : List UInt8)), (.s ([115, 97, 116, 117, 114, 100, 97, 121] : List UInt8)), (.s ([] : List UInt8)), (.s ([] : List UInt8)), (.s ([] : List UInt8)), (.s ([] : List UInt8)), (.s ([] : List UInt8)), (.i 0), (.s s_0)]) fun r_0 =>
  onI r_0 fun i_0 ds_2 =>
  onI ds_2 fun i_1 ds_3 =>
  some [(.i i_0), (.i i_1)]
noncomputable def F_number_Parse_L0 : List Dat → Option (List Dat ⊕ List Dat) := fun ds_3 =>
  onS ds_3 fun s_1 ds_4 =>
  onI ds_4 fun n_0 ds_5 =>
  onI ds_5 fun v_0 ds_6 =>
  onI ds_6 fun v_1 ds_7 =>
  bif (decide (v_1 < v_0)) then (Option.bind (bif (decide ((0 ≤ v_1) ∧ (v_1 < (((s_1).length : Nat) : Int)))) then (bif (decide (((((List.getD s_1 (v_1).toNat 0)).toNat : Nat) : Int) < 48)) then (some true) else
    (bif (decide ((0 ≤ v_1) ∧ (v_1 < (((s_1).length : Nat) : Int)))) then (bif (decide (57 < ((((List.getD s_1 (v_1).toNat 0)).toNat : Nat) : Int))) then (some true) else
     (some false)) else none)) else none) fun b_1 =>
   bif b_1 then (Option.map .inr (some [(.i 0), (.b false)])) else
   (bif (decide ((0 ≤ v_1) ∧ (v_1 < (((s_1).length : Nat) : Int)))) then (some (.inl [(.s s_1), (.i (i64 ((i64 (10 * n_0)) + (i64 (u8 (((((List.getD s_1 (v_1).toNat 0)).toNat : Nat) : Int) - 48)))))), (.i v_0), (.i (i64 (v_1 + 1)))])) else none)) else
  (Option.map .inr (some [(.i n_0), (.b true)]))
noncomputable def F_number_Parse : List Dat → Option (List Dat) := fun ds_0 =>
  onS ds_0 fun s_0 ds_1 =>
  onI ds_1 fun most_0 ds_2 =>
  Option.bind (bif (s_0 == ([] : List UInt8)) then (some true) else
   (bif (decide (most_0 < (((s_0).length : Nat) : Int))) then (some true) else
    (bif (decide (1 < (((s_0).length : Nat) : Int))) then (bif (decide (((0 : Int) ≤ 0) ∧ (0 < (((s_0).length : Nat) : Int)))) then (bif (decide (((((List.getD s_0 0 0)).toNat : Nat) : Int) = 48)) then (some true) else
      (some false)) else none) else
     (some false)))) fun b_0 =>
  bif b_0 then (some [(.i 0), (.b false)]) else
  (iter F_number_Parse_L0 [(.s s_0), (.i 0), (.i (((s_0).length : Nat) : Int)), (.i 0)])
noncomputable def F_dayspec_dayNumber : List Dat → Option (List Dat) := fun ds_0 =>
  onS ds_0 fun s_0 ds_1 =>
  Option.bind (F_number_Parse [(.s s_0), (.i 2)]) fun r_0 =>
  onI r_0 fun i_0 ds_2 =>
  onB ds_2 fun b_0 ds_3 =>
  Option.bind (bif (!b_0) then (some true) else
   (bif (decide (i_0 = 0)) then (some true) else
    (some false))) fun b_1 =>
  bif b_1 then (some [(.i 0), (.i 5)]) else
  (bif (decide (31 < i_0)) then (some [(.i 0), (.i 3)]) else
   (some [(.i i_0), (.i 0)]))
noncomputable def F_dayspec_between : List Dat → Option (List Dat) := fun ds_0 =>
  onI ds_0 fun kind_0 ds_1 =>
  onS ds_1 fun front_0 ds_2 =>
  onS ds_2 fun behind_0 ds_3 =>
  Option.bind (F_word_Week [(.s front_0)]) fun r_0 =>
  onI r_0 fun i_0 ds_4 =>
  onI ds_4 fun i_1 ds_5 =>
  bif (!decide (i_1 = 0)) then (some [(.i 0), (.i 0), (.i 0), (.i i_1)]) else
  (Option.bind (F_dayspec_dayNumber [(.s behind_0)]) fun r_1 =>
   onI r_1 fun i_2 ds_6 =>
   onI ds_6 fun i_3 ds_7 =>
   bif (!decide (i_3 = 0)) then (some [(.i 0), (.i 0), (.i 0), (.i i_3)]) else
   (some [(.i kind_0), (.i i_0), (.i i_2), (.i 0)]))
noncomputable def F_unicode_utf8_decodeRuneInStringSlow : List Dat → Option (List Dat) := fun ds_0 =>
  onS ds_0 fun s_0 ds_1 =>
  bif (decide ((((s_0).length : Nat) : Int) < 1)) then (some [(.i 65533), (.i 0)]) else
  (bif (decide (((0 : Int) ≤ 0) ∧ (0 < (((s_0).length : Nat) : Int)))) then (bif (decide ((0 ≤ ((((List.getD s_0 0 0)).toNat : Nat) : Int)) ∧ (((((List.getD s_0 0 0)).toNat : Nat) : Int) < 256))) then (Option.bind (asI .u8 ([(Ax.AV.int .u8 (Ax.I.lit 240)), (Ax.AV.int .u8 (Ax.I.lit 240)), (Ax.AV.int .u8 (Ax.I.lit 240)), (Ax.AV.int .u8 (Ax.I.lit 240)), (Ax.AV.int .u8 (Ax.I.lit 240)), (Ax.AV.int .u8 (Ax.I.lit 240)), (Ax.AV.int .u8 (Ax.I.lit 240)), (Ax.AV.int .u8 (Ax.I.lit 240)), (Ax.AV.int .u8 (Ax.I.lit 240)), (Ax.AV.int .u8 (Ax.I.lit 240)), (Ax.AV.int .u8 (Ax.I.lit 240)), (Ax.AV.int .u8 (Ax.I.lit 240)), (Ax.AV.int .u8 (Ax.I.lit 240)), (Ax.AV.int .u8 (Ax.I.lit 240)), (Ax.AV.int .u8 (Ax.I.lit 240)), (Ax.AV.int .u8 (Ax.I.lit 240)), (Ax.AV.int .u8 (Ax.I.lit 240)), (Ax.AV.int .u8 (Ax.I.lit 240)), (Ax.AV.int .u8 (Ax.I.lit 240)), (Ax.AV.int .u8 (Ax.I.lit 240)), (Ax.AV.int .u8 (Ax.I.lit 240)), (Ax.AV.int .u8 (Ax.I.lit 240)), (Ax.AV.int .u8 (Ax.I.lit 240)), (Ax.AV.int .u8 (Ax.I.lit 240)), (Ax.AV.int .u8 (Ax.I.lit 240)), (Ax.AV.int .u8 (Ax.I.lit 240)), (Ax.AV.int .u8 (Ax.I.lit 240)), (Ax.AV.int .u8 (Ax.I.lit 240)), (Ax.AV.int .u8 (Ax.I.lit 240)), (Ax.AV.int .u8 (Ax.I.lit 240)), (Ax.AV.int .u8 (Ax.I.lit 240)), (Ax.AV.int .u8 (Ax.I.lit 240)), (Ax.AV.int .u8 (Ax.I.lit 240)), (Ax.AV.int .u8 (Ax.I.lit 240)), (Ax.AV.int .u8 (Ax.I.lit 240)), (Ax.AV.int .u8 (Ax.I.lit 240)), (Ax.AV.int .u8 (Ax.I.lit 240)), (Ax.AV.int .u8 (Ax.I.lit 240)), (Ax.AV.int .u8 (Ax.I.lit 240)), (Ax.AV.int .u8 (Ax.I.lit 240)), (Ax.AV.int .u8 (Ax.I.lit 240)), (Ax.AV.int .u8 (Ax.I.lit 240)), (Ax.AV.int .u8 (Ax.I.lit 240)), (Ax.AV.int .u8 (Ax.I.lit 240)), (Ax.AV.int .u8 (Ax.I.lit 240)), (Ax.AV.int .u8 (Ax.I.lit 240)), (Ax.AV.int .u8 (Ax.I.lit 240)), (Ax.AV.int .u8 (Ax.I.lit 240)), (Ax.AV.int .u8 (Ax.I.lit 240)), (Ax.AV.int .u8 (Ax.I.lit 240)), (Ax.AV.int .u8 (Ax.I.lit 240)), (Ax.AV.int .u8 (Ax.I.lit 240)), (Ax.AV.int .u8 (Ax.I.lit 240)), (Ax.AV.int .u8 (Ax.I.lit 240)), (Ax.AV.int .u8 (Ax.I.lit 240)), (Ax.AV.int .u8 (Ax.I.lit 240)), (Ax.AV.int .u8 (Ax.I.lit 240)), (Ax.AV.int .u8 (Ax.I.lit 240)), (Ax.AV.int .u8 (Ax.I.lit 240)), (Ax.AV.int .u8 (Ax.I.lit 240)), (Ax.AV.int .u8 (Ax.I.lit 240)), (Ax.AV.int .u8 (Ax.I.lit 240)), (Ax.AV.int .u8 (Ax.I.lit 240)), (Ax.AV.int .u8 (Ax.I.lit 240)), (Ax.AV.int .u8 (Ax.I.lit 240)), (Ax.AV.int .u8 (Ax.I.lit 240)), (Ax.AV.int .u8 (Ax.I.lit 240)), (Ax.AV.int .u8 (Ax.I.lit 240)), (Ax.AV.int .u8 (Ax.I.lit 240)), (Ax.AV.int .u8 (Ax.I.lit 240)), (Ax.AV.int .u8 (Ax.I.lit 240)), (Ax.AV.int .u8 (Ax.I.lit 240)), (Ax.AV.int .u8 (Ax.I.lit 240)), (Ax.AV.int .u8 (Ax.I.lit 240)), (Ax.AV.int .u8 (Ax.I.lit 240)), (Ax.AV.int .u8 (Ax.I.lit 240)), (Ax.AV.int .u8 (Ax.I.lit 240)), (Ax.AV.int .u8 (Ax.I.lit 240)), (Ax.AV.int .u8 (Ax.I.lit 240)), (Ax.AV.int .u8 (Ax.I.lit 240)), (Ax.AV.int .u8 (Ax.I.lit 240)), (Ax.AV.int .u8 (Ax.I.lit 240)), (Ax.AV.int .u8 (Ax.I.lit 240)), (Ax.AV.int .u8 (Ax.I.lit 240)), (Ax.AV.int .u8 (Ax.I.lit 240)), (Ax.AV.int .u8 (Ax.I.lit 240)), (Ax.AV.int .u8 (Ax.I.lit 240)), (Ax.AV.int .u8 (Ax.I.lit 240)), (Ax.AV.int .u8 (Ax.I.lit 240)), (Ax.AV.int .u8 (Ax.I.lit 240)), (Ax.AV.int .u8 (Ax.I.lit 240)), (Ax.AV.int .u8 (Ax.I.lit 240)), (Ax.AV.int .u8 (Ax.I.lit 240)), (Ax.AV.int .u8 (Ax.I.lit 240)), (Ax.AV.int .u8 (Ax.I.lit 240)), (Ax.AV.int .u8 (Ax.I.lit 240)), (Ax.AV.int .u8 (Ax.I.lit 240)), (Ax.AV.int .u8 (Ax.I.lit 240)), (Ax.AV.int .u8 (Ax.I.lit 240)), (Ax.AV.int .u8 (Ax.I.lit 240)), (Ax.AV.int .u8 (Ax.I.lit 240)), (Ax.AV.int .u8 (Ax.I.lit 240)), (Ax.AV.int .u8 (Ax.I.lit 240)), (Ax.AV.int .u8 (Ax.I.lit 240)), (Ax.AV.int .u8 (Ax.I.lit 240)), (Ax.AV.int .u8 (Ax.I.lit 240)), (Ax.AV.int .u8 (Ax.I.lit 240)), (Ax.AV.int .u8 (Ax.I.lit 240)), (Ax.AV.int .u8 (Ax.I.lit 240)), (Ax.AV.int .u8 (Ax.I.lit 240)), (Ax.AV.int .u8 (Ax.I.lit 240)), (Ax.AV.int .u8 (Ax.I.lit 240)), (Ax.AV.int .u8 (Ax.I.lit 240)), (Ax.AV.int .u8 (Ax.I.lit 240)), (Ax.AV.int .u8 (Ax.I.lit 240)), (Ax.AV.int .u8 (Ax.I.lit 240)), (Ax.AV.int .u8 (Ax.I.lit 240)), (Ax.AV.int .u8 (Ax.I.lit 240)), (Ax.AV.int .u8 (Ax.I.lit 240)), (Ax.AV.int .u8 (Ax.I.lit 240)), (Ax.AV.int .u8 (Ax.I.lit 240)), (Ax.AV.int .u8 (Ax.I.lit 240)), (Ax.AV.int .u8 (Ax.I.lit 240)), (Ax.AV.int .u8 (Ax.I.lit 240)), (Ax.AV.int .u8 (Ax.I.lit 240)), (Ax.AV.int .u8 (Ax.I.lit 240)), (Ax.AV.int .u8 (Ax.I.lit 240)), (Ax.AV.int .u8 (Ax.I.lit 240)), (Ax.AV.int .u8 (Ax.I.lit 241)), (Ax.AV.int .u8 (Ax.I.lit 241)), (Ax.AV.int .u8 (Ax.I.lit 241)), (Ax.AV.int .u8 (Ax.I.lit 241)), (Ax.AV.int .u8 (Ax.I.lit 241)), (Ax.AV.int .u8 (Ax.I.lit 241)), (Ax.AV.int .u8 (Ax.I.lit 241)), (Ax.AV.int .u8 (Ax.I.lit 241)), (Ax.AV.int .u8 (Ax.I.lit 241)), (Ax.AV.int .u8 (Ax.I.lit 241)), (Ax.AV.int .u8 (Ax.I.lit 241)), (Ax.AV.int .u8 (Ax.I.lit 241)), (Ax.AV.int .u8 (Ax.I.lit 241)), (Ax.AV.int .u8 (Ax.I.lit 241)), (Ax.AV.int .u8 (Ax.I.lit 241)), (Ax.AV.int .u8 (Ax.I.lit 241)), (Ax.AV.int .u8 (Ax.I.lit 241)), (Ax.AV.int .u8 (Ax.I.lit 241)), (Ax.AV.int .u8 (Ax.I.lit 241)), (Ax.AV.int .u8 (Ax.I.lit 241)), (Ax.AV.int .u8 (Ax.I.lit 241)), (Ax.AV.int .u8 (Ax.I.lit 241)), (Ax.AV.int .u8 (Ax.I.lit 241)), (Ax.AV.int .u8 (Ax.I.lit 241)), (Ax.AV.int .u8 (Ax.I.lit 241)), (Ax.AV.int .u8 (Ax.I.lit 241)), (Ax.AV.int .u8 (Ax.I.lit 241)), (Ax.AV.int .u8 (Ax.I.lit 241)), (Ax.AV.int .u8 (Ax.I.lit 241)), (Ax.AV.int .u8 (Ax.I.lit 241)), (Ax.AV.int .u8 (Ax.I.lit 241)), (Ax.AV.int .u8 (Ax.I.lit 241)), (Ax.AV.int .u8 (Ax.I.lit 241)), (Ax.AV.int .u8 (Ax.I.lit 241)), (Ax.AV.int .u8 (Ax.I.lit 241)), (Ax.AV.int .u8 (Ax.I.lit 241)), (Ax.AV.int .u8 (Ax.I.lit 241)), (Ax.AV.int .u8 (Ax.I.lit 241)), (Ax.AV.int .u8 (Ax.I.lit 241)), (Ax.AV.int .u8 (Ax.I.lit 241)), (Ax.AV.int .u8 (Ax.I.lit 241)), (Ax.AV.int .u8 (Ax.I.lit 241)), (Ax.AV.int .u8 (Ax.I.lit 241)), (Ax.AV.int .u8 (Ax.I.lit 241)), (Ax.AV.int .u8 (Ax.I.lit 241)), (Ax.AV.int .u8 (Ax.I.lit 241)), (Ax.AV.int .u8 (Ax.I.lit 241)), (Ax.AV.int .u8 (Ax.I.lit 241)), (Ax.AV.int .u8 (Ax.I.lit 241)), (Ax.AV.int .u8 (Ax.I.lit 241)), (Ax.AV.int .u8 (Ax.I.lit 241)), (Ax.AV.int .u8 (Ax.I.lit 241)), (Ax.AV.int .u8 (Ax.I.lit 241)), (Ax.AV.int .u8 (Ax.I.lit 241)), (Ax.AV.int .u8 (Ax.I.lit 241)), (Ax.AV.int .u8 (Ax.I.lit 241)), (Ax.AV.int .u8 (Ax.I.lit 241)), (Ax.AV.int .u8 (Ax.I.lit 241)), (Ax.AV.int .u8 (Ax.I.lit 241)), (Ax.AV.int .u8 (Ax.I.lit 241)), (Ax.AV.int .u8 (Ax.I.lit 241)), (Ax.AV.int .u8 (Ax.I.lit 241)), (Ax.AV.int .u8 (Ax.I.lit 241)), (Ax.AV.int .u8 (Ax.I.lit 241)), (Ax.AV.int .u8 (Ax.I.lit 241)), (Ax.AV.int .u8 (Ax.I.lit 241)), (Ax.AV.int .u8 (Ax.I.lit 2)), (Ax.AV.int .u8 (Ax.I.lit 2)), (Ax.AV.int .u8 (Ax.I.lit 2)), (Ax.AV.int .u8 (Ax.I.lit 2)), (Ax.AV.int .u8 (Ax.I.lit 2)), (Ax.AV.int .u8 (Ax.I.lit 2)), (Ax.AV.int .u8 (Ax.I.lit 2)), (Ax.AV.int .u8 (Ax.I.lit 2)), (Ax.AV.int .u8 (Ax.I.lit 2)), (Ax.AV.int .u8 (Ax.I.lit 2)), (Ax.AV.int .u8 (Ax.I.lit 2)), (Ax.AV.int .u8 (Ax.I.lit 2)), (Ax.AV.int .u8 (Ax.I.lit 2)), (Ax.AV.int .u8 (Ax.I.lit 2)), (Ax.AV.int .u8 (Ax.I.lit 2)), (Ax.AV.int .u8 (Ax.I.lit 2)), (Ax.AV.int .u8 (Ax.I.lit 2)), (Ax.AV.int .u8 (Ax.I.lit 2)), (Ax.AV.int .u8 (Ax.I.lit 2)), (Ax.AV.int .u8 (Ax.I.lit 2)), (Ax.AV.int .u8 (Ax.I.lit 2)), (Ax.AV.int .u8 (Ax.I.lit 2)), (Ax.AV.int .u8 (Ax.I.lit 2)), (Ax.AV.int .u8 (Ax.I.lit 2)), (Ax.AV.int .u8 (Ax.I.lit 2)), (Ax.AV.int .u8 (Ax.I.lit 2)), (Ax.AV.int .u8 (Ax.I.lit 2)), (Ax.AV.int .u8 (Ax.I.lit 2)), (Ax.AV.int .u8 (Ax.I.lit 2)), (Ax.AV.int .u8 (Ax.I.lit 2)), (Ax.AV.int .u8 (Ax.I.lit 19)), (Ax.AV.int .u8 (Ax.I.lit 3)), (Ax.AV.int .u8 (Ax.I.lit 3)), (Ax.AV.int .u8 (Ax.I.lit 3)), (Ax.AV.int .u8 (Ax.I.lit 3)), (Ax.AV.int .u8 (Ax.I.lit 3)), (Ax.AV.int .u8 (Ax.I.lit 3)), (Ax.AV.int .u8 (Ax.I.lit 3)), (Ax.AV.int .u8 (Ax.I.lit 3)), (Ax.AV.int .u8 (Ax.I.lit 3)), (Ax.AV.int .u8 (Ax.I.lit 3)), (Ax.AV.int .u8 (Ax.I.lit 3)), (Ax.AV.int .u8 (Ax.I.lit 3)), (Ax.AV.int .u8 (Ax.I.lit 35)), (Ax.AV.int .u8 (Ax.I.lit 3)), (Ax.AV.int .u8 (Ax.I.lit 3)), (Ax.AV.int .u8 (Ax.I.lit 52)), (Ax.AV.int .u8 (Ax.I.lit 4)), (Ax.AV.int .u8 (Ax.I.lit 4)), (Ax.AV.int .u8 (Ax.I.lit 4)), (Ax.AV.int .u8 (Ax.I.lit 68)), (Ax.AV.int .u8 (Ax.I.lit 241)), (Ax.AV.int .u8 (Ax.I.lit 241)), (Ax.AV.int .u8 (Ax.I.lit 241)), (Ax.AV.int .u8 (Ax.I.lit 241)), (Ax.AV.int .u8 (Ax.I.lit 241)), (Ax.AV.int .u8 (Ax.I.lit 241)), (Ax.AV.int .u8 (Ax.I.lit 241)), (Ax.AV.int .u8 (Ax.I.lit 241)), (Ax.AV.int .u8 (Ax.I.lit 241)), (Ax.AV.int .u8 (Ax.I.lit 241)), (Ax.AV.int .u8 (Ax.I.lit 241))])[(((((List.getD s_0 0 0)).toNat : Nat) : Int)).toNat]?) fun x_0 =>
   bif (decide (240 ≤ x_0)) then (bif (decide (((0 : Int) ≤ 0) ∧ (0 < (((s_0).length : Nat) : Int)))) then (some [(.i (arith .or .i32 (arith .andNot .i32 (i32 ((((List.getD s_0 0 0)).toNat : Nat) : Int)) (arith .shr .i32 (arith .shl .i32 (i32 x_0) 31) 31)) (arith .and .i32 65533 (arith .shr .i32 (arith .shl .i32 (i32 x_0) 31) 31)))), (.i 1)]) else none) else
   (bif (decide ((0 ≤ (arith .shr .u8 x_0 4)) ∧ ((arith .shr .u8 x_0 4) < 16))) then (Option.bind (asI .u8 ((List.drop (((arith .shr .u8 x_0 4)).toNat * 2) [(Ax.AV.int .u8 (Ax.I.lit 128)), (Ax.AV.int .u8 (Ax.I.lit 191)), (Ax.AV.int .u8 (Ax.I.lit 160)), (Ax.AV.int .u8 (Ax.I.lit 191)), (Ax.AV.int .u8 (Ax.I.lit 128)), (Ax.AV.int .u8 (Ax.I.lit 159)), (Ax.AV.int .u8 (Ax.I.lit 144)), (Ax.AV.int .u8 (Ax.I.lit 191)), (Ax.AV.int .u8 (Ax.I.lit 128)), (Ax.AV.int .u8 (Ax.I.lit 143)), (Ax.AV.int .u8 (Ax.I.lit 0)), (Ax.AV.int .u8 (Ax.I.lit 0)), (Ax.AV.int .u8 (Ax.I.lit 0)), (Ax.AV.int .u8 (Ax.I.lit 0)), (Ax.AV.int .u8 (Ax.I.lit 0)), (Ax.AV.int .u8 (Ax.I.lit 0)), (Ax.AV.int .u8 (Ax.I.lit 0)), (Ax.AV.int .u8 (Ax.I.lit 0)), (Ax.AV.int .u8 (Ax.I.lit 0)), (Ax.AV.int .u8 (Ax.I.lit 0)), (Ax.AV.int .u8 (Ax.I.lit 0)), (Ax.AV.int .u8 (Ax.I.lit 0)), (Ax.AV.int .u8 (Ax.I.lit 0)), (Ax.AV.int .u8 (Ax.I.lit 0)), (Ax.AV.int .u8 (Ax.I.lit 0)), (Ax.AV.int .u8 (Ax.I.lit 0)), (Ax.AV.int .u8 (Ax.I.lit 0)), (Ax.AV.int .u8 (Ax.I.lit 0)), (Ax.AV.int .u8 (Ax.I.lit 0)), (Ax.AV.int .u8 (Ax.I.lit 0)), (Ax.AV.int .u8 (Ax.I.lit 0)), (Ax.AV.int .u8 (Ax.I.lit 0))]))[0]?) fun x_1 =>
    Option.bind (asI .u8 ((List.drop 1 (List.drop (((arith .shr .u8 x_0 4)).toNat * 2) [(Ax.AV.int .u8 (Ax.I.lit 128)), (Ax.AV.int .u8 (Ax.I.lit 191)), (Ax.AV.int .u8 (Ax.I.lit 160)), (Ax.AV.int .u8 (Ax.I.lit 191)), (Ax.AV.int .u8 (Ax.I.lit 128)), (Ax.AV.int .u8 (Ax.I.lit 159)), (Ax.AV.int .u8 (Ax.I.lit 144)), (Ax.AV.int .u8 (Ax.I.lit 191)), (Ax.AV.int .u8 (Ax.I.lit 128)), (Ax.AV.int .u8 (Ax.I.lit 143)), (Ax.AV.int .u8 (Ax.I.lit 0)), (Ax.AV.int .u8 (Ax.I.lit 0)), (Ax.AV.int .u8 (Ax.I.lit 0)), (Ax.AV.int .u8 (Ax.I.lit 0)), (Ax.AV.int .u8 (Ax.I.lit 0)), (Ax.AV.int .u8 (Ax.I.lit 0)), (Ax.AV.int .u8 (Ax.I.lit 0)), (Ax.AV.int .u8 (Ax.I.lit 0)), (Ax.AV.int .u8 (Ax.I.lit 0)), (Ax.AV.int .u8 (Ax.I.lit 0)), (Ax.AV.int .u8 (Ax.I.lit 0)), (Ax.AV.int .u8 (Ax.I.lit 0)), (Ax.AV.int .u8 (Ax.I.lit 0)), (Ax.AV.int .u8 (Ax.I.lit 0)), (Ax.AV.int .u8 (Ax.I.lit 0)), (Ax.AV.int .u8 (Ax.I.lit 0)), (Ax.AV.int .u8 (Ax.I.lit 0)), (Ax.AV.int .u8 (Ax.I.lit 0)), (Ax.AV.int .u8 (Ax.I.lit 0)), (Ax.AV.int .u8 (Ax.I.lit 0)), (Ax.AV.int .u8 (Ax.I.lit 0)), (Ax.AV.int .u8 (Ax.I.lit 0))])))[0]?) fun x_2 =>
    bif (decide ((((s_0).length : Nat) : Int) < (i64 (arith .and .u8 x_0 7)))) then (some [(.i 65533), (.i 1)]) else
    (bif (decide (((0 : Int) ≤ 1) ∧ (1 < (((s_0).length : Nat) : Int)))) then (Option.bind (bif (decide (((((List.getD s_0 1 0)).toNat : Nat) : Int) < x_1)) then (some true) else
      (bif (decide (x_2 < ((((List.getD s_0 1 0)).toNat : Nat) : Int))) then (some true) else
       (some false))) fun b_0 =>
     bif b_0 then (some [(.i 65533), (.i 1)]) else
     (bif (decide ((i64 (arith .and .u8 x_0 7)) ≤ 2)) then (some [(.i (arith .or .i32 (arith .shl .i32 (i32 (arith .and .u8 ((((List.getD s_0 0 0)).toNat : Nat) : Int) 31)) 6) (i32 (arith .and .u8 ((((List.getD s_0 1 0)).toNat : Nat) : Int) 63)))), (.i 2)]) else
      (bif (decide (((0 : Int) ≤ 2) ∧ (2 < (((s_0).length : Nat) : Int)))) then (Option.bind (bif (decide (((((List.getD s_0 2 0)).toNat : Nat) : Int) < 128)) then (some true) else
        (bif (decide (191 < ((((List.getD s_0 2 0)).toNat : Nat) : Int))) then (some true) else
         (some false))) fun b_1 =>
       bif b_1 then (some [(.i 65533), (.i 1)]) else
       (bif (decide ((i64 (arith .and .u8 x_0 7)) ≤ 3)) then (some [(.i (arith .or .i32 (arith .or .i32 (arith .shl .i32 (i32 (arith .and .u8 ((((List.getD s_0 0 0)).toNat : Nat) : Int) 15)) 12) (arith .shl .i32 (i32 (arith .and .u8 ((((List.getD s_0 1 0)).toNat : Nat) : Int) 63)) 6)) (i32 (arith .and .u8 ((((List.getD s_0 2 0)).toNat : Nat) : Int) 63)))), (.i 3)]) else
        (bif (decide (((0 : Int) ≤ 3) ∧ (3 < (((s_0).length : Nat) : Int)))) then (Option.bind (bif (decide (((((List.getD s_0 3 0)).toNat : Nat) : Int) < 128)) then (some true) else
          (bif (decide (191 < ((((List.getD s_0 3 0)).toNat : Nat) : Int))) then (some true) else
           (some false))) fun b_2 =>
         bif b_2 then (some [(.i 65533), (.i 1)]) else
         (some [(.i (arith .or .i32 (arith .or .i32 (arith .or .i32 (arith .shl .i32 (i32 (arith .and .u8 ((((List.getD s_0 0 0)).toNat : Nat) : Int) 7)) 18) (arith .shl .i32 (i32 (arith .and .u8 ((((List.getD s_0 1 0)).toNat : Nat) : Int) 63)) 12)) (arith .shl .i32 (i32 (arith .and .u8 ((((List.getD s_0 2 0)).toNat : Nat) : Int) 63)) 6)) (i32 (arith .and .u8 ((((List.getD s_0 3 0)).toNat : Nat) : Int) 63)))), (.i 4)])) else none))) else none))) else none)) else none)) else none) else none)
noncomputable def F_unicode_utf8_DecodeRuneInString : List Dat → Option (List Dat) := fun ds_0 =>
  onS ds_0 fun s_0 ds_1 =>
  Option.bind (bif (!(s_0 == ([] : List UInt8))) then (bif (decide (((0 : Int) ≤ 0) ∧ (0 < (((s_0).length : Nat) : Int)))) then (bif (decide (((((List.getD s_0 0 0)).toNat : Nat) : Int) < 128)) then (some true) else
    (some false)) else none) else
   (some false)) fun b_0 =>
  bif b_0 then (bif (decide (((0 : Int) ≤ 0) ∧ (0 < (((s_0).length : Nat) : Int)))) then (some [(.i (i32 ((((List.getD s_0 0 0)).toNat : Nat) : Int))), (.i 1)]) else none) else
  (Option.bind (F_unicode_utf8_decodeRuneInStringSlow [(.s s_0)]) fun r_0 =>
   onI r_0 fun i_0 ds_2 =>
   onI ds_2 fun i_1 ds_3 =>
   some [(.i i_0), (.i i_1)])
noncomputable def F_unicode_SimpleFold : List Dat → Option (List Dat) := fun ds_0 =>
  onI ds_0 fun r_0 ds_1 =>
  Option.bind (bif (decide (r_0 < 0)) then (some true) else
   (bif (decide (1114111 < r_0)) then (some true) else
    (some false))) fun b_0 =>
  bif b_0 then (some [(.i r_0)]) else
  (bif (decide ((i64 r_0) < 128)) then (bif (decide ((0 ≤ r_0) ∧ (r_0 < 128))) then (Option.bind (asI .u16 ([(Ax.AV.int .u16 (Ax.I.lit 0)), (Ax.AV.int .u16 (Ax.I.lit 1)), (Ax.AV.int .u16 (Ax.I.lit 2)), (Ax.AV.int .u16 (Ax.I.lit 3)), (Ax.AV.int .u16 (Ax.I.lit 4)), (Ax.AV.int .u16 (Ax.I.lit 5)), (Ax.AV.int .u16 (Ax.I.lit 6)), (Ax.AV.int .u16 (Ax.I.lit 7)), (Ax.AV.int .u16 (Ax.I.lit 8)), (Ax.AV.int .u16 (Ax.I.lit 9)), (Ax.AV.int .u16 (Ax.I.lit 10)), (Ax.AV.int .u16 (Ax.I.lit 11)), (Ax.AV.int .u16 (Ax.I.lit 12)), (Ax.AV.int .u16 (Ax.I.lit 13)), (Ax.AV.int .u16 (Ax.I.lit 14)), (Ax.AV.int .u16 (Ax.I.lit 15)), (Ax.AV.int .u16 (Ax.I.lit 16)), (Ax.AV.int .u16 (Ax.I.lit 17)), (Ax.AV.int .u16 (Ax.I.lit 18)), (Ax.AV.int .u16 (Ax.I.lit 19)), (Ax.AV.int .u16 (Ax.I.lit 20)), (Ax.AV.int .u16 (Ax.I.lit 21)), (Ax.AV.int .u16 (Ax.I.lit 22)), (Ax.AV.int .u16 (Ax.I.lit 23)), (Ax.AV.int .u16 (Ax.I.lit 24)), (Ax.AV.int .u16 (Ax.I.lit 25)), (Ax.AV.int .u16 (Ax.I.lit 26)), (Ax.AV.int .u16 (Ax.I.lit 27)), (Ax.AV.int .u16 (Ax.I.lit 28)), (Ax.AV.int .u16 (Ax.I.lit 29)), (Ax.AV.int .u16 (Ax.I.lit 30)), (Ax.AV.int .u16 (Ax.I.lit 31)), (Ax.AV.int .u16 (Ax.I.lit 32)), (Ax.AV.int .u16 (Ax.I.lit 33)), (Ax.AV.int .u16 (Ax.I.lit 34)), (Ax.AV.int .u16 (Ax.I.lit 35)), (Ax.AV.int .u16 (Ax.I.lit 36)), (Ax.AV.int .u16 (Ax.I.lit 37)), (Ax.AV.int .u16 (Ax.I.lit 38)), (Ax.AV.int .u16 (Ax.I.lit 39)), (Ax.AV.int .u16 (Ax.I.lit 40)), (Ax.AV.int .u16 (Ax.I.lit 41)), (Ax.AV.int .u16 (Ax.I.lit 42)), (Ax.AV.int .u16 (Ax.I.lit 43)), (Ax.AV.int .u16 (Ax.I.lit 44)), (Ax.AV.int .u16 (Ax.I.lit 45)), (Ax.AV.int .u16 (Ax.I.lit 46)), (Ax.AV.int .u16 (Ax.I.lit 47)), (Ax.AV.int .u16 (Ax.I.lit 48)), (Ax.AV.int .u16 (Ax.I.lit 49)), (Ax.AV.int .u16 (Ax.I.lit 50)), (Ax.AV.int .u16 (Ax.I.lit 51)), (Ax.AV.int .u16 (Ax.I.lit 52)), (Ax.AV.int .u16 (Ax.I.lit 53)), (Ax.AV.int .u16 (Ax.I.lit 54)), (Ax.AV.int .u16 (Ax.I.lit 55)), (Ax.AV.int .u16 (Ax.I.lit 56)), (Ax.AV.int .u16 (Ax.I.lit 57)), (Ax.AV.int .u16 (Ax.I.lit 58)), (Ax.AV.int .u16 (Ax.I.lit 59)), (Ax.AV.int .u16 (Ax.I.lit 60)), (Ax.AV.int .u16 (Ax.I.lit 61)), (Ax.AV.int .u16 (Ax.I.lit 62)), (Ax.AV.int .u16 (Ax.I.lit 63)), (Ax.AV.int .u16 (Ax.I.lit 64)), (Ax.AV.int .u16 (Ax.I.lit 97)), (Ax.AV.int .u16 (Ax.I.lit 98)), (Ax.AV.int .u16 (Ax.I.lit 99)), (Ax.AV.int .u16 (Ax.I.lit 100)), (Ax.AV.int .u16 (Ax.I.lit 101)), (Ax.AV.int .u16 (Ax.I.lit 102)), (Ax.AV.int .u16 (Ax.I.lit 103)), (Ax.AV.int .u16 (Ax.I.lit 104)), (Ax.AV.int .u16 (Ax.I.lit 105)), (Ax.AV.int .u16 (Ax.I.lit 106)), (Ax.AV.int .u16 (Ax.I.lit 107)), (Ax.AV.int .u16 (Ax.I.lit 108)), (Ax.AV.int .u16 (Ax.I.lit 109)), (Ax.AV.int .u16 (Ax.I.lit 110)), (Ax.AV.int .u16 (Ax.I.lit 111)), (Ax.AV.int .u16 (Ax.I.lit 112)), (Ax.AV.int .u16 (Ax.I.lit 113)), (Ax.AV.int .u16 (Ax.I.lit 114)), (Ax.AV.int .u16 (Ax.I.lit 115)), (Ax.AV.int .u16 (Ax.I.lit 116)), (Ax.AV.int .u16 (Ax.I.lit 117)), (Ax.AV.int .u16 (Ax.I.lit 118)), (Ax.AV.int .u16 (Ax.I.lit 119)), (Ax.AV.int .u16 (Ax.I.lit 120)), (Ax.AV.int .u16 (Ax.I.lit 121)), (Ax.AV.int .u16 (Ax.I.lit 122)), (Ax.AV.int .u16 (Ax.I.lit 91)), (Ax.AV.int .u16 (Ax.I.lit 92)), (Ax.AV.int .u16 (Ax.I.lit 93)), (Ax.AV.int .u16 (Ax.I.lit 94)), (Ax.AV.int .u16 (Ax.I.lit 95)), (Ax.AV.int .u16 (Ax.I.lit 96)), (Ax.AV.int .u16 (Ax.I.lit 65)), (Ax.AV.int .u16 (Ax.I.lit 66)), (Ax.AV.int .u16 (Ax.I.lit 67)), (Ax.AV.int .u16 (Ax.I.lit 68)), (Ax.AV.int .u16 (Ax.I.lit 69)), (Ax.AV.int .u16 (Ax.I.lit 70)), (Ax.AV.int .u16 (Ax.I.lit 71)), (Ax.AV.int .u16 (Ax.I.lit 72)), (Ax.AV.int .u16 (Ax.I.lit 73)), (Ax.AV.int .u16 (Ax.I.lit 74)), (Ax.AV.int .u16 (Ax.I.lit 8490)), (Ax.AV.int .u16 (Ax.I.lit 76)), (Ax.AV.int .u16 (Ax.I.lit 77)), (Ax.AV.int .u16 (Ax.I.lit 78)), (Ax.AV.int .u16 (Ax.I.lit 79)), (Ax.AV.int .u16 (Ax.I.lit 80)), (Ax.AV.int .u16 (Ax.I.lit 81)), (Ax.AV.int .u16 (Ax.I.lit 82)), (Ax.AV.int .u16 (Ax.I.lit 383)), (Ax.AV.int .u16 (Ax.I.lit 84)), (Ax.AV.int .u16 (Ax.I.lit 85)), (Ax.AV.int .u16 (Ax.I.lit 86)), (Ax.AV.int .u16 (Ax.I.lit 87)), (Ax.AV.int .u16 (Ax.I.lit 88)), (Ax.AV.int .u16 (Ax.I.lit 89)), (Ax.AV.int .u16 (Ax.I.lit 90)), (Ax.AV.int .u16 (Ax.I.lit 123)), (Ax.AV.int .u16 (Ax.I.lit 124)), (Ax.AV.int .u16 (Ax.I.lit 125)), (Ax.AV.int .u16 (Ax.I.lit 126)), (Ax.AV.int .u16 (Ax.I.lit 127))])[(r_0).toNat]?) fun x_0 =>
    some [(.i (i32 x_0))]) else none) else
   (bif (decide (966 < r_0)) then (bif (decide (7296 < r_0)) then (bif (decide (7838 < r_0)) then (bif (decide (8491 < r_0)) then (bif (decide (64261 < r_0)) then (bif (decide (64262 < r_0)) then (Option.bind (some false) fun b_1 =>
          bif b_1 then (none) else
          (none)) else
         (Option.bind (bif (decide (64262 = r_0)) then (some true) else
           (some false)) fun b_2 =>
          bif b_2 then (some [(.i 64261)]) else
          (none))) else
        (bif (decide (42571 < r_0)) then (Option.bind (bif (decide (64261 = r_0)) then (some true) else
           (some false)) fun b_3 =>
          bif b_3 then (some [(.i 64262)]) else
          (none)) else
         (bif (decide (42570 < r_0)) then (Option.bind (bif (decide (42571 = r_0)) then (some true) else
            (some false)) fun b_4 =>
           bif b_4 then (some [(.i 7304)]) else
           (none)) else
          (Option.bind (bif (decide (42570 = r_0)) then (some true) else
            (some false)) fun b_5 =>
           bif b_5 then (some [(.i 42571)]) else
           (none))))) else
       (bif (decide (8163 < r_0)) then (bif (decide (8490 < r_0)) then (Option.bind (bif (decide (8491 = r_0)) then (some true) else
           (some false)) fun b_6 =>
          bif b_6 then (some [(.i 197)]) else
          (none)) else
         (bif (decide (8486 < r_0)) then (Option.bind (bif (decide (8490 = r_0)) then (some true) else
            (some false)) fun b_7 =>
           bif b_7 then (some [(.i 75)]) else
           (none)) else
          (Option.bind (bif (decide (8486 = r_0)) then (some true) else
            (some false)) fun b_8 =>
           bif b_8 then (some [(.i 937)]) else
           (none)))) else
        (bif (decide (8147 < r_0)) then (Option.bind (bif (decide (8163 = r_0)) then (some true) else
           (some false)) fun b_9 =>
          bif b_9 then (some [(.i 944)]) else
          (none)) else
         (bif (decide (8126 < r_0)) then (Option.bind (bif (decide (8147 = r_0)) then (some true) else
            (some false)) fun b_10 =>
           bif b_10 then (some [(.i 912)]) else
           (none)) else
          (Option.bind (bif (decide (8126 = r_0)) then (some true) else
            (some false)) fun b_11 =>
           bif b_11 then (some [(.i 837)]) else
           (none)))))) else
      (bif (decide (7302 < r_0)) then (bif (decide (7776 < r_0)) then (bif (decide (7835 < r_0)) then (Option.bind (bif (decide (7838 = r_0)) then (some true) else
           (some false)) fun b_12 =>
          bif b_12 then (some [(.i 223)]) else
          (none)) else
         (bif (decide (7777 < r_0)) then (Option.bind (bif (decide (7835 = r_0)) then (some true) else
            (some false)) fun b_13 =>
           bif b_13 then (some [(.i 7776)]) else
           (none)) else
          (Option.bind (bif (decide (7777 = r_0)) then (some true) else
            (some false)) fun b_14 =>
           bif b_14 then (some [(.i 7835)]) else
           (none)))) else
        (bif (decide (7304 < r_0)) then (Option.bind (bif (decide (7776 = r_0)) then (some true) else
           (some false)) fun b_15 =>
          bif b_15 then (some [(.i 7777)]) else
          (none)) else
         (bif (decide (7303 < r_0)) then (Option.bind (bif (decide (7304 = r_0)) then (some true) else
            (some false)) fun b_16 =>
           bif b_16 then (some [(.i 42570)]) else
           (none)) else
          (Option.bind (bif (decide (7303 = r_0)) then (some true) else
            (some false)) fun b_17 =>
           bif b_17 then (some [(.i 1122)]) else
           (none))))) else
       (bif (decide (7299 < r_0)) then (bif (decide (7301 < r_0)) then (Option.bind (bif (decide (7302 = r_0)) then (some true) else
           (some false)) fun b_18 =>
          bif b_18 then (some [(.i 1066)]) else
          (none)) else
         (bif (decide (7300 < r_0)) then (Option.bind (bif (decide (7301 = r_0)) then (some true) else
            (some false)) fun b_19 =>
           bif b_19 then (some [(.i 1058)]) else
           (none)) else
          (Option.bind (bif (decide (7300 = r_0)) then (some true) else
            (some false)) fun b_20 =>
           bif b_20 then (some [(.i 7301)]) else
           (none)))) else
        (bif (decide (7298 < r_0)) then (Option.bind (bif (decide (7299 = r_0)) then (some true) else
           (some false)) fun b_21 =>
          bif b_21 then (some [(.i 1057)]) else
          (none)) else
         (bif (decide (7297 < r_0)) then (Option.bind (bif (decide (7298 = r_0)) then (some true) else
            (some false)) fun b_22 =>
           bif b_22 then (some [(.i 1054)]) else
           (none)) else
          (Option.bind (bif (decide (7297 = r_0)) then (some true) else
            (some false)) fun b_23 =>
           bif b_23 then (some [(.i 1044)]) else
           (none))))))) else
     (bif (decide (1054 < r_0)) then (bif (decide (1086 < r_0)) then (bif (decide (1098 < r_0)) then (bif (decide (1123 < r_0)) then (Option.bind (bif (decide (7296 = r_0)) then (some true) else
           (some false)) fun b_24 =>
          bif b_24 then (some [(.i 1042)]) else
          (none)) else
         (bif (decide (1122 < r_0)) then (Option.bind (bif (decide (1123 = r_0)) then (some true) else
            (some false)) fun b_25 =>
           bif b_25 then (some [(.i 7303)]) else
           (none)) else
          (Option.bind (bif (decide (1122 = r_0)) then (some true) else
            (some false)) fun b_26 =>
           bif b_26 then (some [(.i 1123)]) else
           (none)))) else
        (bif (decide (1090 < r_0)) then (Option.bind (bif (decide (1098 = r_0)) then (some true) else
           (some false)) fun b_27 =>
          bif b_27 then (some [(.i 7302)]) else
          (none)) else
         (bif (decide (1089 < r_0)) then (Option.bind (bif (decide (1090 = r_0)) then (some true) else
            (some false)) fun b_28 =>
           bif b_28 then (some [(.i 7300)]) else
           (none)) else
          (Option.bind (bif (decide (1089 = r_0)) then (some true) else
            (some false)) fun b_29 =>
           bif b_29 then (some [(.i 7299)]) else
           (none))))) else
       (bif (decide (1066 < r_0)) then (bif (decide (1076 < r_0)) then (Option.bind (bif (decide (1086 = r_0)) then (some true) else
           (some false)) fun b_30 =>
          bif b_30 then (some [(.i 7298)]) else
          (none)) else
         (bif (decide (1074 < r_0)) then (Option.bind (bif (decide (1076 = r_0)) then (some true) else
            (some false)) fun b_31 =>
           bif b_31 then (some [(.i 7297)]) else
           (none)) else
          (Option.bind (bif (decide (1074 = r_0)) then (some true) else
            (some false)) fun b_32 =>
           bif b_32 then (some [(.i 7296)]) else
           (none)))) else
        (bif (decide (1058 < r_0)) then (Option.bind (bif (decide (1066 = r_0)) then (some true) else
           (some false)) fun b_33 =>
          bif b_33 then (some [(.i 1098)]) else
          (none)) else
         (bif (decide (1057 < r_0)) then (Option.bind (bif (decide (1058 = r_0)) then (some true) else
            (some false)) fun b_34 =>
           bif b_34 then (some [(.i 1090)]) else
           (none)) else
          (Option.bind (bif (decide (1057 = r_0)) then (some true) else
            (some false)) fun b_35 =>
           bif b_35 then (some [(.i 1089)]) else
           (none)))))) else
      (bif (decide (1008 < r_0)) then (bif (decide (1013 < r_0)) then (bif (decide (1044 < r_0)) then (Option.bind (bif (decide (1054 = r_0)) then (some true) else
           (some false)) fun b_36 =>
          bif b_36 then (some [(.i 1086)]) else
          (none)) else
         (bif (decide (1042 < r_0)) then (Option.bind (bif (decide (1044 = r_0)) then (some true) else
            (some false)) fun b_37 =>
           bif b_37 then (some [(.i 1076)]) else
           (none)) else
          (Option.bind (bif (decide (1042 = r_0)) then (some true) else
            (some false)) fun b_38 =>
           bif b_38 then (some [(.i 1074)]) else
           (none)))) else
        (bif (decide (1012 < r_0)) then (Option.bind (bif (decide (1013 = r_0)) then (some true) else
           (some false)) fun b_39 =>
          bif b_39 then (some [(.i 917)]) else
          (none)) else
         (bif (decide (1009 < r_0)) then (Option.bind (bif (decide (1012 = r_0)) then (some true) else
            (some false)) fun b_40 =>
           bif b_40 then (some [(.i 920)]) else
           (none)) else
          (Option.bind (bif (decide (1009 = r_0)) then (some true) else
            (some false)) fun b_41 =>
           bif b_41 then (some [(.i 929)]) else
           (none))))) else
       (bif (decide (977 < r_0)) then (bif (decide (982 < r_0)) then (Option.bind (bif (decide (1008 = r_0)) then (some true) else
           (some false)) fun b_42 =>
          bif b_42 then (some [(.i 922)]) else
          (none)) else
         (bif (decide (981 < r_0)) then (Option.bind (bif (decide (982 = r_0)) then (some true) else
            (some false)) fun b_43 =>
           bif b_43 then (some [(.i 928)]) else
           (none)) else
          (Option.bind (bif (decide (981 = r_0)) then (some true) else
            (some false)) fun b_44 =>
           bif b_44 then (some [(.i 934)]) else
           (none)))) else
        (bif (decide (976 < r_0)) then (Option.bind (bif (decide (977 = r_0)) then (some true) else
           (some false)) fun b_45 =>
          bif b_45 then (some [(.i 1012)]) else
          (none)) else
         (bif (decide (969 < r_0)) then (Option.bind (bif (decide (976 = r_0)) then (some true) else
            (some false)) fun b_46 =>
           bif b_46 then (some [(.i 914)]) else
           (none)) else
          (Option.bind (bif (decide (969 = r_0)) then (some true) else
            (some false)) fun b_47 =>
           bif b_47 then (some [(.i 8486)]) else
           (none)))))))) else
    (bif (decide (837 < r_0)) then (bif (decide (937 < r_0)) then (bif (decide (954 < r_0)) then (bif (decide (961 < r_0)) then (bif (decide (963 < r_0)) then (Option.bind (bif (decide (966 = r_0)) then (some true) else
           (some false)) fun b_48 =>
          bif b_48 then (some [(.i 981)]) else
          (none)) else
         (bif (decide (962 < r_0)) then (Option.bind (bif (decide (963 = r_0)) then (some true) else
            (some false)) fun b_49 =>
           bif b_49 then (some [(.i 931)]) else
           (none)) else
          (Option.bind (bif (decide (962 = r_0)) then (some true) else
            (some false)) fun b_50 =>
           bif b_50 then (some [(.i 963)]) else
           (none)))) else
        (bif (decide (960 < r_0)) then (Option.bind (bif (decide (961 = r_0)) then (some true) else
           (some false)) fun b_51 =>
          bif b_51 then (some [(.i 1009)]) else
          (none)) else
         (bif (decide (956 < r_0)) then (Option.bind (bif (decide (960 = r_0)) then (some true) else
            (some false)) fun b_52 =>
           bif b_52 then (some [(.i 982)]) else
           (none)) else
          (Option.bind (bif (decide (956 = r_0)) then (some true) else
            (some false)) fun b_53 =>
           bif b_53 then (some [(.i 181)]) else
           (none))))) else
       (bif (decide (949 < r_0)) then (bif (decide (953 < r_0)) then (Option.bind (bif (decide (954 = r_0)) then (some true) else
           (some false)) fun b_54 =>
          bif b_54 then (some [(.i 1008)]) else
          (none)) else
         (bif (decide (952 < r_0)) then (Option.bind (bif (decide (953 = r_0)) then (some true) else
            (some false)) fun b_55 =>
           bif b_55 then (some [(.i 8126)]) else
           (none)) else
          (Option.bind (bif (decide (952 = r_0)) then (some true) else
            (some false)) fun b_56 =>
           bif b_56 then (some [(.i 977)]) else
           (none)))) else
        (bif (decide (946 < r_0)) then (Option.bind (bif (decide (949 = r_0)) then (some true) else
           (some false)) fun b_57 =>
          bif b_57 then (some [(.i 1013)]) else
          (none)) else
         (bif (decide (944 < r_0)) then (Option.bind (bif (decide (946 = r_0)) then (some true) else
            (some false)) fun b_58 =>
           bif b_58 then (some [(.i 976)]) else
           (none)) else
          (Option.bind (bif (decide (944 = r_0)) then (some true) else
            (some false)) fun b_59 =>
           bif b_59 then (some [(.i 8163)]) else
           (none)))))) else
      (bif (decide (922 < r_0)) then (bif (decide (929 < r_0)) then (bif (decide (934 < r_0)) then (Option.bind (bif (decide (937 = r_0)) then (some true) else
           (some false)) fun b_60 =>
          bif b_60 then (some [(.i 969)]) else
          (none)) else
         (bif (decide (931 < r_0)) then (Option.bind (bif (decide (934 = r_0)) then (some true) else
            (some false)) fun b_61 =>
           bif b_61 then (some [(.i 966)]) else
           (none)) else
          (Option.bind (bif (decide (931 = r_0)) then (some true) else
            (some false)) fun b_62 =>
           bif b_62 then (some [(.i 962)]) else
           (none)))) else
        (bif (decide (928 < r_0)) then (Option.bind (bif (decide (929 = r_0)) then (some true) else
           (some false)) fun b_63 =>
          bif b_63 then (some [(.i 961)]) else
          (none)) else
         (bif (decide (924 < r_0)) then (Option.bind (bif (decide (928 = r_0)) then (some true) else
            (some false)) fun b_64 =>
           bif b_64 then (some [(.i 960)]) else
           (none)) else
          (Option.bind (bif (decide (924 = r_0)) then (some true) else
            (some false)) fun b_65 =>
           bif b_65 then (some [(.i 956)]) else
           (none))))) else
       (bif (decide (917 < r_0)) then (bif (decide (921 < r_0)) then (Option.bind (bif (decide (922 = r_0)) then (some true) else
           (some false)) fun b_66 =>
          bif b_66 then (some [(.i 954)]) else
          (none)) else
         (bif (decide (920 < r_0)) then (Option.bind (bif (decide (921 = r_0)) then (some true) else
            (some false)) fun b_67 =>
           bif b_67 then (some [(.i 953)]) else
           (none)) else
          (Option.bind (bif (decide (920 = r_0)) then (some true) else
            (some false)) fun b_68 =>
           bif b_68 then (some [(.i 952)]) else
           (none)))) else
        (bif (decide (914 < r_0)) then (Option.bind (bif (decide (917 = r_0)) then (some true) else
           (some false)) fun b_69 =>
          bif b_69 then (some [(.i 949)]) else
          (none)) else
         (bif (decide (912 < r_0)) then (Option.bind (bif (decide (914 = r_0)) then (some true) else
            (some false)) fun b_70 =>
           bif b_70 then (some [(.i 946)]) else
           (none)) else
          (Option.bind (bif (decide (912 = r_0)) then (some true) else
            (some false)) fun b_71 =>
           bif b_71 then (some [(.i 8147)]) else
           (none))))))) else
     (bif (decide (452 < r_0)) then (bif (decide (458 < r_0)) then (bif (decide (497 < r_0)) then (bif (decide (499 < r_0)) then (Option.bind (bif (decide (837 = r_0)) then (some true) else
           (some false)) fun b_72 =>
          bif b_72 then (some [(.i 921)]) else
          (none)) else
         (bif (decide (498 < r_0)) then (Option.bind (bif (decide (499 = r_0)) then (some true) else
            (some false)) fun b_73 =>
           bif b_73 then (some [(.i 497)]) else
           (none)) else
          (Option.bind (bif (decide (498 = r_0)) then (some true) else
            (some false)) fun b_74 =>
           bif b_74 then (some [(.i 499)]) else
           (none)))) else
        (bif (decide (460 < r_0)) then (Option.bind (bif (decide (497 = r_0)) then (some true) else
           (some false)) fun b_75 =>
          bif b_75 then (some [(.i 498)]) else
          (none)) else
         (bif (decide (459 < r_0)) then (Option.bind (bif (decide (460 = r_0)) then (some true) else
            (some false)) fun b_76 =>
           bif b_76 then (some [(.i 458)]) else
           (none)) else
          (Option.bind (bif (decide (459 = r_0)) then (some true) else
            (some false)) fun b_77 =>
           bif b_77 then (some [(.i 460)]) else
           (none))))) else
       (bif (decide (455 < r_0)) then (bif (decide (457 < r_0)) then (Option.bind (bif (decide (458 = r_0)) then (some true) else
           (some false)) fun b_78 =>
          bif b_78 then (some [(.i 459)]) else
          (none)) else
         (bif (decide (456 < r_0)) then (Option.bind (bif (decide (457 = r_0)) then (some true) else
            (some false)) fun b_79 =>
           bif b_79 then (some [(.i 455)]) else
           (none)) else
          (Option.bind (bif (decide (456 = r_0)) then (some true) else
            (some false)) fun b_80 =>
           bif b_80 then (some [(.i 457)]) else
           (none)))) else
        (bif (decide (454 < r_0)) then (Option.bind (bif (decide (455 = r_0)) then (some true) else
           (some false)) fun b_81 =>
          bif b_81 then (some [(.i 456)]) else
          (none)) else
         (bif (decide (453 < r_0)) then (Option.bind (bif (decide (454 = r_0)) then (some true) else
            (some false)) fun b_82 =>
           bif b_82 then (some [(.i 452)]) else
           (none)) else
          (Option.bind (bif (decide (453 = r_0)) then (some true) else
            (some false)) fun b_83 =>
           bif b_83 then (some [(.i 454)]) else
           (none)))))) else
      (bif (decide (197 < r_0)) then (bif (decide (304 < r_0)) then (bif (decide (383 < r_0)) then (Option.bind (bif (decide (452 = r_0)) then (some true) else
           (some false)) fun b_84 =>
          bif b_84 then (some [(.i 453)]) else
          (none)) else
         (bif (decide (305 < r_0)) then (Option.bind (bif (decide (383 = r_0)) then (some true) else
            (some false)) fun b_85 =>
           bif b_85 then (some [(.i 83)]) else
           (none)) else
          (Option.bind (bif (decide (305 = r_0)) then (some true) else
            (some false)) fun b_86 =>
           bif b_86 then (some [(.i 305)]) else
           (none)))) else
        (bif (decide (229 < r_0)) then (Option.bind (bif (decide (304 = r_0)) then (some true) else
           (some false)) fun b_87 =>
          bif b_87 then (some [(.i 304)]) else
          (none)) else
         (bif (decide (223 < r_0)) then (Option.bind (bif (decide (229 = r_0)) then (some true) else
            (some false)) fun b_88 =>
           bif b_88 then (some [(.i 8491)]) else
           (none)) else
          (Option.bind (bif (decide (223 = r_0)) then (some true) else
            (some false)) fun b_89 =>
           bif b_89 then (some [(.i 7838)]) else
           (none))))) else
       (bif (decide (107 < r_0)) then (bif (decide (181 < r_0)) then (Option.bind (bif (decide (197 = r_0)) then (some true) else
           (some false)) fun b_90 =>
          bif b_90 then (some [(.i 229)]) else
          (none)) else
         (bif (decide (115 < r_0)) then (Option.bind (bif (decide (181 = r_0)) then (some true) else
            (some false)) fun b_91 =>
           bif b_91 then (some [(.i 924)]) else
           (none)) else
          (Option.bind (bif (decide (115 = r_0)) then (some true) else
            (some false)) fun b_92 =>
           bif b_92 then (some [(.i 383)]) else
           (none)))) else
        (bif (decide (83 < r_0)) then (Option.bind (bif (decide (107 = r_0)) then (some true) else
           (some false)) fun b_93 =>
          bif b_93 then (some [(.i 8490)]) else
          (none)) else
         (bif (decide (75 < r_0)) then (Option.bind (bif (decide (83 = r_0)) then (some true) else
            (some false)) fun b_94 =>
           bif b_94 then (some [(.i 115)]) else
           (none)) else
          (Option.bind (bif (decide (75 = r_0)) then (some true) else
            (some false)) fun b_95 =>
           bif b_95 then (some [(.i 107)]) else
           (none))))))))))
noncomputable def F_strings_EqualFold_L0 : List Dat → Option (List Dat ⊕ List Dat) := fun ds_3 =>
  onS ds_3 fun s_1 ds_4 =>
  onS ds_4 fun t_1 ds_5 =>
  onI ds_5 fun i_0 ds_6 =>
  onI ds_6 fun n_0 ds_7 =>
  bif (decide (i_0 < n_0)) then (bif (decide ((0 ≤ i_0) ∧ (i_0 < (((s_1).length : Nat) : Int)))) then (bif (decide ((0 ≤ i_0) ∧ (i_0 < (((t_1).length : Nat) : Int)))) then (bif (decide (128 ≤ (arith .or .u8 ((((List.getD s_1 (i_0).toNat 0)).toNat : Nat) : Int) ((((List.getD t_1 (i_0).toNat 0)).toNat : Nat) : Int)))) then (none) else
   (bif (decide (((((List.getD t_1 (i_0).toNat 0)).toNat : Nat) : Int) = ((((List.getD s_1 (i_0).toNat 0)).toNat : Nat) : Int))) then (some (.inl [(.s s_1), (.s t_1), (.i (i64 (i_0 + 1))), (.i n_0)])) else
    (bif (decide (((((List.getD t_1 (i_0).toNat 0)).toNat : Nat) : Int) < ((((List.getD s_1 (i_0).toNat 0)).toNat : Nat) : Int))) then (Option.bind (bif (decide (65 ≤ ((((List.getD t_1 (i_0).toNat 0)).toNat : Nat) : Int))) then (bif (decide (((((List.getD t_1 (i_0).toNat 0)).toNat : Nat) : Int) ≤ 90)) then (bif (decide (((((List.getD s_1 (i_0).toNat 0)).toNat : Nat) : Int) = (u8 ((u8 (((((List.getD t_1 (i_0).toNat 0)).toNat : Nat) : Int) + 97)) - 65)))) then (some true) else
         (some false)) else
        (some false)) else
       (some false)) fun b_0 =>
      bif b_0 then (some (.inl [(.s s_1), (.s t_1), (.i (i64 (i_0 + 1))), (.i n_0)])) else
      (Option.map .inr (some [(.b false)]))) else
     (Option.bind (bif (decide (65 ≤ ((((List.getD s_1 (i_0).toNat 0)).toNat : Nat) : Int))) then (bif (decide (((((List.getD s_1 (i_0).toNat 0)).toNat : Nat) : Int) ≤ 90)) then (bif (decide (((((List.getD t_1 (i_0).toNat 0)).toNat : Nat) : Int) = (u8 ((u8 (((((List.getD s_1 (i_0).toNat 0)).toNat : Nat) : Int) + 97)) - 65)))) then (some true) else
         (some false)) else
        (some false)) else
       (some false)) fun b_1 =>
      bif b_1 then (some (.inl [(.s s_1), (.s t_1), (.i (i64 (i_0 + 1))), (.i n_0)])) else
      (Option.map .inr (some [(.b false)])))))) else none) else none) else
  (Option.map .inr (Option.bind (bif (decide ((((s_1).length : Nat) : Int) = (((t_1).length : Nat) : Int))) then (some true) else
     (some false)) fun b_2 =>
    some [(.b b_2)]))
noncomputable def F_strings_EqualFold : List Dat → Option (List Dat) := fun ds_0 =>
  onS ds_0 fun s_0 ds_1 =>
  onS ds_1 fun t_0 ds_2 =>
  iter F_strings_EqualFold_L0 [(.s s_0), (.s t_0), (.i 0), (.i (if (((t_0).length : Nat) : Int) < (((s_0).length : Nat) : Int) then (((t_0).length : Nat) : Int) else (((s_0).length : Nat) : Int)))]
noncomputable def F_dayspec_Parse : List Dat → Option (List Dat) := fun ds_0 =>
  onS ds_0 fun s_0 ds_1 =>
  Option.bind (idxAny [(.s s_0), (.s ([60, 62] : List UInt8))]) fun r_0 =>
  onI r_0 fun i_0 ds_2 =>
  Option.bind (bif (decide (0 ≤ i_0)) then (bif (decide ((i64 (i_0 + 1)) < (((s_0).length : Nat) : Int))) then (some true) else
    (some false)) else
   (some false)) fun b_0 =>
  bif b_0 then (bif (decide ((0 ≤ i_0) ∧ (i_0 < (((s_0).length : Nat) : Int)))) then (bif (decide ((0 ≤ (i64 (i_0 + 1))) ∧ ((i64 (i_0 + 1)) < (((s_0).length : Nat) : Int)))) then (Option.bind (F__dayspec_operator__kind [(.i ((((List.getD s_0 (i_0).toNat 0)).toNat : Nat) : Int)), (.i ((((List.getD s_0 ((i64 (i_0 + 1))).toNat 0)).toNat : Nat) : Int))]) fun r_1 =>
   onI r_1 fun i_1 ds_3 =>
   bif (!decide (i_1 = 0)) then (bif (decide ((0 ≤ i_0) ∧ (i_0 ≤ (((s_0).length : Nat) : Int)))) then (bif (decide ((0 ≤ (i64 (i_0 + 2))) ∧ ((i64 (i_0 + 2)) ≤ (((s_0).length : Nat) : Int)))) then (Option.bind (F_dayspec_between [(.i i_1), (.s (List.take (i_0).toNat (List.drop 0 s_0))), (.s (List.take ((s_0).length - ((i64 (i_0 + 2))).toNat) (List.drop ((i64 (i_0 + 2))).toNat s_0)))]) fun r_2 =>
    onI r_2 fun i_2 ds_4 =>
    onI ds_4 fun i_3 ds_5 =>
    onI ds_5 fun i_4 ds_6 =>
    onI ds_6 fun i_5 ds_7 =>
    some [(.i i_2), (.i i_3), (.i i_4), (.i i_5)]) else none) else none) else
   (bif (decide (4 ≤ (((s_0).length : Nat) : Int))) then (bif (decide (((0 : Int) ≤ 4) ∧ (4 ≤ (((s_0).length : Nat) : Int)))) then (Option.bind (F_strings_EqualFold [(.s (List.take 4 (List.drop 0 s_0))), (.s ([108, 97, 115, 116] : List UInt8))]) fun r_3 =>
     onB r_3 fun b_1 ds_8 =>
     bif b_1 then (bif (decide (((0 : Int) ≤ 4) ∧ (4 ≤ (((s_0).length : Nat) : Int)))) then (Option.bind (F_word_Week [(.s (List.take ((s_0).length - 4) (List.drop 4 s_0)))]) fun r_4 =>
      onI r_4 fun i_6 ds_9 =>
      onI ds_9 fun i_7 ds_10 =>
      bif (!decide (i_7 = 0)) then (some [(.i 0), (.i 0), (.i 0), (.i i_7)]) else
      (some [(.i 2), (.i i_6), (.i 0), (.i 0)])) else none) else
     (Option.bind (F_dayspec_dayNumber [(.s s_0)]) fun r_5 =>
      onI r_5 fun i_8 ds_11 =>
      onI ds_11 fun i_9 ds_12 =>
      bif (!decide (i_9 = 0)) then (some [(.i 0), (.i 0), (.i 0), (.i i_9)]) else
      (some [(.i 1), (.i 0), (.i i_8), (.i 0)]))) else none) else
    (Option.bind (F_dayspec_dayNumber [(.s s_0)]) fun r_6 =>
     onI r_6 fun i_10 ds_13 =>
     onI ds_13 fun i_11 ds_14 =>
     bif (!decide (i_11 = 0)) then (some [(.i 0), (.i 0), (.i 0), (.i i_11)]) else
     (some [(.i 1), (.i 0), (.i i_10), (.i 0)])))) else none) else none) else
  (bif (decide (4 ≤ (((s_0).length : Nat) : Int))) then (bif (decide (((0 : Int) ≤ 4) ∧ (4 ≤ (((s_0).length : Nat) : Int)))) then (Option.bind (F_strings_EqualFold [(.s (List.take 4 (List.drop 0 s_0))), (.s ([108, 97, 115, 116] : List UInt8))]) fun r_7 =>
    onB r_7 fun b_2 ds_15 =>
    bif b_2 then (bif (decide (((0 : Int) ≤ 4) ∧ (4 ≤ (((s_0).length : Nat) : Int)))) then (Option.bind (F_word_Week [(.s (List.take ((s_0).length - 4) (List.drop 4 s_0)))]) fun r_8 =>
     onI r_8 fun i_12 ds_16 =>
     onI ds_16 fun i_13 ds_17 =>
     bif (!decide (i_13 = 0)) then (some [(.i 0), (.i 0), (.i 0), (.i i_13)]) else
     (some [(.i 2), (.i i_12), (.i 0), (.i 0)])) else none) else
    (Option.bind (F_dayspec_dayNumber [(.s s_0)]) fun r_9 =>
     onI r_9 fun i_14 ds_18 =>
     onI ds_18 fun i_15 ds_19 =>
     bif (!decide (i_15 = 0)) then (some [(.i 0), (.i 0), (.i 0), (.i i_15)]) else
     (some [(.i 1), (.i 0), (.i i_14), (.i 0)]))) else none) else
   (Option.bind (F_dayspec_dayNumber [(.s s_0)]) fun r_10 =>
    onI r_10 fun i_16 ds_20 =>
    onI ds_20 fun i_17 ds_21 =>
    bif (!decide (i_17 = 0)) then (some [(.i 0), (.i 0), (.i 0), (.i i_17)]) else
    (some [(.i 1), (.i 0), (.i i_16), (.i 0)])))
noncomputable def F_internal_stringslite_HasPrefix : List Dat → Option (List Dat) := fun ds_0 =>
  onS ds_0 fun s_0 ds_1 =>
  onS ds_1 fun prefix_0 ds_2 =>
  Option.bind (bif (decide ((((prefix_0).length : Nat) : Int) ≤ (((s_0).length : Nat) : Int))) then (bif (decide ((0 ≤ (((prefix_0).length : Nat) : Int)) ∧ ((((prefix_0).length : Nat) : Int) ≤ (((s_0).length : Nat) : Int)))) then (bif ((List.take ((((prefix_0).length : Nat) : Int)).toNat (List.drop 0 s_0)) == prefix_0) then (some true) else
    (some false)) else none) else
   (some false)) fun b_0 =>
  some [(.b b_0)]
noncomputable def F_strings_HasPrefix : List Dat → Option (List Dat) := fun ds_0 =>
  onS ds_0 fun s_0 ds_1 =>
  onS ds_1 fun prefix_0 ds_2 =>
  Option.bind (F_internal_stringslite_HasPrefix [(.s s_0), (.s prefix_0)]) fun r_0 =>
  onB r_0 fun b_0 ds_3 =>
  some [(.b b_0)]
noncomputable def F_law09_works : List Dat → Option (List Dat) := fun _ => some [.b true]
noncomputable def F_law09_DayspecRefuses : List Dat → Option (List Dat) := fun ds_0 =>
  onI ds_0 fun a_0 ds_1 =>
  onI ds_1 fun a_1 ds_2 =>
  onI ds_2 fun a_2 ds_3 =>
  onI ds_3 fun c_0 ds_4 =>
  onI ds_4 fun far_0 ds_5 =>
  Option.bind (F_law09_Made [(.i a_0), (.i a_1), (.i a_2)]) fun r_0 =>
  onI r_0 fun i_0 ds_6 =>
  onI ds_6 fun i_1 ds_7 =>
  onI ds_7 fun i_2 ds_8 =>
  Option.bind (F_dayspec_Print [(.i i_0), (.i i_1), (.i i_2)]) fun r_1 =>
  onS r_1 fun s_0 ds_9 =>
  onI ds_9 fun i_3 ds_10 =>
  bif (!decide (i_3 = 0)) then (some [(.b false)]) else
  (bif (decide (((s_0).length + 1) ≤ 9223372036854775807)) then (bif (decide ((1 + (s_0).length) ≤ 9223372036854775807)) then (bif (decide (((s_0).length + 1) ≤ 9223372036854775807)) then (bif (decide (((s_0).length + 2) ≤ 9223372036854775807)) then (bif (decide ((4 + (s_0).length) ≤ 9223372036854775807)) then (bif (decide (((s_0).length + 1) ≤ 9223372036854775807)) then (Option.bind (F_dayspec_Parse [(.s (s_0 ++ ([32] : List UInt8)))]) fun r_2 =>
   onI r_2 fun i_4 ds_11 =>
   onI ds_11 fun i_5 ds_12 =>
   onI ds_12 fun i_6 ds_13 =>
   onI ds_13 fun i_7 ds_14 =>
   Option.bind (bif ((decide (i_4 = 0)) && ((decide (i_5 = 0)) && ((decide (i_6 = 0)) && true))) then (bif (!decide (i_7 = 5)) then (bif (!decide (i_7 = 8)) then (some true) else
      (some false)) else
     (some false)) else
    (some true)) fun b_0 =>
   bif b_0 then (some [(.b false)]) else
   (Option.bind (F_dayspec_Parse [(.s (([32] : List UInt8) ++ s_0))]) fun r_3 =>
    onI r_3 fun i_8 ds_15 =>
    onI ds_15 fun i_9 ds_16 =>
    onI ds_16 fun i_10 ds_17 =>
    onI ds_17 fun i_11 ds_18 =>
    Option.bind (bif ((decide (i_8 = 0)) && ((decide (i_9 = 0)) && ((decide (i_10 = 0)) && true))) then (bif (!decide (i_11 = 5)) then (bif (!decide (i_11 = 8)) then (some true) else
       (some false)) else
      (some false)) else
     (some true)) fun b_1 =>
    bif b_1 then (some [(.b false)]) else
    (Option.bind (F_dayspec_Parse [(.s (s_0 ++ ([61] : List UInt8)))]) fun r_4 =>
     onI r_4 fun i_12 ds_19 =>
     onI ds_19 fun i_13 ds_20 =>
     onI ds_20 fun i_14 ds_21 =>
     onI ds_21 fun i_15 ds_22 =>
     Option.bind (bif ((decide (i_12 = 0)) && ((decide (i_13 = 0)) && ((decide (i_14 = 0)) && true))) then (bif (!decide (i_15 = 5)) then (bif (!decide (i_15 = 8)) then (some true) else
        (some false)) else
       (some false)) else
      (some true)) fun b_2 =>
     bif b_2 then (some [(.b false)]) else
     (Option.bind (F_dayspec_Parse [(.s (s_0 ++ ([62, 61] : List UInt8)))]) fun r_5 =>
      onI r_5 fun i_16 ds_23 =>
      onI ds_23 fun i_17 ds_24 =>
      onI ds_24 fun i_18 ds_25 =>
      onI ds_25 fun i_19 ds_26 =>
      Option.bind (bif ((decide (i_16 = 0)) && ((decide (i_17 = 0)) && ((decide (i_18 = 0)) && true))) then (bif (!decide (i_19 = 5)) then (bif (!decide (i_19 = 8)) then (some true) else
         (some false)) else
        (some false)) else
       (some true)) fun b_3 =>
      bif b_3 then (some [(.b false)]) else
      (Option.bind (F_dayspec_Parse [(.s (([108, 97, 115, 116] : List UInt8) ++ s_0))]) fun r_6 =>
       onI r_6 fun i_20 ds_27 =>
       onI ds_27 fun i_21 ds_28 =>
       onI ds_28 fun i_22 ds_29 =>
       onI ds_29 fun i_23 ds_30 =>
       Option.bind (bif ((decide (i_20 = 0)) && ((decide (i_21 = 0)) && ((decide (i_22 = 0)) && true))) then (bif (!decide (i_23 = 5)) then (bif (!decide (i_23 = 8)) then (some true) else
          (some false)) else
         (some false)) else
        (some true)) fun b_4 =>
       bif b_4 then (some [(.b false)]) else
       (Option.bind (F_dayspec_Parse [(.s (s_0 ++ ([0] : List UInt8)))]) fun r_7 =>
        onI r_7 fun i_24 ds_31 =>
        onI ds_31 fun i_25 ds_32 =>
        onI ds_32 fun i_26 ds_33 =>
        onI ds_33 fun i_27 ds_34 =>
        Option.bind (bif ((decide (i_24 = 0)) && ((decide (i_25 = 0)) && ((decide (i_26 = 0)) && true))) then (bif (!decide (i_27 = 5)) then (bif (!decide (i_27 = 8)) then (some true) else
           (some false)) else
          (some false)) else
         (some true)) fun b_5 =>
        bif b_5 then (some [(.b false)]) else
        (Option.bind (bytesOf [(Ax.AV.int .u8 (Ax.I.sym c_0))]) fun s_1 =>
         bif (decide (((s_0).length + (s_1).length) ≤ 9223372036854775807)) then (Option.bind (F_dayspec_Parse [(.s (s_0 ++ s_1))]) fun r_8 =>
         onI r_8 fun i_28 ds_35 =>
         onI ds_35 fun i_29 ds_36 =>
         onI ds_36 fun i_30 ds_37 =>
         onI ds_37 fun i_31 ds_38 =>
         bif (decide (i_31 = 0)) then (bif (decide (c_0 < 48)) then (Option.bind (F_strings_HasPrefix [(.s s_0), (.s ([108, 97, 115, 116] : List UInt8))]) fun r_9 =>
           onB r_9 fun b_6 ds_39 =>
           bif (!b_6) then (some [(.b false)]) else
           (bif (!decide (i_31 = 0)) then (bif ((decide (i_28 = 0)) && ((decide (i_29 = 0)) && ((decide (i_30 = 0)) && true))) then (Option.bind (F_dayspec_Print [(.i (i64 (5 + (i64 far_0)))), (.i 0), (.i 0)]) fun r_10 =>
              onS r_10 fun s_2 ds_40 =>
              onI ds_40 fun i_32 ds_41 =>
              Option.bind (bif (!(s_2 == ([] : List UInt8))) then (some true) else
               (bif (!decide (i_32 = 2)) then (some true) else
                (some false))) fun b_7 =>
              bif b_7 then (some [(.b false)]) else
              (Option.bind (F_dayspec_Print [(.i (i64 (0 - (i64 far_0)))), (.i 0), (.i 0)]) fun r_11 =>
               onS r_11 fun s_3 ds_42 =>
               onI ds_42 fun i_33 ds_43 =>
               Option.bind (bif (!(s_3 == ([] : List UInt8))) then (some true) else
                (bif (!decide (i_33 = 2)) then (some true) else
                 (some false))) fun b_8 =>
               bif b_8 then (some [(.b false)]) else
               (Option.bind (F_dayspec_Print [(.i 1), (.i 0), (.i (i64 (32 + (i64 far_0))))]) fun r_12 =>
                onS r_12 fun s_4 ds_44 =>
                onI ds_44 fun i_34 ds_45 =>
                Option.bind (bif (!(s_4 == ([] : List UInt8))) then (some true) else
                 (bif (!decide (i_34 = 2)) then (some true) else
                  (some false))) fun b_9 =>
                bif b_9 then (some [(.b false)]) else
                (Option.bind (F_dayspec_Print [(.i 1), (.i 0), (.i (i64 (0 - (i64 far_0))))]) fun r_13 =>
                 onS r_13 fun s_5 ds_46 =>
                 onI ds_46 fun i_35 ds_47 =>
                 Option.bind (bif (!(s_5 == ([] : List UInt8))) then (some true) else
                  (bif (!decide (i_35 = 2)) then (some true) else
                   (some false))) fun b_10 =>
                 bif b_10 then (some [(.b false)]) else
                 (Option.bind (F_dayspec_Print [(.i 1), (.i (i64 (1 + (i64 far_0)))), (.i 1)]) fun r_14 =>
                  onS r_14 fun s_6 ds_48 =>
                  onI ds_48 fun i_36 ds_49 =>
                  Option.bind (bif (!(s_6 == ([] : List UInt8))) then (some true) else
                   (bif (!decide (i_36 = 2)) then (some true) else
                    (some false))) fun b_11 =>
                  bif b_11 then (some [(.b false)]) else
                  (Option.bind (F_dayspec_Print [(.i 2), (.i (i64 (7 + (i64 far_0)))), (.i 0)]) fun r_15 =>
                   onS r_15 fun s_7 ds_50 =>
                   onI ds_50 fun i_37 ds_51 =>
                   Option.bind (bif (!(s_7 == ([] : List UInt8))) then (some true) else
                    (bif (!decide (i_37 = 2)) then (some true) else
                     (some false))) fun b_12 =>
                   bif b_12 then (some [(.b false)]) else
                   (Option.bind (F_dayspec_Print [(.i 2), (.i (i64 ((-1) - (i64 far_0)))), (.i 0)]) fun r_16 =>
                    onS r_16 fun s_8 ds_52 =>
                    onI ds_52 fun i_38 ds_53 =>
                    Option.bind (bif (!(s_8 == ([] : List UInt8))) then (some true) else
                     (bif (!decide (i_38 = 2)) then (some true) else
                      (some false))) fun b_13 =>
                    bif b_13 then (some [(.b false)]) else
                    (Option.bind (F_dayspec_Print [(.i 2), (.i 0), (.i (i64 (1 + (i64 far_0))))]) fun r_17 =>
                     onS r_17 fun s_9 ds_54 =>
                     onI ds_54 fun i_39 ds_55 =>
                     Option.bind (bif (!(s_9 == ([] : List UInt8))) then (some true) else
                      (bif (!decide (i_39 = 2)) then (some true) else
                       (some false))) fun b_14 =>
                     bif b_14 then (some [(.b false)]) else
                     (Option.bind (F_dayspec_Print [(.i 3), (.i (i64 (7 + (i64 far_0)))), (.i 1)]) fun r_18 =>
                      onS r_18 fun s_10 ds_56 =>
                      onI ds_56 fun i_40 ds_57 =>
                      Option.bind (bif (!(s_10 == ([] : List UInt8))) then (some true) else
                       (bif (!decide (i_40 = 2)) then (some true) else
                        (some false))) fun b_15 =>
                      bif b_15 then (some [(.b false)]) else
                      (Option.bind (F_dayspec_Print [(.i 4), (.i 0), (.i (i64 (32 + (i64 far_0))))]) fun r_19 =>
                       onS r_19 fun s_11 ds_58 =>
                       onI ds_58 fun i_41 ds_59 =>
                       Option.bind (bif (!(s_11 == ([] : List UInt8))) then (some true) else
                        (bif (!decide (i_41 = 2)) then (some true) else
                         (some false))) fun b_16 =>
                       bif b_16 then (some [(.b false)]) else
                       (Option.bind (F_dayspec_Print [(.i 4), (.i 0), (.i (i64 (0 - (i64 far_0))))]) fun r_20 =>
                        onS r_20 fun s_12 ds_60 =>
                        onI ds_60 fun i_42 ds_61 =>
                        Option.bind (bif (!(s_12 == ([] : List UInt8))) then (some true) else
                         (bif (!decide (i_42 = 2)) then (some true) else
                          (some false))) fun b_17 =>
                        bif b_17 then (some [(.b false)]) else
                        (Option.bind (F_law09_works []) fun r_21 =>
                         onB r_21 fun b_18 ds_62 =>
                         some [(.b b_18)])))))))))))) else
             (some [(.b false)])) else
            (Option.bind (F_dayspec_Print [(.i (i64 (5 + (i64 far_0)))), (.i 0), (.i 0)]) fun r_22 =>
             onS r_22 fun s_13 ds_63 =>
             onI ds_63 fun i_43 ds_64 =>
             Option.bind (bif (!(s_13 == ([] : List UInt8))) then (some true) else
              (bif (!decide (i_43 = 2)) then (some true) else
               (some false))) fun b_19 =>
             bif b_19 then (some [(.b false)]) else
             (Option.bind (F_dayspec_Print [(.i (i64 (0 - (i64 far_0)))), (.i 0), (.i 0)]) fun r_23 =>
              onS r_23 fun s_14 ds_65 =>
              onI ds_65 fun i_44 ds_66 =>
              Option.bind (bif (!(s_14 == ([] : List UInt8))) then (some true) else
               (bif (!decide (i_44 = 2)) then (some true) else
                (some false))) fun b_20 =>
              bif b_20 then (some [(.b false)]) else
              (Option.bind (F_dayspec_Print [(.i 1), (.i 0), (.i (i64 (32 + (i64 far_0))))]) fun r_24 =>
               onS r_24 fun s_15 ds_67 =>
               onI ds_67 fun i_45 ds_68 =>
               Option.bind (bif (!(s_15 == ([] : List UInt8))) then (some true) else
                (bif (!decide (i_45 = 2)) then (some true) else
                 (some false))) fun b_21 =>
               bif b_21 then (some [(.b false)]) else
               (Option.bind (F_dayspec_Print [(.i 1), (.i 0), (.i (i64 (0 - (i64 far_0))))]) fun r_25 =>
                onS r_25 fun s_16 ds_69 =>
                onI ds_69 fun i_46 ds_70 =>
                Option.bind (bif (!(s_16 == ([] : List UInt8))) then (some true) else
                 (bif (!decide (i_46 = 2)) then (some true) else
                  (some false))) fun b_22 =>
                bif b_22 then (some [(.b false)]) else
                (Option.bind (F_dayspec_Print [(.i 1), (.i (i64 (1 + (i64 far_0)))), (.i 1)]) fun r_26 =>
                 onS r_26 fun s_17 ds_71 =>
                 onI ds_71 fun i_47 ds_72 =>
                 Option.bind (bif (!(s_17 == ([] : List UInt8))) then (some true) else
                  (bif (!decide (i_47 = 2)) then (some true) else
                   (some false))) fun b_23 =>
                 bif b_23 then (some [(.b false)]) else
                 (Option.bind (F_dayspec_Print [(.i 2), (.i (i64 (7 + (i64 far_0)))), (.i 0)]) fun r_27 =>
                  onS r_27 fun s_18 ds_73 =>
                  onI ds_73 fun i_48 ds_74 =>
                  Option.bind (bif (!(s_18 == ([] : List UInt8))) then (some true) else
                   (bif (!decide (i_48 = 2)) then (some true) else
                    (some false))) fun b_24 =>
                  bif b_24 then (some [(.b false)]) else
                  (Option.bind (F_dayspec_Print [(.i 2), (.i (i64 ((-1) - (i64 far_0)))), (.i 0)]) fun r_28 =>
                   onS r_28 fun s_19 ds_75 =>
                   onI ds_75 fun i_49 ds_76 =>
                   Option.bind (bif (!(s_19 == ([] : List UInt8))) then (some true) else
                    (bif (!decide (i_49 = 2)) then (some true) else
                     (some false))) fun b_25 =>
                   bif b_25 then (some [(.b false)]) else
                   (Option.bind (F_dayspec_Print [(.i 2), (.i 0), (.i (i64 (1 + (i64 far_0))))]) fun r_29 =>
                    onS r_29 fun s_20 ds_77 =>
                    onI ds_77 fun i_50 ds_78 =>
                    Option.bind (bif (!(s_20 == ([] : List UInt8))) then (some true) else
                     (bif (!decide (i_50 = 2)) then (some true) else
                      (some false))) fun b_26 =>
                    bif b_26 then (some [(.b false)]) else
                    (Option.bind (F_dayspec_Print [(.i 3), (.i (i64 (7 + (i64 far_0)))), (.i 1)]) fun r_30 =>
                     onS r_30 fun s_21 ds_79 =>
                     onI ds_79 fun i_51 ds_80 =>
                     Option.bind (bif (!(s_21 == ([] : List UInt8))) then (some true) else
                      (bif (!decide (i_51 = 2)) then (some true) else
                       (some false))) fun b_27 =>
                     bif b_27 then (some [(.b false)]) else
                     (Option.bind (F_dayspec_Print [(.i 4), (.i 0), (.i (i64 (32 + (i64 far_0))))]) fun r_31 =>
                      onS r_31 fun s_22 ds_81 =>
                      onI ds_81 fun i_52 ds_82 =>
                      Option.bind (bif (!(s_22 == ([] : List UInt8))) then (some true) else
                       (bif (!decide (i_52 = 2)) then (some true) else
                        (some false))) fun b_28 =>
                      bif b_28 then (some [(.b false)]) else
                      (Option.bind (F_dayspec_Print [(.i 4), (.i 0), (.i (i64 (0 - (i64 far_0))))]) fun r_32 =>
                       onS r_32 fun s_23 ds_83 =>
                       onI ds_83 fun i_53 ds_84 =>
                       Option.bind (bif (!(s_23 == ([] : List UInt8))) then (some true) else
                        (bif (!decide (i_53 = 2)) then (some true) else
                         (some false))) fun b_29 =>
                       bif b_29 then (some [(.b false)]) else
                       (Option.bind (F_law09_works []) fun r_33 =>
                        onB r_33 fun b_30 ds_85 =>
                        some [(.b b_30)])))))))))))))) else
          (bif (decide (57 < c_0)) then (Option.bind (F_strings_HasPrefix [(.s s_0), (.s ([108, 97, 115, 116] : List UInt8))]) fun r_34 =>
            onB r_34 fun b_31 ds_86 =>
            bif (!b_31) then (some [(.b false)]) else
            (bif (!decide (i_31 = 0)) then (bif ((decide (i_28 = 0)) && ((decide (i_29 = 0)) && ((decide (i_30 = 0)) && true))) then (Option.bind (F_dayspec_Print [(.i (i64 (5 + (i64 far_0)))), (.i 0), (.i 0)]) fun r_35 =>
               onS r_35 fun s_24 ds_87 =>
               onI ds_87 fun i_54 ds_88 =>
               Option.bind (bif (!(s_24 == ([] : List UInt8))) then (some true) else
                (bif (!decide (i_54 = 2)) then (some true) else
                 (some false))) fun b_32 =>
               bif b_32 then (some [(.b false)]) else
               (Option.bind (F_dayspec_Print [(.i (i64 (0 - (i64 far_0)))), (.i 0), (.i 0)]) fun r_36 =>
                onS r_36 fun s_25 ds_89 =>
                onI ds_89 fun i_55 ds_90 =>
                Option.bind (bif (!(s_25 == ([] : List UInt8))) then (some true) else
                 (bif (!decide (i_55 = 2)) then (some true) else
                  (some false))) fun b_33 =>
                bif b_33 then (some [(.b false)]) else
                (Option.bind (F_dayspec_Print [(.i 1), (.i 0), (.i (i64 (32 + (i64 far_0))))]) fun r_37 =>
                 onS r_37 fun s_26 ds_91 =>
                 onI ds_91 fun i_56 ds_92 =>
                 Option.bind (bif (!(s_26 == ([] : List UInt8))) then (some true) else
                  (bif (!decide (i_56 = 2)) then (some true) else
                   (some false))) fun b_34 =>
                 bif b_34 then (some [(.b false)]) else
                 (Option.bind (F_dayspec_Print [(.i 1), (.i 0), (.i (i64 (0 - (i64 far_0))))]) fun r_38 =>
                  onS r_38 fun s_27 ds_93 =>
                  onI ds_93 fun i_57 ds_94 =>
                  Option.bind (bif (!(s_27 == ([] : List UInt8))) then (some true) else
                   (bif (!decide (i_57 = 2)) then (some true) else
                    (some false))) fun b_35 =>
                  bif b_35 then (some [(.b false)]) else
                  (Option.bind (F_dayspec_Print [(.i 1), (.i (i64 (1 + (i64 far_0)))), (.i 1)]) fun r_39 =>
                   onS r_39 fun s_28 ds_95 =>
                   onI ds_95 fun i_58 ds_96 =>
                   Option.bind (bif (!(s_28 == ([] : List UInt8))) then (some true) else
                    (bif (!decide (i_58 = 2)) then (some true) else
                     (some false))) fun b_36 =>
                   bif b_36 then (some [(.b false)]) else
                   (Option.bind (F_dayspec_Print [(.i 2), (.i (i64 (7 + (i64 far_0)))), (.i 0)]) fun r_40 =>
                    onS r_40 fun s_29 ds_97 =>
                    onI ds_97 fun i_59 ds_98 =>
                    Option.bind (bif (!(s_29 == ([] : List UInt8))) then (some true) else
                     (bif (!decide (i_59 = 2)) then (some true) else
                      (some false))) fun b_37 =>
                    bif b_37 then (some [(.b false)]) else
                    (Option.bind (F_dayspec_Print [(.i 2), (.i (i64 ((-1) - (i64 far_0)))), (.i 0)]) fun r_41 =>
                     onS r_41 fun s_30 ds_99 =>
                     onI ds_99 fun i_60 ds_100 =>
                     Option.bind (bif (!(s_30 == ([] : List UInt8))) then (some true) else
                      (bif (!decide (i_60 = 2)) then (some true) else
                       (some false))) fun b_38 =>
                     bif b_38 then (some [(.b false)]) else
                     (Option.bind (F_dayspec_Print [(.i 2), (.i 0), (.i (i64 (1 + (i64 far_0))))]) fun r_42 =>
                      onS r_42 fun s_31 ds_101 =>
                      onI ds_101 fun i_61 ds_102 =>
                      Option.bind (bif (!(s_31 == ([] : List UInt8))) then (some true) else
                       (bif (!decide (i_61 = 2)) then (some true) else
                        (some false))) fun b_39 =>
                      bif b_39 then (some [(.b false)]) else
                      (Option.bind (F_dayspec_Print [(.i 3), (.i (i64 (7 + (i64 far_0)))), (.i 1)]) fun r_43 =>
                       onS r_43 fun s_32 ds_103 =>
                       onI ds_103 fun i_62 ds_104 =>
                       Option.bind (bif (!(s_32 == ([] : List UInt8))) then (some true) else
                        (bif (!decide (i_62 = 2)) then (some true) else
                         (some false))) fun b_40 =>
                       bif b_40 then (some [(.b false)]) else
                       (Option.bind (F_dayspec_Print [(.i 4), (.i 0), (.i (i64 (32 + (i64 far_0))))]) fun r_44 =>
                        onS r_44 fun s_33 ds_105 =>
                        onI ds_105 fun i_63 ds_106 =>
                        Option.bind (bif (!(s_33 == ([] : List UInt8))) then (some true) else
                         (bif (!decide (i_63 = 2)) then (some true) else
                          (some false))) fun b_41 =>
                        bif b_41 then (some [(.b false)]) else
                        (Option.bind (F_dayspec_Print [(.i 4), (.i 0), (.i (i64 (0 - (i64 far_0))))]) fun r_45 =>
                         onS r_45 fun s_34 ds_107 =>
                         onI ds_107 fun i_64 ds_108 =>
                         Option.bind (bif (!(s_34 == ([] : List UInt8))) then (some true) else
                          (bif (!decide (i_64 = 2)) then (some true) else
                           (some false))) fun b_42 =>
                         bif b_42 then (some [(.b false)]) else
                         (Option.bind (F_law09_works []) fun r_46 =>
                          onB r_46 fun b_43 ds_109 =>
                          some [(.b b_43)])))))))))))) else
              (some [(.b false)])) else
             (Option.bind (F_dayspec_Print [(.i (i64 (5 + (i64 far_0)))), (.i 0), (.i 0)]) fun r_47 =>
              onS r_47 fun s_35 ds_110 =>
              onI ds_110 fun i_65 ds_111 =>
              Option.bind (bif (!(s_35 == ([] : List UInt8))) then (some true) else
               (bif (!decide (i_65 = 2)) then (some true) else
                (some false))) fun b_44 =>
              bif b_44 then (some [(.b false)]) else
              (Option.bind (F_dayspec_Print [(.i (i64 (0 - (i64 far_0)))), (.i 0), (.i 0)]) fun r_48 =>
               onS r_48 fun s_36 ds_112 =>
               onI ds_112 fun i_66 ds_113 =>
               Option.bind (bif (!(s_36 == ([] : List UInt8))) then (some true) else
                (bif (!decide (i_66 = 2)) then (some true) else
                 (some false))) fun b_45 =>
               bif b_45 then (some [(.b false)]) else
               (Option.bind (F_dayspec_Print [(.i 1), (.i 0), (.i (i64 (32 + (i64 far_0))))]) fun r_49 =>
                onS r_49 fun s_37 ds_114 =>
                onI ds_114 fun i_67 ds_115 =>
                Option.bind (bif (!(s_37 == ([] : List UInt8))) then (some true) else
                 (bif (!decide (i_67 = 2)) then (some true) else
                  (some false))) fun b_46 =>
                bif b_46 then (some [(.b false)]) else
                (Option.bind (F_dayspec_Print [(.i 1), (.i 0), (.i (i64 (0 - (i64 far_0))))]) fun r_50 =>
                 onS r_50 fun s_38 ds_116 =>
                 onI ds_116 fun i_68 ds_117 =>
                 Option.bind (bif (!(s_38 == ([] : List UInt8))) then (some true) else
                  (bif (!decide (i_68 = 2)) then (some true) else
                   (some false))) fun b_47 =>
                 bif b_47 then (some [(.b false)]) else
                 (Option.bind (F_dayspec_Print [(.i 1), (.i (i64 (1 + (i64 far_0)))), (.i 1)]) fun r_51 =>
                  onS r_51 fun s_39 ds_118 =>
                  onI ds_118 fun i_69 ds_119 =>
                  Option.bind (bif (!(s_39 == ([] : List UInt8))) then (some true) else
                   (bif (!decide (i_69 = 2)) then (some true) else
                    (some false))) fun b_48 =>
                  bif b_48 then (some [(.b false)]) else
                  (Option.bind (F_dayspec_Print [(.i 2), (.i (i64 (7 + (i64 far_0)))), (.i 0)]) fun r_52 =>
                   onS r_52 fun s_40 ds_120 =>
                   onI ds_120 fun i_70 ds_121 =>
                   Option.bind (bif (!(s_40 == ([] : List UInt8))) then (some true) else
                    (bif (!decide (i_70 = 2)) then (some true) else
                     (some false))) fun b_49 =>
                   bif b_49 then (some [(.b false)]) else
                   (Option.bind (F_dayspec_Print [(.i 2), (.i (i64 ((-1) - (i64 far_0)))), (.i 0)]) fun r_53 =>
                    onS r_53 fun s_41 ds_122 =>
                    onI ds_122 fun i_71 ds_123 =>
                    Option.bind (bif (!(s_41 == ([] : List UInt8))) then (some true) else
                     (bif (!decide (i_71 = 2)) then (some true) else
                      (some false))) fun b_50 =>
                    bif b_50 then (some [(.b false)]) else
                    (Option.bind (F_dayspec_Print [(.i 2), (.i 0), (.i (i64 (1 + (i64 far_0))))]) fun r_54 =>
                     onS r_54 fun s_42 ds_124 =>
                     onI ds_124 fun i_72 ds_125 =>
                     Option.bind (bif (!(s_42 == ([] : List UInt8))) then (some true) else
                      (bif (!decide (i_72 = 2)) then (some true) else
                       (some false))) fun b_51 =>
                     bif b_51 then (some [(.b false)]) else
                     (Option.bind (F_dayspec_Print [(.i 3), (.i (i64 (7 + (i64 far_0)))), (.i 1)]) fun r_55 =>
                      onS r_55 fun s_43 ds_126 =>
                      onI ds_126 fun i_73 ds_127 =>
                      Option.bind (bif (!(s_43 == ([] : List UInt8))) then (some true) else
                       (bif (!decide (i_73 = 2)) then (some true) else
                        (some false))) fun b_52 =>
                      bif b_52 then (some [(.b false)]) else
                      (Option.bind (F_dayspec_Print [(.i 4), (.i 0), (.i (i64 (32 + (i64 far_0))))]) fun r_56 =>
                       onS r_56 fun s_44 ds_128 =>
                       onI ds_128 fun i_74 ds_129 =>
                       Option.bind (bif (!(s_44 == ([] : List UInt8))) then (some true) else
                        (bif (!decide (i_74 = 2)) then (some true) else
                         (some false))) fun b_53 =>
                       bif b_53 then (some [(.b false)]) else
                       (Option.bind (F_dayspec_Print [(.i 4), (.i 0), (.i (i64 (0 - (i64 far_0))))]) fun r_57 =>
                        onS r_57 fun s_45 ds_130 =>
                        onI ds_130 fun i_75 ds_131 =>
                        Option.bind (bif (!(s_45 == ([] : List UInt8))) then (some true) else
                         (bif (!decide (i_75 = 2)) then (some true) else
                          (some false))) fun b_54 =>
                        bif b_54 then (some [(.b false)]) else
                        (Option.bind (F_law09_works []) fun r_58 =>
                         onB r_58 fun b_55 ds_132 =>
                         some [(.b b_55)])))))))))))))) else
           (bif (!decide (i_31 = 0)) then (bif ((decide (i_28 = 0)) && ((decide (i_29 = 0)) && ((decide (i_30 = 0)) && true))) then (Option.bind (F_dayspec_Print [(.i (i64 (5 + (i64 far_0)))), (.i 0), (.i 0)]) fun r_59 =>
              onS r_59 fun s_46 ds_133 =>
              onI ds_133 fun i_76 ds_134 =>
              Option.bind (bif (!(s_46 == ([] : List UInt8))) then (some true) else
               (bif (!decide (i_76 = 2)) then (some true) else
                (some false))) fun b_56 =>
              bif b_56 then (some [(.b false)]) else
              (Option.bind (F_dayspec_Print [(.i (i64 (0 - (i64 far_0)))), (.i 0), (.i 0)]) fun r_60 =>
               onS r_60 fun s_47 ds_135 =>
               onI ds_135 fun i_77 ds_136 =>
               Option.bind (bif (!(s_47 == ([] : List UInt8))) then (some true) else
                (bif (!decide (i_77 = 2)) then (some true) else
                 (some false))) fun b_57 =>
               bif b_57 then (some [(.b false)]) else
               (Option.bind (F_dayspec_Print [(.i 1), (.i 0), (.i (i64 (32 + (i64 far_0))))]) fun r_61 =>
                onS r_61 fun s_48 ds_137 =>
                onI ds_137 fun i_78 ds_138 =>
                Option.bind (bif (!(s_48 == ([] : List UInt8))) then (some true) else
                 (bif (!decide (i_78 = 2)) then (some true) else
                  (some false))) fun b_58 =>
                bif b_58 then (some [(.b false)]) else
                (Option.bind (F_dayspec_Print [(.i 1), (.i 0), (.i (i64 (0 - (i64 far_0))))]) fun r_62 =>
                 onS r_62 fun s_49 ds_139 =>
                 onI ds_139 fun i_79 ds_140 =>
                 Option.bind (bif (!(s_49 == ([] : List UInt8))) then (some true) else
                  (bif (!decide (i_79 = 2)) then (some true) else
                   (some false))) fun b_59 =>
                 bif b_59 then (some [(.b false)]) else
                 (Option.bind (F_dayspec_Print [(.i 1), (.i (i64 (1 + (i64 far_0)))), (.i 1)]) fun r_63 =>
                  onS r_63 fun s_50 ds_141 =>
                  onI ds_141 fun i_80 ds_142 =>
                  Option.bind (bif (!(s_50 == ([] : List UInt8))) then (some true) else
                   (bif (!decide (i_80 = 2)) then (some true) else
                    (some false))) fun b_60 =>
                  bif b_60 then (some [(.b false)]) else
                  (Option.bind (F_dayspec_Print [(.i 2), (.i (i64 (7 + (i64 far_0)))), (.i 0)]) fun r_64 =>
                   onS r_64 fun s_51 ds_143 =>
                   onI ds_143 fun i_81 ds_144 =>
                   Option.bind (bif (!(s_51 == ([] : List UInt8))) then (some true) else
                    (bif (!decide (i_81 = 2)) then (some true) else
                     (some false))) fun b_61 =>
                   bif b_61 then (some [(.b false)]) else
                   (Option.bind (F_dayspec_Print [(.i 2), (.i (i64 ((-1) - (i64 far_0)))), (.i 0)]) fun r_65 =>
                    onS r_65 fun s_52 ds_145 =>
                    onI ds_145 fun i_82 ds_146 =>
                    Option.bind (bif (!(s_52 == ([] : List UInt8))) then (some true) else
                     (bif (!decide (i_82 = 2)) then (some true) else
                      (some false))) fun b_62 =>
                    bif b_62 then (some [(.b false)]) else
                    (Option.bind (F_dayspec_Print [(.i 2), (.i 0), (.i (i64 (1 + (i64 far_0))))]) fun r_66 =>
                     onS r_66 fun s_53 ds_147 =>
                     onI ds_147 fun i_83 ds_148 =>
                     Option.bind (bif (!(s_53 == ([] : List UInt8))) then (some true) else
                      (bif (!decide (i_83 = 2)) then (some true) else
                       (some false))) fun b_63 =>
                     bif b_63 then (some [(.b false)]) else
                     (Option.bind (F_dayspec_Print [(.i 3), (.i (i64 (7 + (i64 far_0)))), (.i 1)]) fun r_67 =>
                      onS r_67 fun s_54 ds_149 =>
                      onI ds_149 fun i_84 ds_150 =>
                      Option.bind (bif (!(s_54 == ([] : List UInt8))) then (some true) else
                       (bif (!decide (i_84 = 2)) then (some true) else
                        (some false))) fun b_64 =>
                      bif b_64 then (some [(.b false)]) else
                      (Option.bind (F_dayspec_Print [(.i 4), (.i 0), (.i (i64 (32 + (i64 far_0))))]) fun r_68 =>
                       onS r_68 fun s_55 ds_151 =>
                       onI ds_151 fun i_85 ds_152 =>
                       Option.bind (bif (!(s_55 == ([] : List UInt8))) then (some true) else
                        (bif (!decide (i_85 = 2)) then (some true) else
                         (some false))) fun b_65 =>
                       bif b_65 then (some [(.b false)]) else
                       (Option.bind (F_dayspec_Print [(.i 4), (.i 0), (.i (i64 (0 - (i64 far_0))))]) fun r_69 =>
                        onS r_69 fun s_56 ds_153 =>
                        onI ds_153 fun i_86 ds_154 =>
                        Option.bind (bif (!(s_56 == ([] : List UInt8))) then (some true) else
                         (bif (!decide (i_86 = 2)) then (some true) else
                          (some false))) fun b_66 =>
                        bif b_66 then (some [(.b false)]) else
                        (Option.bind (F_law09_works []) fun r_70 =>
                         onB r_70 fun b_67 ds_155 =>
                         some [(.b b_67)])))))))))))) else
             (some [(.b false)])) else
            (Option.bind (F_dayspec_Print [(.i (i64 (5 + (i64 far_0)))), (.i 0), (.i 0)]) fun r_71 =>
             onS r_71 fun s_57 ds_156 =>
             onI ds_156 fun i_87 ds_157 =>
             Option.bind (bif (!(s_57 == ([] : List UInt8))) then (some true) else
              (bif (!decide (i_87 = 2)) then (some true) else
               (some false))) fun b_68 =>
             bif b_68 then (some [(.b false)]) else
             (Option.bind (F_dayspec_Print [(.i (i64 (0 - (i64 far_0)))), (.i 0), (.i 0)]) fun r_72 =>
              onS r_72 fun s_58 ds_158 =>
              onI ds_158 fun i_88 ds_159 =>
              Option.bind (bif (!(s_58 == ([] : List UInt8))) then (some true) else
               (bif (!decide (i_88 = 2)) then (some true) else
                (some false))) fun b_69 =>
              bif b_69 then (some [(.b false)]) else
              (Option.bind (F_dayspec_Print [(.i 1), (.i 0), (.i (i64 (32 + (i64 far_0))))]) fun r_73 =>
               onS r_73 fun s_59 ds_160 =>
               onI ds_160 fun i_89 ds_161 =>
               Option.bind (bif (!(s_59 == ([] : List UInt8))) then (some true) else
                (bif (!decide (i_89 = 2)) then (some true) else
                 (some false))) fun b_70 =>
               bif b_70 then (some [(.b false)]) else
               (Option.bind (F_dayspec_Print [(.i 1), (.i 0), (.i (i64 (0 - (i64 far_0))))]) fun r_74 =>
                onS r_74 fun s_60 ds_162 =>
                onI ds_162 fun i_90 ds_163 =>
                Option.bind (bif (!(s_60 == ([] : List UInt8))) then (some true) else
                 (bif (!decide (i_90 = 2)) then (some true) else
                  (some false))) fun b_71 =>
                bif b_71 then (some [(.b false)]) else
                (Option.bind (F_dayspec_Print [(.i 1), (.i (i64 (1 + (i64 far_0)))), (.i 1)]) fun r_75 =>
                 onS r_75 fun s_61 ds_164 =>
                 onI ds_164 fun i_91 ds_165 =>
                 Option.bind (bif (!(s_61 == ([] : List UInt8))) then (some true) else
                  (bif (!decide (i_91 = 2)) then (some true) else
                   (some false))) fun b_72 =>
                 bif b_72 then (some [(.b false)]) else
                 (Option.bind (F_dayspec_Print [(.i 2), (.i (i64 (7 + (i64 far_0)))), (.i 0)]) fun r_76 =>
                  onS r_76 fun s_62 ds_166 =>
                  onI ds_166 fun i_92 ds_167 =>
                  Option.bind (bif (!(s_62 == ([] : List UInt8))) then (some true) else
                   (bif (!decide (i_92 = 2)) then (some true) else
                    (some false))) fun b_73 =>
                  bif b_73 then (some [(.b false)]) else
                  (Option.bind (F_dayspec_Print [(.i 2), (.i (i64 ((-1) - (i64 far_0)))), (.i 0)]) fun r_77 =>
                   onS r_77 fun s_63 ds_168 =>
                   onI ds_168 fun i_93 ds_169 =>
                   Option.bind (bif (!(s_63 == ([] : List UInt8))) then (some true) else
                    (bif (!decide (i_93 = 2)) then (some true) else
                     (some false))) fun b_74 =>
                   bif b_74 then (some [(.b false)]) else
                   (Option.bind (F_dayspec_Print [(.i 2), (.i 0), (.i (i64 (1 + (i64 far_0))))]) fun r_78 =>
                    onS r_78 fun s_64 ds_170 =>
                    onI ds_170 fun i_94 ds_171 =>
                    Option.bind (bif (!(s_64 == ([] : List UInt8))) then (some true) else
                     (bif (!decide (i_94 = 2)) then (some true) else
                      (some false))) fun b_75 =>
                    bif b_75 then (some [(.b false)]) else
                    (Option.bind (F_dayspec_Print [(.i 3), (.i (i64 (7 + (i64 far_0)))), (.i 1)]) fun r_79 =>
                     onS r_79 fun s_65 ds_172 =>
                     onI ds_172 fun i_95 ds_173 =>
                     Option.bind (bif (!(s_65 == ([] : List UInt8))) then (some true) else
                      (bif (!decide (i_95 = 2)) then (some true) else
                       (some false))) fun b_76 =>
                     bif b_76 then (some [(.b false)]) else
                     (Option.bind (F_dayspec_Print [(.i 4), (.i 0), (.i (i64 (32 + (i64 far_0))))]) fun r_80 =>
                      onS r_80 fun s_66 ds_174 =>
                      onI ds_174 fun i_96 ds_175 =>
                      Option.bind (bif (!(s_66 == ([] : List UInt8))) then (some true) else
                       (bif (!decide (i_96 = 2)) then (some true) else
                        (some false))) fun b_77 =>
                      bif b_77 then (some [(.b false)]) else
                      (Option.bind (F_dayspec_Print [(.i 4), (.i 0), (.i (i64 (0 - (i64 far_0))))]) fun r_81 =>
                       onS r_81 fun s_67 ds_176 =>
                       onI ds_176 fun i_97 ds_177 =>
                       Option.bind (bif (!(s_67 == ([] : List UInt8))) then (some true) else
                        (bif (!decide (i_97 = 2)) then (some true) else
                         (some false))) fun b_78 =>
                       bif b_78 then (some [(.b false)]) else
                       (Option.bind (F_law09_works []) fun r_82 =>
                        onB r_82 fun b_79 ds_178 =>
                        some [(.b b_79)]))))))))))))))) else
         (bif (!decide (i_31 = 0)) then (bif ((decide (i_28 = 0)) && ((decide (i_29 = 0)) && ((decide (i_30 = 0)) && true))) then (Option.bind (F_dayspec_Print [(.i (i64 (5 + (i64 far_0)))), (.i 0), (.i 0)]) fun r_83 =>
            onS r_83 fun s_68 ds_179 =>
            onI ds_179 fun i_98 ds_180 =>
            Option.bind (bif (!(s_68 == ([] : List UInt8))) then (some true) else
             (bif (!decide (i_98 = 2)) then (some true) else
              (some false))) fun b_80 =>
            bif b_80 then (some [(.b false)]) else
            (Option.bind (F_dayspec_Print [(.i (i64 (0 - (i64 far_0)))), (.i 0), (.i 0)]) fun r_84 =>
             onS r_84 fun s_69 ds_181 =>
             onI ds_181 fun i_99 ds_182 =>
             Option.bind (bif (!(s_69 == ([] : List UInt8))) then (some true) else
              (bif (!decide (i_99 = 2)) then (some true) else
               (some false))) fun b_81 =>
             bif b_81 then (some [(.b false)]) else
             (Option.bind (F_dayspec_Print [(.i 1), (.i 0), (.i (i64 (32 + (i64 far_0))))]) fun r_85 =>
              onS r_85 fun s_70 ds_183 =>
              onI ds_183 fun i_100 ds_184 =>
              Option.bind (bif (!(s_70 == ([] : List UInt8))) then (some true) else
               (bif (!decide (i_100 = 2)) then (some true) else
                (some false))) fun b_82 =>
              bif b_82 then (some [(.b false)]) else
              (Option.bind (F_dayspec_Print [(.i 1), (.i 0), (.i (i64 (0 - (i64 far_0))))]) fun r_86 =>
               onS r_86 fun s_71 ds_185 =>
               onI ds_185 fun i_101 ds_186 =>
               Option.bind (bif (!(s_71 == ([] : List UInt8))) then (some true) else
                (bif (!decide (i_101 = 2)) then (some true) else
                 (some false))) fun b_83 =>
               bif b_83 then (some [(.b false)]) else
               (Option.bind (F_dayspec_Print [(.i 1), (.i (i64 (1 + (i64 far_0)))), (.i 1)]) fun r_87 =>
                onS r_87 fun s_72 ds_187 =>
                onI ds_187 fun i_102 ds_188 =>
                Option.bind (bif (!(s_72 == ([] : List UInt8))) then (some true) else
                 (bif (!decide (i_102 = 2)) then (some true) else
                  (some false))) fun b_84 =>
                bif b_84 then (some [(.b false)]) else
                (Option.bind (F_dayspec_Print [(.i 2), (.i (i64 (7 + (i64 far_0)))), (.i 0)]) fun r_88 =>
                 onS r_88 fun s_73 ds_189 =>
                 onI ds_189 fun i_103 ds_190 =>
                 Option.bind (bif (!(s_73 == ([] : List UInt8))) then (some true) else
                  (bif (!decide (i_103 = 2)) then (some true) else
                   (some false))) fun b_85 =>
                 bif b_85 then (some [(.b false)]) else
                 (Option.bind (F_dayspec_Print [(.i 2), (.i (i64 ((-1) - (i64 far_0)))), (.i 0)]) fun r_89 =>
                  onS r_89 fun s_74 ds_191 =>
                  onI ds_191 fun i_104 ds_192 =>
                  Option.bind (bif (!(s_74 == ([] : List UInt8))) then (some true) else
                   (bif (!decide (i_104 = 2)) then (some true) else
                    (some false))) fun b_86 =>
                  bif b_86 then (some [(.b false)]) else
                  (Option.bind (F_dayspec_Print [(.i 2), (.i 0), (.i (i64 (1 + (i64 far_0))))]) fun r_90 =>
                   onS r_90 fun s_75 ds_193 =>
                   onI ds_193 fun i_105 ds_194 =>
                   Option.bind (bif (!(s_75 == ([] : List UInt8))) then (some true) else
                    (bif (!decide (i_105 = 2)) then (some true) else
                     (some false))) fun b_87 =>
                   bif b_87 then (some [(.b false)]) else
                   (Option.bind (F_dayspec_Print [(.i 3), (.i (i64 (7 + (i64 far_0)))), (.i 1)]) fun r_91 =>
                    onS r_91 fun s_76 ds_195 =>
                    onI ds_195 fun i_106 ds_196 =>
                    Option.bind (bif (!(s_76 == ([] : List UInt8))) then (some true) else
                     (bif (!decide (i_106 = 2)) then (some true) else
                      (some false))) fun b_88 =>
                    bif b_88 then (some [(.b false)]) else
                    (Option.bind (F_dayspec_Print [(.i 4), (.i 0), (.i (i64 (32 + (i64 far_0))))]) fun r_92 =>
                     onS r_92 fun s_77 ds_197 =>
                     onI ds_197 fun i_107 ds_198 =>
                     Option.bind (bif (!(s_77 == ([] : List UInt8))) then (some true) else
                      (bif (!decide (i_107 = 2)) then (some true) else
                       (some false))) fun b_89 =>
                     bif b_89 then (some [(.b false)]) else
                     (Option.bind (F_dayspec_Print [(.i 4), (.i 0), (.i (i64 (0 - (i64 far_0))))]) fun r_93 =>
                      onS r_93 fun s_78 ds_199 =>
                      onI ds_199 fun i_108 ds_200 =>
                      Option.bind (bif (!(s_78 == ([] : List UInt8))) then (some true) else
                       (bif (!decide (i_108 = 2)) then (some true) else
                        (some false))) fun b_90 =>
                      bif b_90 then (some [(.b false)]) else
                      (Option.bind (F_law09_works []) fun r_94 =>
                       onB r_94 fun b_91 ds_201 =>
                       some [(.b b_91)])))))))))))) else
           (some [(.b false)])) else
          (Option.bind (F_dayspec_Print [(.i (i64 (5 + (i64 far_0)))), (.i 0), (.i 0)]) fun r_95 =>
           onS r_95 fun s_79 ds_202 =>
           onI ds_202 fun i_109 ds_203 =>
           Option.bind (bif (!(s_79 == ([] : List UInt8))) then (some true) else
            (bif (!decide (i_109 = 2)) then (some true) else
             (some false))) fun b_92 =>
           bif b_92 then (some [(.b false)]) else
           (Option.bind (F_dayspec_Print [(.i (i64 (0 - (i64 far_0)))), (.i 0), (.i 0)]) fun r_96 =>
            onS r_96 fun s_80 ds_204 =>
            onI ds_204 fun i_110 ds_205 =>
            Option.bind (bif (!(s_80 == ([] : List UInt8))) then (some true) else
             (bif (!decide (i_110 = 2)) then (some true) else
              (some false))) fun b_93 =>
            bif b_93 then (some [(.b false)]) else
            (Option.bind (F_dayspec_Print [(.i 1), (.i 0), (.i (i64 (32 + (i64 far_0))))]) fun r_97 =>
             onS r_97 fun s_81 ds_206 =>
             onI ds_206 fun i_111 ds_207 =>
             Option.bind (bif (!(s_81 == ([] : List UInt8))) then (some true) else
              (bif (!decide (i_111 = 2)) then (some true) else
               (some false))) fun b_94 =>
             bif b_94 then (some [(.b false)]) else
             (Option.bind (F_dayspec_Print [(.i 1), (.i 0), (.i (i64 (0 - (i64 far_0))))]) fun r_98 =>
              onS r_98 fun s_82 ds_208 =>
              onI ds_208 fun i_112 ds_209 =>
              Option.bind (bif (!(s_82 == ([] : List UInt8))) then (some true) else
               (bif (!decide (i_112 = 2)) then (some true) else
                (some false))) fun b_95 =>
              bif b_95 then (some [(.b false)]) else
              (Option.bind (F_dayspec_Print [(.i 1), (.i (i64 (1 + (i64 far_0)))), (.i 1)]) fun r_99 =>
               onS r_99 fun s_83 ds_210 =>
               onI ds_210 fun i_113 ds_211 =>
               Option.bind (bif (!(s_83 == ([] : List UInt8))) then (some true) else
                (bif (!decide (i_113 = 2)) then (some true) else
                 (some false))) fun b_96 =>
               bif b_96 then (some [(.b false)]) else
               (Option.bind (F_dayspec_Print [(.i 2), (.i (i64 (7 + (i64 far_0)))), (.i 0)]) fun r_100 =>
                onS r_100 fun s_84 ds_212 =>
                onI ds_212 fun i_114 ds_213 =>
                Option.bind (bif (!(s_84 == ([] : List UInt8))) then (some true) else
                 (bif (!decide (i_114 = 2)) then (some true) else
                  (some false))) fun b_97 =>
                bif b_97 then (some [(.b false)]) else
                (Option.bind (F_dayspec_Print [(.i 2), (.i (i64 ((-1) - (i64 far_0)))), (.i 0)]) fun r_101 =>
                 onS r_101 fun s_85 ds_214 =>
                 onI ds_214 fun i_115 ds_215 =>
                 Option.bind (bif (!(s_85 == ([] : List UInt8))) then (some true) else
                  (bif (!decide (i_115 = 2)) then (some true) else
                   (some false))) fun b_98 =>
                 bif b_98 then (some [(.b false)]) else
                 (Option.bind (F_dayspec_Print [(.i 2), (.i 0), (.i (i64 (1 + (i64 far_0))))]) fun r_102 =>
                  onS r_102 fun s_86 ds_216 =>
                  onI ds_216 fun i_116 ds_217 =>
                  Option.bind (bif (!(s_86 == ([] : List UInt8))) then (some true) else
                   (bif (!decide (i_116 = 2)) then (some true) else
                    (some false))) fun b_99 =>
                  bif b_99 then (some [(.b false)]) else
                  (Option.bind (F_dayspec_Print [(.i 3), (.i (i64 (7 + (i64 far_0)))), (.i 1)]) fun r_103 =>
                   onS r_103 fun s_87 ds_218 =>
                   onI ds_218 fun i_117 ds_219 =>
                   Option.bind (bif (!(s_87 == ([] : List UInt8))) then (some true) else
                    (bif (!decide (i_117 = 2)) then (some true) else
                     (some false))) fun b_100 =>
                   bif b_100 then (some [(.b false)]) else
                   (Option.bind (F_dayspec_Print [(.i 4), (.i 0), (.i (i64 (32 + (i64 far_0))))]) fun r_104 =>
                    onS r_104 fun s_88 ds_220 =>
                    onI ds_220 fun i_118 ds_221 =>
                    Option.bind (bif (!(s_88 == ([] : List UInt8))) then (some true) else
                     (bif (!decide (i_118 = 2)) then (some true) else
                      (some false))) fun b_101 =>
                    bif b_101 then (some [(.b false)]) else
                    (Option.bind (F_dayspec_Print [(.i 4), (.i 0), (.i (i64 (0 - (i64 far_0))))]) fun r_105 =>
                     onS r_105 fun s_89 ds_222 =>
                     onI ds_222 fun i_119 ds_223 =>
                     Option.bind (bif (!(s_89 == ([] : List UInt8))) then (some true) else
                      (bif (!decide (i_119 = 2)) then (some true) else
                       (some false))) fun b_102 =>
                     bif b_102 then (some [(.b false)]) else
                     (Option.bind (F_law09_works []) fun r_106 =>
                      onB r_106 fun b_103 ds_224 =>
                      some [(.b b_103)])))))))))))))) else none))))))) else none) else none) else none) else none) else none) else none)
end Go.Proofs.YtdpednaafficmaaDoor
