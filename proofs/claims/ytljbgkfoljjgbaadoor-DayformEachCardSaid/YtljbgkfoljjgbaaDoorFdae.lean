/-
  The functions of plain data that the laws of this group reach, as the program has them.
-/
import Derived.Test.YtljbgkfoljjgbaaDoorAx33
namespace Go.Proofs.YtljbgkfoljjgbaaDoor
open Go.Ax
set_option linter.all false
set_option maxRecDepth 100000
noncomputable def F_law02_fixed : List Dat → Option (List Dat) := fun ds_0 =>
  onI ds_0 fun n_0 ds_1 =>
  some [(.i 1), (.i 0), (.i n_0)]
noncomputable def F_law02_last : List Dat → Option (List Dat) := fun ds_0 =>
  onI ds_0 fun w_0 ds_1 =>
  some [(.i 2), (.i w_0), (.i 0)]
noncomputable def F_law02_from : List Dat → Option (List Dat) := fun ds_0 =>
  onI ds_0 fun w_0 ds_1 =>
  onI ds_1 fun n_0 ds_2 =>
  some [(.i 3), (.i w_0), (.i n_0)]
noncomputable def F_law02_to : List Dat → Option (List Dat) := fun ds_0 =>
  onI ds_0 fun w_0 ds_1 =>
  onI ds_1 fun n_0 ds_2 =>
  some [(.i 4), (.i w_0), (.i n_0)]
noncomputable def F__law02_Draft__Made : List Dat → Option (List Dat) := fun ds_0 =>
  onI ds_0 fun d_0 ds_1 =>
  onI ds_1 fun d_1 ds_2 =>
  onI ds_2 fun d_2 ds_3 =>
  bif (decide ((Int.tmod d_0 4) = 0)) then (Option.bind (F_law02_fixed [(.i (i64 (1 + (i64 (Int.tmod d_2 31)))))]) fun r_0 =>
   onI r_0 fun i_0 ds_4 =>
   onI ds_4 fun i_1 ds_5 =>
   onI ds_5 fun i_2 ds_6 =>
   some [(.i i_0), (.i i_1), (.i i_2)]) else
  (bif (decide ((Int.tmod d_0 4) = 1)) then (Option.bind (F_law02_last [(.i (i64 (Int.tmod d_1 7)))]) fun r_1 =>
    onI r_1 fun i_3 ds_7 =>
    onI ds_7 fun i_4 ds_8 =>
    onI ds_8 fun i_5 ds_9 =>
    some [(.i i_3), (.i i_4), (.i i_5)]) else
   (bif (decide ((Int.tmod d_0 4) = 2)) then (Option.bind (F_law02_from [(.i (i64 (Int.tmod d_1 7))), (.i (i64 (1 + (i64 (Int.tmod d_2 31)))))]) fun r_2 =>
     onI r_2 fun i_6 ds_10 =>
     onI ds_10 fun i_7 ds_11 =>
     onI ds_11 fun i_8 ds_12 =>
     some [(.i i_6), (.i i_7), (.i i_8)]) else
    (Option.bind (F_law02_to [(.i (i64 (Int.tmod d_1 7))), (.i (i64 (1 + (i64 (Int.tmod d_2 31)))))]) fun r_3 =>
     onI r_3 fun i_9 ds_13 =>
     onI ds_13 fun i_10 ds_14 =>
     onI ds_14 fun i_11 ds_15 =>
     some [(.i i_9), (.i i_10), (.i i_11)])))
noncomputable def F_law02_year : List Dat → Option (List Dat) := fun ds_0 =>
  onI ds_0 fun y_0 ds_1 =>
  some [(.i (if (if 2000000000 < (i64 y_0) then 2000000000 else (i64 y_0)) > (-2000000000) then (if 2000000000 < (i64 y_0) then 2000000000 else (i64 y_0)) else (-2000000000)))]
noncomputable def F_civil_Leap : List Dat → Option (List Dat) := fun ds_0 =>
  onI ds_0 fun y_0 ds_1 =>
  Option.bind (bif (decide ((Int.tmod y_0 4) = 0)) then (bif (!decide ((Int.tmod y_0 100) = 0)) then (some true) else
    (bif (decide ((Int.tmod y_0 400) = 0)) then (some true) else
     (some false))) else
   (some false)) fun b_0 =>
  some [(.b b_0)]
noncomputable def F_civil_Len : List Dat → Option (List Dat) := fun ds_0 =>
  onI ds_0 fun y_0 ds_1 =>
  onI ds_1 fun m_0 ds_2 =>
  Option.bind (bif (decide (m_0 < 1)) then (some true) else
   (bif (decide (12 < m_0)) then (some true) else
    (some false))) fun b_0 =>
  bif b_0 then (some [(.i 0)]) else
  (bif (decide ((0 ≤ m_0) ∧ (m_0 < 13))) then (Option.bind (asI .i64 ([(Ax.AV.int .i64 (Ax.I.lit 0)), (Ax.AV.int .i64 (Ax.I.lit 31)), (Ax.AV.int .i64 (Ax.I.lit 59)), (Ax.AV.int .i64 (Ax.I.lit 90)), (Ax.AV.int .i64 (Ax.I.lit 120)), (Ax.AV.int .i64 (Ax.I.lit 151)), (Ax.AV.int .i64 (Ax.I.lit 181)), (Ax.AV.int .i64 (Ax.I.lit 212)), (Ax.AV.int .i64 (Ax.I.lit 243)), (Ax.AV.int .i64 (Ax.I.lit 273)), (Ax.AV.int .i64 (Ax.I.lit 304)), (Ax.AV.int .i64 (Ax.I.lit 334)), (Ax.AV.int .i64 (Ax.I.lit 365))])[(m_0).toNat]?) fun x_0 =>
   bif (decide ((0 ≤ (i64 (m_0 - 1))) ∧ ((i64 (m_0 - 1)) < 13))) then (Option.bind (asI .i64 ([(Ax.AV.int .i64 (Ax.I.lit 0)), (Ax.AV.int .i64 (Ax.I.lit 31)), (Ax.AV.int .i64 (Ax.I.lit 59)), (Ax.AV.int .i64 (Ax.I.lit 90)), (Ax.AV.int .i64 (Ax.I.lit 120)), (Ax.AV.int .i64 (Ax.I.lit 151)), (Ax.AV.int .i64 (Ax.I.lit 181)), (Ax.AV.int .i64 (Ax.I.lit 212)), (Ax.AV.int .i64 (Ax.I.lit 243)), (Ax.AV.int .i64 (Ax.I.lit 273)), (Ax.AV.int .i64 (Ax.I.lit 304)), (Ax.AV.int .i64 (Ax.I.lit 334)), (Ax.AV.int .i64 (Ax.I.lit 365))])[((i64 (m_0 - 1))).toNat]?) fun x_1 =>
   bif (decide (m_0 = 2)) then (Option.bind (F_civil_Leap [(.i y_0)]) fun r_0 =>
    onB r_0 fun b_1 ds_3 =>
    bif b_1 then (some [(.i (i64 ((i64 (x_0 - x_1)) + 1)))]) else
    (some [(.i (i64 (x_0 - x_1)))])) else
   (some [(.i (i64 (x_0 - x_1)))])) else none) else none)
noncomputable def F_civil_floor : List Dat → Option (List Dat) := fun ds_0 =>
  onI ds_0 fun a_0 ds_1 =>
  onI ds_1 fun b_0 ds_2 =>
  bif (b_0 != 0) then (bif (b_0 != 0) then (bif (decide ((Int.tmod a_0 b_0) < 0)) then (some [(.i (i64 ((i64 (Int.tdiv a_0 b_0)) - 1)))]) else
  (some [(.i (i64 (Int.tdiv a_0 b_0)))])) else none) else none
noncomputable def F_civil_Days : List Dat → Option (List Dat) := fun ds_0 =>
  onI ds_0 fun y_0 ds_1 =>
  onI ds_1 fun m_0 ds_2 =>
  onI ds_2 fun d_0 ds_3 =>
  bif (decide (y_0 < (-2000000000))) then (some [(.i 0), (.i 3)]) else
  (bif (decide (2000000000 < y_0)) then (some [(.i 0), (.i 3)]) else
   (bif (decide (d_0 < 1)) then (some [(.i 0), (.i 3)]) else
    (Option.bind (F_civil_Len [(.i y_0), (.i m_0)]) fun r_0 =>
     onI r_0 fun i_0 ds_4 =>
     bif (decide (i_0 < d_0)) then (some [(.i 0), (.i 3)]) else
     (Option.bind (F_civil_floor [(.i (i64 (y_0 - 1))), (.i 4)]) fun r_1 =>
      onI r_1 fun i_1 ds_5 =>
      Option.bind (F_civil_floor [(.i (i64 (y_0 - 1))), (.i 100)]) fun r_2 =>
      onI r_2 fun i_2 ds_6 =>
      Option.bind (F_civil_floor [(.i (i64 (y_0 - 1))), (.i 400)]) fun r_3 =>
      onI r_3 fun i_3 ds_7 =>
      bif (decide ((0 ≤ (i64 (m_0 - 1))) ∧ ((i64 (m_0 - 1)) < 13))) then (Option.bind (asI .i64 ([(Ax.AV.int .i64 (Ax.I.lit 0)), (Ax.AV.int .i64 (Ax.I.lit 31)), (Ax.AV.int .i64 (Ax.I.lit 59)), (Ax.AV.int .i64 (Ax.I.lit 90)), (Ax.AV.int .i64 (Ax.I.lit 120)), (Ax.AV.int .i64 (Ax.I.lit 151)), (Ax.AV.int .i64 (Ax.I.lit 181)), (Ax.AV.int .i64 (Ax.I.lit 212)), (Ax.AV.int .i64 (Ax.I.lit 243)), (Ax.AV.int .i64 (Ax.I.lit 273)), (Ax.AV.int .i64 (Ax.I.lit 304)), (Ax.AV.int .i64 (Ax.I.lit 334)), (Ax.AV.int .i64 (Ax.I.lit 365))])[((i64 (m_0 - 1))).toNat]?) fun x_0 =>
      bif (decide (2 < m_0)) then (Option.bind (F_civil_Leap [(.i y_0)]) fun r_4 =>
       onB r_4 fun b_0 ds_8 =>
       bif b_0 then (some [(.i (i64 ((i64 ((i64 ((i64 ((i64 ((i64 ((i64 ((i64 (365 * y_0)) + i_1)) - i_2)) + i_3)) + 1)) + (i64 ((i64 (x_0 + d_0)) - 1)))) + 1)) + (-719528)))), (.i 0)]) else
       (some [(.i (i64 ((i64 ((i64 ((i64 ((i64 ((i64 ((i64 (365 * y_0)) + i_1)) - i_2)) + i_3)) + 1)) + (i64 ((i64 (x_0 + d_0)) - 1)))) + (-719528)))), (.i 0)])) else
      (some [(.i (i64 ((i64 ((i64 ((i64 ((i64 ((i64 ((i64 (365 * y_0)) + i_1)) - i_2)) + i_3)) + 1)) + (i64 ((i64 (x_0 + d_0)) - 1)))) + (-719528)))), (.i 0)])) else none))))
noncomputable def F_dayform_dayOf : List Dat → Option (List Dat) := fun ds_0 =>
  onI ds_0 fun d_0 ds_1 =>
  onI ds_1 fun d_1 ds_2 =>
  onI ds_2 fun d_2 ds_3 =>
  onI ds_3 fun first_0 ds_4 =>
  some [(.i (i64 ((i64 (first_0 + d_2)) - 1)))]
noncomputable def F_civil_Weekday : List Dat → Option (List Dat) := fun ds_0 =>
  onI ds_0 fun days_0 ds_1 =>
  some [(.i (Int.tmod (i64 ((i64 ((Int.tmod days_0 7) + 7)) + 4)) 7))]
noncomputable def F_dayform_back : List Dat → Option (List Dat) := fun ds_0 =>
  onI ds_0 fun week_0 ds_1 =>
  onI ds_1 fun day_0 ds_2 =>
  Option.bind (F_civil_Weekday [(.i day_0)]) fun r_0 =>
  onI r_0 fun i_0 ds_3 =>
  some [(.i (Int.tmod (i64 ((i64 (i_0 - week_0)) + 7)) 7))]
noncomputable def F_dayform_kinds : List Dat → Option (List Dat) := fun ds_0 =>
  some [(.b false), (.b false), (.b false), (.b true), (.b true), (.b false), (.b true), (.b true), (.b true), (.b true)]
noncomputable def F_dayform_On : List Dat → Option (List Dat) := fun ds_0 =>
  onI ds_0 fun y_0 ds_1 =>
  onI ds_1 fun m_0 ds_2 =>
  onI ds_2 fun d_0 ds_3 =>
  onI ds_3 fun d_1 ds_4 =>
  onI ds_4 fun d_2 ds_5 =>
  Option.bind (F_civil_Days [(.i y_0), (.i m_0), (.i 1)]) fun r_0 =>
  onI r_0 fun i_0 ds_6 =>
  onI ds_6 fun i_1 ds_7 =>
  bif (!decide (i_1 = 0)) then (some [(.i 0), (.i 3)]) else
  (Option.bind (bif (decide (d_0 < 1)) then (some true) else
    (bif (decide (4 < d_0)) then (some true) else
     (some false))) fun b_0 =>
   bif b_0 then (some [(.i 0), (.i 2)]) else
   (Option.bind (F_dayform_kinds []) fun r_1 =>
    onB r_1 fun b_1 ds_8 =>
    onB ds_8 fun b_2 ds_9 =>
    onB ds_9 fun b_3 ds_10 =>
    onB ds_10 fun b_4 ds_11 =>
    onB ds_11 fun b_5 ds_12 =>
    onB ds_12 fun b_6 ds_13 =>
    onB ds_13 fun b_7 ds_14 =>
    onB ds_14 fun b_8 ds_15 =>
    onB ds_15 fun b_9 ds_16 =>
    onB ds_16 fun b_10 ds_17 =>
    bif (decide ((0 ≤ d_0) ∧ (d_0 < 5))) then (bif (decide (d_0 = 4)) then (Option.bind (bif b_9 then (bif (decide (d_1 < 0)) then (some true) else
       (bif (decide (6 < d_1)) then (some true) else
        (bif (!b_9) then (bif (!decide (d_1 = 0)) then (some true) else
          (some false)) else
         (some false)))) else
      (bif (!b_9) then (bif (!decide (d_1 = 0)) then (some true) else
        (some false)) else
       (some false))) fun b_11 =>
     bif b_11 then (some [(.i 0), (.i 2)]) else
     (Option.bind (bif b_10 then (bif (decide (d_2 < 1)) then (some true) else
        (bif (decide (31 < d_2)) then (some true) else
         (bif (!b_10) then (bif (!decide (d_2 = 0)) then (some true) else
           (some false)) else
          (some false)))) else
       (bif (!b_10) then (bif (!decide (d_2 = 0)) then (some true) else
         (some false)) else
        (some false))) fun b_12 =>
      bif b_12 then (some [(.i 0), (.i 2)]) else
      (Option.bind (F_civil_Len [(.i y_0), (.i m_0)]) fun r_2 =>
       onI r_2 fun i_2 ds_18 =>
       bif (decide (i_2 < d_2)) then (some [(.i 0), (.i 4)]) else
       (Option.bind (F_dayform_dayOf [(.i d_0), (.i d_1), (.i d_2), (.i i_0)]) fun r_3 =>
        onI r_3 fun i_3 ds_19 =>
        Option.bind (F_dayform_back [(.i d_1), (.i i_3)]) fun r_4 =>
        onI r_4 fun i_4 ds_20 =>
        some [(.i (i64 (i_3 - i_4))), (.i 0)])))) else
    (bif (decide (d_0 = 3)) then (Option.bind (bif b_7 then (bif (decide (d_1 < 0)) then (some true) else
        (bif (decide (6 < d_1)) then (some true) else
         (bif (!b_7) then (bif (!decide (d_1 = 0)) then (some true) else
           (some false)) else
          (some false)))) else
       (bif (!b_7) then (bif (!decide (d_1 = 0)) then (some true) else
         (some false)) else
        (some false))) fun b_13 =>
      bif b_13 then (some [(.i 0), (.i 2)]) else
      (Option.bind (bif b_8 then (bif (decide (d_2 < 1)) then (some true) else
         (bif (decide (31 < d_2)) then (some true) else
          (bif (!b_8) then (bif (!decide (d_2 = 0)) then (some true) else
            (some false)) else
           (some false)))) else
        (bif (!b_8) then (bif (!decide (d_2 = 0)) then (some true) else
          (some false)) else
         (some false))) fun b_14 =>
       bif b_14 then (some [(.i 0), (.i 2)]) else
       (Option.bind (F_civil_Len [(.i y_0), (.i m_0)]) fun r_5 =>
        onI r_5 fun i_5 ds_21 =>
        bif (decide (i_5 < d_2)) then (some [(.i 0), (.i 4)]) else
        (Option.bind (F_dayform_dayOf [(.i d_0), (.i d_1), (.i d_2), (.i i_0)]) fun r_6 =>
         onI r_6 fun i_6 ds_22 =>
         Option.bind (F_dayform_back [(.i d_1), (.i (i64 (i_6 + 6)))]) fun r_7 =>
         onI r_7 fun i_7 ds_23 =>
         some [(.i (i64 ((i64 (i_6 + 6)) - i_7))), (.i 0)])))) else
     (bif (decide (d_0 = 2)) then (Option.bind (bif b_5 then (bif (decide (d_1 < 0)) then (some true) else
         (bif (decide (6 < d_1)) then (some true) else
          (bif (!b_5) then (bif (!decide (d_1 = 0)) then (some true) else
            (some false)) else
           (some false)))) else
        (bif (!b_5) then (bif (!decide (d_1 = 0)) then (some true) else
          (some false)) else
         (some false))) fun b_15 =>
       bif b_15 then (some [(.i 0), (.i 2)]) else
       (Option.bind (bif b_6 then (bif (decide (d_2 < 1)) then (some true) else
          (bif (decide (31 < d_2)) then (some true) else
           (bif (!b_6) then (bif (!decide (d_2 = 0)) then (some true) else
             (some false)) else
            (some false)))) else
         (bif (!b_6) then (bif (!decide (d_2 = 0)) then (some true) else
           (some false)) else
          (some false))) fun b_16 =>
        bif b_16 then (some [(.i 0), (.i 2)]) else
        (Option.bind (F_civil_Len [(.i y_0), (.i m_0)]) fun r_8 =>
         onI r_8 fun i_8 ds_24 =>
         bif (decide (i_8 < d_2)) then (some [(.i 0), (.i 4)]) else
         (Option.bind (F_dayform_back [(.i d_1), (.i (i64 ((i64 (i_0 + i_8)) - 1)))]) fun r_9 =>
          onI r_9 fun i_9 ds_25 =>
          some [(.i (i64 ((i64 ((i64 (i_0 + i_8)) - 1)) - i_9))), (.i 0)])))) else
      (bif (decide (d_0 = 1)) then (Option.bind (bif b_3 then (bif (decide (d_1 < 0)) then (some true) else
          (bif (decide (6 < d_1)) then (some true) else
           (bif (!b_3) then (bif (!decide (d_1 = 0)) then (some true) else
             (some false)) else
            (some false)))) else
         (bif (!b_3) then (bif (!decide (d_1 = 0)) then (some true) else
           (some false)) else
          (some false))) fun b_17 =>
        bif b_17 then (some [(.i 0), (.i 2)]) else
        (Option.bind (bif b_4 then (bif (decide (d_2 < 1)) then (some true) else
           (bif (decide (31 < d_2)) then (some true) else
            (bif (!b_4) then (bif (!decide (d_2 = 0)) then (some true) else
              (some false)) else
             (some false)))) else
          (bif (!b_4) then (bif (!decide (d_2 = 0)) then (some true) else
            (some false)) else
           (some false))) fun b_18 =>
         bif b_18 then (some [(.i 0), (.i 2)]) else
         (Option.bind (F_civil_Len [(.i y_0), (.i m_0)]) fun r_10 =>
          onI r_10 fun i_10 ds_26 =>
          bif (decide (i_10 < d_2)) then (some [(.i 0), (.i 4)]) else
          (Option.bind (F_dayform_dayOf [(.i d_0), (.i d_1), (.i d_2), (.i i_0)]) fun r_11 =>
           onI r_11 fun i_11 ds_27 =>
           some [(.i i_11), (.i 0)])))) else
       (bif (decide (d_0 = 0)) then (Option.bind (bif b_1 then (bif (decide (d_1 < 0)) then (some true) else
           (bif (decide (6 < d_1)) then (some true) else
            (bif (!b_1) then (bif (!decide (d_1 = 0)) then (some true) else
              (some false)) else
             (some false)))) else
          (bif (!b_1) then (bif (!decide (d_1 = 0)) then (some true) else
            (some false)) else
           (some false))) fun b_19 =>
         bif b_19 then (some [(.i 0), (.i 2)]) else
         (Option.bind (bif b_2 then (bif (decide (d_2 < 1)) then (some true) else
            (bif (decide (31 < d_2)) then (some true) else
             (bif (!b_2) then (bif (!decide (d_2 = 0)) then (some true) else
               (some false)) else
              (some false)))) else
           (bif (!b_2) then (bif (!decide (d_2 = 0)) then (some true) else
             (some false)) else
            (some false))) fun b_20 =>
          bif b_20 then (some [(.i 0), (.i 2)]) else
          (Option.bind (F_civil_Len [(.i y_0), (.i m_0)]) fun r_12 =>
           onI r_12 fun i_12 ds_28 =>
           bif (decide (i_12 < d_2)) then (some [(.i 0), (.i 4)]) else
           (none)))) else
        (none)))))) else none))
noncomputable def F_dayform_Check : List Dat → Option (List Dat) := fun ds_0 =>
  onI ds_0 fun d_0 ds_1 =>
  onI ds_1 fun d_1 ds_2 =>
  onI ds_2 fun d_2 ds_3 =>
  Option.bind (bif (decide (d_0 < 1)) then (some true) else
   (bif (decide (4 < d_0)) then (some true) else
    (some false))) fun b_0 =>
  bif b_0 then (some [(.i 2)]) else
  (Option.bind (F_dayform_kinds []) fun r_0 =>
   onB r_0 fun b_1 ds_4 =>
   onB ds_4 fun b_2 ds_5 =>
   onB ds_5 fun b_3 ds_6 =>
   onB ds_6 fun b_4 ds_7 =>
   onB ds_7 fun b_5 ds_8 =>
   onB ds_8 fun b_6 ds_9 =>
   onB ds_9 fun b_7 ds_10 =>
   onB ds_10 fun b_8 ds_11 =>
   onB ds_11 fun b_9 ds_12 =>
   onB ds_12 fun b_10 ds_13 =>
   bif (decide ((0 ≤ d_0) ∧ (d_0 < 5))) then (bif (decide (d_0 = 4)) then (Option.bind (bif b_9 then (bif (decide (d_1 < 0)) then (some true) else
      (bif (decide (6 < d_1)) then (some true) else
       (bif (!b_9) then (bif (!decide (d_1 = 0)) then (some true) else
         (some false)) else
        (some false)))) else
     (bif (!b_9) then (bif (!decide (d_1 = 0)) then (some true) else
       (some false)) else
      (some false))) fun b_11 =>
    bif b_11 then (some [(.i 2)]) else
    (Option.bind (bif b_10 then (bif (decide (d_2 < 1)) then (some true) else
       (bif (decide (31 < d_2)) then (some true) else
        (bif (!b_10) then (bif (!decide (d_2 = 0)) then (some true) else
          (some false)) else
         (some false)))) else
      (bif (!b_10) then (bif (!decide (d_2 = 0)) then (some true) else
        (some false)) else
       (some false))) fun b_12 =>
     bif b_12 then (some [(.i 2)]) else
     (some [(.i 0)]))) else
   (bif (decide (d_0 = 3)) then (Option.bind (bif b_7 then (bif (decide (d_1 < 0)) then (some true) else
       (bif (decide (6 < d_1)) then (some true) else
        (bif (!b_7) then (bif (!decide (d_1 = 0)) then (some true) else
          (some false)) else
         (some false)))) else
      (bif (!b_7) then (bif (!decide (d_1 = 0)) then (some true) else
        (some false)) else
       (some false))) fun b_13 =>
     bif b_13 then (some [(.i 2)]) else
     (Option.bind (bif b_8 then (bif (decide (d_2 < 1)) then (some true) else
        (bif (decide (31 < d_2)) then (some true) else
         (bif (!b_8) then (bif (!decide (d_2 = 0)) then (some true) else
           (some false)) else
          (some false)))) else
       (bif (!b_8) then (bif (!decide (d_2 = 0)) then (some true) else
         (some false)) else
        (some false))) fun b_14 =>
      bif b_14 then (some [(.i 2)]) else
      (some [(.i 0)]))) else
    (bif (decide (d_0 = 2)) then (Option.bind (bif b_5 then (bif (decide (d_1 < 0)) then (some true) else
        (bif (decide (6 < d_1)) then (some true) else
         (bif (!b_5) then (bif (!decide (d_1 = 0)) then (some true) else
           (some false)) else
          (some false)))) else
       (bif (!b_5) then (bif (!decide (d_1 = 0)) then (some true) else
         (some false)) else
        (some false))) fun b_15 =>
      bif b_15 then (some [(.i 2)]) else
      (Option.bind (bif b_6 then (bif (decide (d_2 < 1)) then (some true) else
         (bif (decide (31 < d_2)) then (some true) else
          (bif (!b_6) then (bif (!decide (d_2 = 0)) then (some true) else
            (some false)) else
           (some false)))) else
        (bif (!b_6) then (bif (!decide (d_2 = 0)) then (some true) else
          (some false)) else
         (some false))) fun b_16 =>
       bif b_16 then (some [(.i 2)]) else
       (some [(.i 0)]))) else
     (bif (decide (d_0 = 1)) then (Option.bind (bif b_3 then (bif (decide (d_1 < 0)) then (some true) else
         (bif (decide (6 < d_1)) then (some true) else
          (bif (!b_3) then (bif (!decide (d_1 = 0)) then (some true) else
            (some false)) else
           (some false)))) else
        (bif (!b_3) then (bif (!decide (d_1 = 0)) then (some true) else
          (some false)) else
         (some false))) fun b_17 =>
       bif b_17 then (some [(.i 2)]) else
       (Option.bind (bif b_4 then (bif (decide (d_2 < 1)) then (some true) else
          (bif (decide (31 < d_2)) then (some true) else
           (bif (!b_4) then (bif (!decide (d_2 = 0)) then (some true) else
             (some false)) else
            (some false)))) else
         (bif (!b_4) then (bif (!decide (d_2 = 0)) then (some true) else
           (some false)) else
          (some false))) fun b_18 =>
        bif b_18 then (some [(.i 2)]) else
        (some [(.i 0)]))) else
      (bif (decide (d_0 = 0)) then (Option.bind (bif b_1 then (bif (decide (d_1 < 0)) then (some true) else
          (bif (decide (6 < d_1)) then (some true) else
           (bif (!b_1) then (bif (!decide (d_1 = 0)) then (some true) else
             (some false)) else
            (some false)))) else
         (bif (!b_1) then (bif (!decide (d_1 = 0)) then (some true) else
           (some false)) else
          (some false))) fun b_19 =>
        bif b_19 then (some [(.i 2)]) else
        (Option.bind (bif b_2 then (bif (decide (d_2 < 1)) then (some true) else
           (bif (decide (31 < d_2)) then (some true) else
            (bif (!b_2) then (bif (!decide (d_2 = 0)) then (some true) else
              (some false)) else
             (some false)))) else
          (bif (!b_2) then (bif (!decide (d_2 = 0)) then (some true) else
            (some false)) else
           (some false))) fun b_20 =>
         bif b_20 then (some [(.i 2)]) else
         (some [(.i 0)]))) else
       (none)))))) else none)
noncomputable def F_dayform_Always : List Dat → Option (List Dat) := fun ds_0 =>
  onI ds_0 fun from_0 ds_1 =>
  onI ds_1 fun to_0 ds_2 =>
  onI ds_2 fun m_0 ds_3 =>
  onI ds_3 fun d_0 ds_4 =>
  onI ds_4 fun d_1 ds_5 =>
  onI ds_5 fun d_2 ds_6 =>
  bif (decide (m_0 < 1)) then (some [(.b false)]) else
  (bif (decide (12 < m_0)) then (some [(.b false)]) else
   (Option.bind (F_dayform_Check [(.i d_0), (.i d_1), (.i d_2)]) fun r_0 =>
    onI r_0 fun i_0 ds_7 =>
    bif (!decide (i_0 = 0)) then (some [(.b false)]) else
    (Option.bind (bif (decide (1048576 ≤ to_0)) then (some true) else
      (some false)) fun b_0 =>
     Option.bind (F_civil_Len [(.i 2023), (.i m_0)]) fun r_1 =>
     onI r_1 fun i_1 ds_8 =>
     bif (decide (d_2 ≤ i_1)) then (some [(.b true)]) else
     (Option.bind (bif (decide (to_0 < from_0)) then (some (!b_0)) else
       (some false)) fun b_1 =>
      bif b_1 then (some [(.b true)]) else
      (Option.bind (bif (decide (m_0 = 2)) then (bif (decide (d_2 = 29)) then (some true) else
         (some false)) else
        (some false)) fun b_2 =>
       bif b_2 then (bif (!b_0) then (bif (decide (from_0 = to_0)) then (Option.bind (F_civil_Leap [(.i from_0)]) fun r_2 =>
          onB r_2 fun b_3 ds_9 =>
          some [(.b b_3)]) else
         (some [(.b false)])) else
        (some [(.b false)])) else
       (some [(.b false)]))))))
noncomputable def F_law02_means : List Dat → Option (List Dat) := fun ds_0 =>
  onI ds_0 fun y_0 ds_1 =>
  onI ds_1 fun m_0 ds_2 =>
  onI ds_2 fun d_0 ds_3 =>
  onI ds_3 fun d_1 ds_4 =>
  onI ds_4 fun d_2 ds_5 =>
  onI ds_5 fun month_0 ds_6 =>
  onI ds_6 fun day_0 ds_7 =>
  Option.bind (F_dayform_On [(.i y_0), (.i m_0), (.i d_0), (.i d_1), (.i d_2)]) fun r_0 =>
  onI r_0 fun i_0 ds_8 =>
  onI ds_8 fun i_1 ds_9 =>
  Option.bind (F_civil_Days [(.i y_0), (.i month_0), (.i day_0)]) fun r_1 =>
  onI r_1 fun i_2 ds_10 =>
  onI ds_10 fun i_3 ds_11 =>
  Option.bind (bif (decide (i_1 = 0)) then (bif (decide (i_3 = 0)) then (bif (decide (i_0 = i_2)) then (some true) else
     (some false)) else
    (some false)) else
   (some false)) fun b_0 =>
  some [(.b b_0)]
noncomputable def F_law02_fails : List Dat → Option (List Dat) := fun ds_0 =>
  onI ds_0 fun y_0 ds_1 =>
  onI ds_1 fun m_0 ds_2 =>
  onI ds_2 fun d_0 ds_3 =>
  onI ds_3 fun d_1 ds_4 =>
  onI ds_4 fun d_2 ds_5 =>
  onI ds_5 fun want_0 ds_6 =>
  Option.bind (F_dayform_On [(.i y_0), (.i m_0), (.i d_0), (.i d_1), (.i d_2)]) fun r_0 =>
  onI r_0 fun i_0 ds_7 =>
  onI ds_7 fun i_1 ds_8 =>
  Option.bind (bif (decide (i_0 = 0)) then (bif (decide (i_1 = want_0)) then (some true) else
    (some false)) else
   (some false)) fun b_0 =>
  some [(.b b_0)]
noncomputable def F_law02_works : List Dat → Option (List Dat) := fun _ => some [.b true]
noncomputable def F_law02_DayformEach_L0 : List Dat → Option (List Dat ⊕ List Dat) := fun ds_11 =>
  onI ds_11 fun month_0 ds_12 =>
  onI ds_12 fun vat_0 ds_13 =>
  onI ds_13 fun until_0 ds_14 =>
  onB ds_14 fun all_0 ds_15 =>
  onI ds_15 fun z_0 ds_16 =>
  onI ds_16 fun c_0 ds_17 =>
  onI ds_17 fun c_1 ds_18 =>
  onI ds_18 fun c_2 ds_19 =>
  bif (decide (z_0 ≤ until_0)) then (Option.bind (F_dayform_On [(.i z_0), (.i month_0), (.i c_0), (.i c_1), (.i c_2)]) fun r_2 =>
   onI r_2 fun i_4 ds_20 =>
   onI ds_20 fun i_5 ds_21 =>
   Option.bind (bif (!decide (i_5 = 0)) then (bif (!decide (i_5 = 4)) then (some true) else
     (some false)) else
    (some false)) fun b_0 =>
   bif b_0 then (Option.map .inr (some [(.b false)])) else
   (Option.bind (bif all_0 then (bif (decide (i_5 = 0)) then (some true) else
      (some false)) else
     (some false)) fun b_1 =>
    some (.inl [(.i month_0), (.i vat_0), (.i until_0), (.b b_1), (.i (i64 (z_0 + 1))), (.i c_0), (.i c_1), (.i c_2)]))) else
  (Option.map .inr (bif (decide (until_0 < 1048576)) then (Option.bind (F_dayform_Always [(.i vat_0), (.i until_0), (.i month_0), (.i c_0), (.i c_1), (.i c_2)]) fun r_3 =>
     onB r_3 fun b_2 ds_22 =>
     bif (!(b_2 == all_0)) then (some [(.b false)]) else
     (Option.bind (F_dayform_On [(.i 2001), (.i month_0), (.i c_0), (.i c_1), (.i c_2)]) fun r_4 =>
      onI r_4 fun i_6 ds_23 =>
      onI ds_23 fun i_7 ds_24 =>
      Option.bind (bif all_0 then (bif (decide (i_7 = 0)) then (some true) else
        (some false)) else
       (some false)) fun b_3 =>
      Option.bind (F_dayform_On [(.i 2002), (.i month_0), (.i c_0), (.i c_1), (.i c_2)]) fun r_5 =>
      onI r_5 fun i_8 ds_25 =>
      onI ds_25 fun i_9 ds_26 =>
      Option.bind (bif b_3 then (bif (decide (i_9 = 0)) then (some true) else
        (some false)) else
       (some false)) fun b_4 =>
      Option.bind (F_dayform_On [(.i 2003), (.i month_0), (.i c_0), (.i c_1), (.i c_2)]) fun r_6 =>
      onI r_6 fun i_10 ds_27 =>
      onI ds_27 fun i_11 ds_28 =>
      Option.bind (bif b_4 then (bif (decide (i_11 = 0)) then (some true) else
        (some false)) else
       (some false)) fun b_5 =>
      Option.bind (F_dayform_On [(.i 2004), (.i month_0), (.i c_0), (.i c_1), (.i c_2)]) fun r_7 =>
      onI r_7 fun i_12 ds_29 =>
      onI ds_29 fun i_13 ds_30 =>
      Option.bind (bif b_5 then (bif (decide (i_13 = 0)) then (some true) else
        (some false)) else
       (some false)) fun b_6 =>
      Option.bind (F_dayform_On [(.i 2005), (.i month_0), (.i c_0), (.i c_1), (.i c_2)]) fun r_8 =>
      onI r_8 fun i_14 ds_31 =>
      onI ds_31 fun i_15 ds_32 =>
      Option.bind (bif b_6 then (bif (decide (i_15 = 0)) then (some true) else
        (some false)) else
       (some false)) fun b_7 =>
      Option.bind (F_dayform_On [(.i 2006), (.i month_0), (.i c_0), (.i c_1), (.i c_2)]) fun r_9 =>
      onI r_9 fun i_16 ds_33 =>
      onI ds_33 fun i_17 ds_34 =>
      Option.bind (bif b_7 then (bif (decide (i_17 = 0)) then (some true) else
        (some false)) else
       (some false)) fun b_8 =>
      Option.bind (F_dayform_On [(.i 2007), (.i month_0), (.i c_0), (.i c_1), (.i c_2)]) fun r_10 =>
      onI r_10 fun i_18 ds_35 =>
      onI ds_35 fun i_19 ds_36 =>
      Option.bind (bif b_8 then (bif (decide (i_19 = 0)) then (some true) else
        (some false)) else
       (some false)) fun b_9 =>
      Option.bind (F_dayform_On [(.i 2008), (.i month_0), (.i c_0), (.i c_1), (.i c_2)]) fun r_11 =>
      onI r_11 fun i_20 ds_37 =>
      onI ds_37 fun i_21 ds_38 =>
      Option.bind (bif b_9 then (bif (decide (i_21 = 0)) then (some true) else
        (some false)) else
       (some false)) fun b_10 =>
      Option.bind (F_dayform_On [(.i 2009), (.i month_0), (.i c_0), (.i c_1), (.i c_2)]) fun r_12 =>
      onI r_12 fun i_22 ds_39 =>
      onI ds_39 fun i_23 ds_40 =>
      Option.bind (bif b_10 then (bif (decide (i_23 = 0)) then (some true) else
        (some false)) else
       (some false)) fun b_11 =>
      Option.bind (F_dayform_Always [(.i vat_0), (.i 1048576), (.i month_0), (.i c_0), (.i c_1), (.i c_2)]) fun r_13 =>
      onB r_13 fun b_12 ds_41 =>
      Option.bind (F_civil_Len [(.i 2001), (.i month_0)]) fun r_14 =>
      onI r_14 fun i_24 ds_42 =>
      bif (decide (c_2 ≤ i_24)) then (bif (b_12 == true) then (bif (b_12 == true) then (bif (b_12 == true) then (bif (!b_11) then (bif (!b_11) then (bif (!b_11) then (bif (!b_11) then (bif (b_12 == true) then (Option.bind (F_law02_works []) fun r_15 =>
               onB r_15 fun b_13 ds_43 =>
               some [(.b b_13)]) else
              (some [(.b false)])) else
             (none)) else
            (bif (!b_11) then (bif (b_12 == true) then (Option.bind (F_law02_works []) fun r_16 =>
               onB r_16 fun b_14 ds_44 =>
               some [(.b b_14)]) else
              (some [(.b false)])) else
             (none))) else
           (bif (!b_11) then (bif (!b_11) then (bif (b_12 == true) then (Option.bind (F_law02_works []) fun r_17 =>
               onB r_17 fun b_15 ds_45 =>
               some [(.b b_15)]) else
              (some [(.b false)])) else
             (none)) else
            (bif (!b_11) then (bif (b_12 == true) then (Option.bind (F_law02_works []) fun r_18 =>
               onB r_18 fun b_16 ds_46 =>
               some [(.b b_16)]) else
              (some [(.b false)])) else
             (none)))) else
          (bif (!b_11) then (bif (!b_11) then (bif (!b_11) then (bif (b_12 == true) then (Option.bind (F_law02_works []) fun r_19 =>
               onB r_19 fun b_17 ds_47 =>
               some [(.b b_17)]) else
              (some [(.b false)])) else
             (none)) else
            (bif (!b_11) then (bif (b_12 == true) then (Option.bind (F_law02_works []) fun r_20 =>
               onB r_20 fun b_18 ds_48 =>
               some [(.b b_18)]) else
              (some [(.b false)])) else
             (none))) else
           (bif (!b_11) then (bif (!b_11) then (bif (b_12 == true) then (Option.bind (F_law02_works []) fun r_21 =>
               onB r_21 fun b_19 ds_49 =>
               some [(.b b_19)]) else
              (some [(.b false)])) else
             (none)) else
            (bif (!b_11) then (bif (b_12 == true) then (Option.bind (F_law02_works []) fun r_22 =>
               onB r_22 fun b_20 ds_50 =>
               some [(.b b_20)]) else
              (some [(.b false)])) else
             (Option.bind (F_dayform_Always [(.i vat_0), (.i 1048576), (.i month_0), (.i c_0), (.i c_1), (.i c_2)]) fun r_23 =>
              onB r_23 fun b_21 ds_51 =>
              bif (b_12 == true) then (bif b_21 then (Option.bind (F_law02_works []) fun r_24 =>
                onB r_24 fun b_22 ds_52 =>
                some [(.b b_22)]) else
               (some [(.b false)])) else
              (some [(.b false)])))))) else
         (bif (b_12 == true) then (none) else
          (some [(.b false)]))) else
        (bif (b_12 == true) then (bif (b_12 == true) then (none) else
          (some [(.b false)])) else
         (bif (b_12 == true) then (none) else
          (some [(.b false)])))) else
       (bif (b_12 == true) then (none) else
        (bif (b_12 == true) then (bif (b_12 == true) then (none) else
          (some [(.b false)])) else
         (bif (b_12 == true) then (none) else
          (some [(.b false)]))))) else
      (bif (b_12 == false) then (bif (b_12 == false) then (bif (b_12 == false) then (bif (!b_11) then (bif (!b_11) then (bif (!b_11) then (bif (!b_11) then (bif (b_12 == false) then (Option.bind (F_law02_works []) fun r_25 =>
               onB r_25 fun b_23 ds_53 =>
               some [(.b b_23)]) else
              (some [(.b false)])) else
             (none)) else
            (bif (!b_11) then (bif (b_12 == false) then (Option.bind (F_law02_works []) fun r_26 =>
               onB r_26 fun b_24 ds_54 =>
               some [(.b b_24)]) else
              (some [(.b false)])) else
             (none))) else
           (bif (!b_11) then (bif (!b_11) then (bif (b_12 == false) then (Option.bind (F_law02_works []) fun r_27 =>
               onB r_27 fun b_25 ds_55 =>
               some [(.b b_25)]) else
              (some [(.b false)])) else
             (none)) else
            (bif (!b_11) then (bif (b_12 == false) then (Option.bind (F_law02_works []) fun r_28 =>
               onB r_28 fun b_26 ds_56 =>
               some [(.b b_26)]) else
              (some [(.b false)])) else
             (none)))) else
          (bif (!b_11) then (bif (!b_11) then (bif (!b_11) then (bif (b_12 == false) then (Option.bind (F_law02_works []) fun r_29 =>
               onB r_29 fun b_27 ds_57 =>
               some [(.b b_27)]) else
              (some [(.b false)])) else
             (none)) else
            (bif (!b_11) then (bif (b_12 == false) then (Option.bind (F_law02_works []) fun r_30 =>
               onB r_30 fun b_28 ds_58 =>
               some [(.b b_28)]) else
              (some [(.b false)])) else
             (none))) else
           (bif (!b_11) then (bif (!b_11) then (bif (b_12 == false) then (Option.bind (F_law02_works []) fun r_31 =>
               onB r_31 fun b_29 ds_59 =>
               some [(.b b_29)]) else
              (some [(.b false)])) else
             (none)) else
            (bif (!b_11) then (bif (b_12 == false) then (Option.bind (F_law02_works []) fun r_32 =>
               onB r_32 fun b_30 ds_60 =>
               some [(.b b_30)]) else
              (some [(.b false)])) else
             (Option.bind (F_dayform_Always [(.i vat_0), (.i 1048576), (.i month_0), (.i c_0), (.i c_1), (.i c_2)]) fun r_33 =>
              onB r_33 fun b_31 ds_61 =>
              bif (b_12 == false) then (bif b_31 then (Option.bind (F_law02_works []) fun r_34 =>
                onB r_34 fun b_32 ds_62 =>
                some [(.b b_32)]) else
               (some [(.b false)])) else
              (some [(.b false)])))))) else
         (bif (b_12 == false) then (none) else
          (some [(.b false)]))) else
        (bif (b_12 == false) then (bif (b_12 == false) then (none) else
          (some [(.b false)])) else
         (bif (b_12 == false) then (none) else
          (some [(.b false)])))) else
       (bif (b_12 == false) then (none) else
        (bif (b_12 == false) then (bif (b_12 == false) then (none) else
          (some [(.b false)])) else
         (bif (b_12 == false) then (none) else
          (some [(.b false)]))))))) else
    (Option.bind (F_dayform_On [(.i 2001), (.i month_0), (.i c_0), (.i c_1), (.i c_2)]) fun r_35 =>
     onI r_35 fun i_25 ds_63 =>
     onI ds_63 fun i_26 ds_64 =>
     Option.bind (bif all_0 then (bif (decide (i_26 = 0)) then (some true) else
       (some false)) else
      (some false)) fun b_33 =>
     Option.bind (F_dayform_On [(.i 2002), (.i month_0), (.i c_0), (.i c_1), (.i c_2)]) fun r_36 =>
     onI r_36 fun i_27 ds_65 =>
     onI ds_65 fun i_28 ds_66 =>
     Option.bind (bif b_33 then (bif (decide (i_28 = 0)) then (some true) else
       (some false)) else
      (some false)) fun b_34 =>
     Option.bind (F_dayform_On [(.i 2003), (.i month_0), (.i c_0), (.i c_1), (.i c_2)]) fun r_37 =>
     onI r_37 fun i_29 ds_67 =>
     onI ds_67 fun i_30 ds_68 =>
     Option.bind (bif b_34 then (bif (decide (i_30 = 0)) then (some true) else
       (some false)) else
      (some false)) fun b_35 =>
     Option.bind (F_dayform_On [(.i 2004), (.i month_0), (.i c_0), (.i c_1), (.i c_2)]) fun r_38 =>
     onI r_38 fun i_31 ds_69 =>
     onI ds_69 fun i_32 ds_70 =>
     Option.bind (bif b_35 then (bif (decide (i_32 = 0)) then (some true) else
       (some false)) else
      (some false)) fun b_36 =>
     Option.bind (F_dayform_On [(.i 2005), (.i month_0), (.i c_0), (.i c_1), (.i c_2)]) fun r_39 =>
     onI r_39 fun i_33 ds_71 =>
     onI ds_71 fun i_34 ds_72 =>
     Option.bind (bif b_36 then (bif (decide (i_34 = 0)) then (some true) else
       (some false)) else
      (some false)) fun b_37 =>
     Option.bind (F_dayform_On [(.i 2006), (.i month_0), (.i c_0), (.i c_1), (.i c_2)]) fun r_40 =>
     onI r_40 fun i_35 ds_73 =>
     onI ds_73 fun i_36 ds_74 =>
     Option.bind (bif b_37 then (bif (decide (i_36 = 0)) then (some true) else
       (some false)) else
      (some false)) fun b_38 =>
     Option.bind (F_dayform_On [(.i 2007), (.i month_0), (.i c_0), (.i c_1), (.i c_2)]) fun r_41 =>
     onI r_41 fun i_37 ds_75 =>
     onI ds_75 fun i_38 ds_76 =>
     Option.bind (bif b_38 then (bif (decide (i_38 = 0)) then (some true) else
       (some false)) else
      (some false)) fun b_39 =>
     Option.bind (F_dayform_On [(.i 2008), (.i month_0), (.i c_0), (.i c_1), (.i c_2)]) fun r_42 =>
     onI r_42 fun i_39 ds_77 =>
     onI ds_77 fun i_40 ds_78 =>
     Option.bind (bif b_39 then (bif (decide (i_40 = 0)) then (some true) else
       (some false)) else
      (some false)) fun b_40 =>
     Option.bind (F_dayform_On [(.i 2009), (.i month_0), (.i c_0), (.i c_1), (.i c_2)]) fun r_43 =>
     onI r_43 fun i_41 ds_79 =>
     onI ds_79 fun i_42 ds_80 =>
     Option.bind (bif b_40 then (bif (decide (i_42 = 0)) then (some true) else
       (some false)) else
      (some false)) fun b_41 =>
     Option.bind (F_dayform_Always [(.i vat_0), (.i 1048576), (.i month_0), (.i c_0), (.i c_1), (.i c_2)]) fun r_44 =>
     onB r_44 fun b_42 ds_81 =>
     Option.bind (F_civil_Len [(.i 2001), (.i month_0)]) fun r_45 =>
     onI r_45 fun i_43 ds_82 =>
     bif (decide (c_2 ≤ i_43)) then (bif (b_42 == true) then (bif (b_42 == true) then (bif (b_42 == true) then (bif (!b_41) then (bif (!b_41) then (bif (!b_41) then (bif (!b_41) then (bif (b_42 == true) then (Option.bind (F_law02_works []) fun r_46 =>
              onB r_46 fun b_43 ds_83 =>
              some [(.b b_43)]) else
             (some [(.b false)])) else
            (none)) else
           (bif (!b_41) then (bif (b_42 == true) then (Option.bind (F_law02_works []) fun r_47 =>
              onB r_47 fun b_44 ds_84 =>
              some [(.b b_44)]) else
             (some [(.b false)])) else
            (none))) else
          (bif (!b_41) then (bif (!b_41) then (bif (b_42 == true) then (Option.bind (F_law02_works []) fun r_48 =>
              onB r_48 fun b_45 ds_85 =>
              some [(.b b_45)]) else
             (some [(.b false)])) else
            (none)) else
           (bif (!b_41) then (bif (b_42 == true) then (Option.bind (F_law02_works []) fun r_49 =>
              onB r_49 fun b_46 ds_86 =>
              some [(.b b_46)]) else
             (some [(.b false)])) else
            (none)))) else
         (bif (!b_41) then (bif (!b_41) then (bif (!b_41) then (bif (b_42 == true) then (Option.bind (F_law02_works []) fun r_50 =>
              onB r_50 fun b_47 ds_87 =>
              some [(.b b_47)]) else
             (some [(.b false)])) else
            (none)) else
           (bif (!b_41) then (bif (b_42 == true) then (Option.bind (F_law02_works []) fun r_51 =>
              onB r_51 fun b_48 ds_88 =>
              some [(.b b_48)]) else
             (some [(.b false)])) else
            (none))) else
          (bif (!b_41) then (bif (!b_41) then (bif (b_42 == true) then (Option.bind (F_law02_works []) fun r_52 =>
              onB r_52 fun b_49 ds_89 =>
              some [(.b b_49)]) else
             (some [(.b false)])) else
            (none)) else
           (bif (!b_41) then (bif (b_42 == true) then (Option.bind (F_law02_works []) fun r_53 =>
              onB r_53 fun b_50 ds_90 =>
              some [(.b b_50)]) else
             (some [(.b false)])) else
            (Option.bind (F_dayform_Always [(.i vat_0), (.i 1048576), (.i month_0), (.i c_0), (.i c_1), (.i c_2)]) fun r_54 =>
             onB r_54 fun b_51 ds_91 =>
             bif (b_42 == true) then (bif b_51 then (Option.bind (F_law02_works []) fun r_55 =>
               onB r_55 fun b_52 ds_92 =>
               some [(.b b_52)]) else
              (some [(.b false)])) else
             (some [(.b false)])))))) else
        (bif (b_42 == true) then (none) else
         (some [(.b false)]))) else
       (bif (b_42 == true) then (bif (b_42 == true) then (none) else
         (some [(.b false)])) else
        (bif (b_42 == true) then (none) else
         (some [(.b false)])))) else
      (bif (b_42 == true) then (none) else
       (bif (b_42 == true) then (bif (b_42 == true) then (none) else
         (some [(.b false)])) else
        (bif (b_42 == true) then (none) else
         (some [(.b false)]))))) else
     (bif (b_42 == false) then (bif (b_42 == false) then (bif (b_42 == false) then (bif (!b_41) then (bif (!b_41) then (bif (!b_41) then (bif (!b_41) then (bif (b_42 == false) then (Option.bind (F_law02_works []) fun r_56 =>
              onB r_56 fun b_53 ds_93 =>
              some [(.b b_53)]) else
             (some [(.b false)])) else
            (none)) else
           (bif (!b_41) then (bif (b_42 == false) then (Option.bind (F_law02_works []) fun r_57 =>
              onB r_57 fun b_54 ds_94 =>
              some [(.b b_54)]) else
             (some [(.b false)])) else
            (none))) else
          (bif (!b_41) then (bif (!b_41) then (bif (b_42 == false) then (Option.bind (F_law02_works []) fun r_58 =>
              onB r_58 fun b_55 ds_95 =>
              some [(.b b_55)]) else
             (some [(.b false)])) else
            (none)) else
           (bif (!b_41) then (bif (b_42 == false) then (Option.bind (F_law02_works []) fun r_59 =>
              onB r_59 fun b_56 ds_96 =>
              some [(.b b_56)]) else
             (some [(.b false)])) else
            (none)))) else
         (bif (!b_41) then (bif (!b_41) then (bif (!b_41) then (bif (b_42 == false) then (Option.bind (F_law02_works []) fun r_60 =>
              onB r_60 fun b_57 ds_97 =>
              some [(.b b_57)]) else
             (some [(.b false)])) else
            (none)) else
           (bif (!b_41) then (bif (b_42 == false) then (Option.bind (F_law02_works []) fun r_61 =>
              onB r_61 fun b_58 ds_98 =>
              some [(.b b_58)]) else
             (some [(.b false)])) else
            (none))) else
          (bif (!b_41) then (bif (!b_41) then (bif (b_42 == false) then (Option.bind (F_law02_works []) fun r_62 =>
              onB r_62 fun b_59 ds_99 =>
              some [(.b b_59)]) else
             (some [(.b false)])) else
            (none)) else
           (bif (!b_41) then (bif (b_42 == false) then (Option.bind (F_law02_works []) fun r_63 =>
              onB r_63 fun b_60 ds_100 =>
              some [(.b b_60)]) else
             (some [(.b false)])) else
            (Option.bind (F_dayform_Always [(.i vat_0), (.i 1048576), (.i month_0), (.i c_0), (.i c_1), (.i c_2)]) fun r_64 =>
             onB r_64 fun b_61 ds_101 =>
             bif (b_42 == false) then (bif b_61 then (Option.bind (F_law02_works []) fun r_65 =>
               onB r_65 fun b_62 ds_102 =>
               some [(.b b_62)]) else
              (some [(.b false)])) else
             (some [(.b false)])))))) else
        (bif (b_42 == false) then (none) else
         (some [(.b false)]))) else
       (bif (b_42 == false) then (bif (b_42 == false) then (none) else
         (some [(.b false)])) else
        (bif (b_42 == false) then (none) else
         (some [(.b false)])))) else
      (bif (b_42 == false) then (none) else
       (bif (b_42 == false) then (bif (b_42 == false) then (none) else
         (some [(.b false)])) else
        (bif (b_42 == false) then (none) else
         (some [(.b false)]))))))))
noncomputable def F_law02_DayformEach : List Dat → Option (List Dat) := fun ds_0 =>
  onI ds_0 fun d_0 ds_1 =>
  onI ds_1 fun d_1 ds_2 =>
  onI ds_2 fun d_2 ds_3 =>
  onI ds_3 fun y_0 ds_4 =>
  onI ds_4 fun m_0 ds_5 =>
  onI ds_5 fun more_0 ds_6 =>
  Option.bind (F__law02_Draft__Made [(.i d_0), (.i d_1), (.i d_2)]) fun r_0 =>
  onI r_0 fun i_0 ds_7 =>
  onI ds_7 fun i_1 ds_8 =>
  onI ds_8 fun i_2 ds_9 =>
  Option.bind (F_law02_year [(.i y_0)]) fun r_1 =>
  onI r_1 fun i_3 ds_10 =>
  iter F_law02_DayformEach_L0 [(.i (i64 (1 + (i64 (Int.tmod m_0 12))))), (.i i_3), (.i (if 2000000000 < (i64 (i_3 + (i64 (Int.tmod more_0 12)))) then 2000000000 else (i64 (i_3 + (i64 (Int.tmod more_0 12)))))), (.b true), (.i i_3), (.i i_0), (.i i_1), (.i i_2)]
end Go.Proofs.YtljbgkfoljjgbaaDoor
