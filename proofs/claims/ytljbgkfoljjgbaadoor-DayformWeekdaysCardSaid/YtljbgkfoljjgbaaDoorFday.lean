/-
  The functions of plain data that the laws of this group reach, as the program has them.
-/
import Derived.Test.YtljbgkfoljjgbaaDoorAx33
namespace Go.Proofs.YtljbgkfoljjgbaaDoor
open Go.Ax
set_option linter.all false
set_option maxRecDepth 100000
noncomputable def F_law02_fixed : List Dat → Option (List Dat) := fun ds_0 =>
  onI ds_0 fun n_0 ds_1 =>
  some [(.i 1), (.i 0), (.i n_0)]
noncomputable def F_law02_last : List Dat → Option (List Dat) := fun ds_0 =>
  onI ds_0 fun w_0 ds_1 =>
  some [(.i 2), (.i w_0), (.i 0)]
noncomputable def F_law02_from : List Dat → Option (List Dat) := fun ds_0 =>
  onI ds_0 fun w_0 ds_1 =>
  onI ds_1 fun n_0 ds_2 =>
  some [(.i 3), (.i w_0), (.i n_0)]
noncomputable def F_law02_to : List Dat → Option (List Dat) := fun ds_0 =>
  onI ds_0 fun w_0 ds_1 =>
  onI ds_1 fun n_0 ds_2 =>
  some [(.i 4), (.i w_0), (.i n_0)]
noncomputable def F__law02_Draft__Made : List Dat → Option (List Dat) := fun ds_0 =>
  onI ds_0 fun d_0 ds_1 =>
  onI ds_1 fun d_1 ds_2 =>
  onI ds_2 fun d_2 ds_3 =>
  bif (decide ((Int.tmod d_0 4) = 0)) then (Option.bind (F_law02_fixed [(.i (i64 (1 + (i64 (Int.tmod d_2 31)))))]) fun r_0 =>
   onI r_0 fun i_0 ds_4 =>
   onI ds_4 fun i_1 ds_5 =>
   onI ds_5 fun i_2 ds_6 =>
   some [(.i i_0), (.i i_1), (.i i_2)]) else
  (bif (decide ((Int.tmod d_0 4) = 1)) then (Option.bind (F_law02_last [(.i (i64 (Int.tmod d_1 7)))]) fun r_1 =>
    onI r_1 fun i_3 ds_7 =>
    onI ds_7 fun i_4 ds_8 =>
    onI ds_8 fun i_5 ds_9 =>
    some [(.i i_3), (.i i_4), (.i i_5)]) else
   (bif (decide ((Int.tmod d_0 4) = 2)) then (Option.bind (F_law02_from [(.i (i64 (Int.tmod d_1 7))), (.i (i64 (1 + (i64 (Int.tmod d_2 31)))))]) fun r_2 =>
     onI r_2 fun i_6 ds_10 =>
     onI ds_10 fun i_7 ds_11 =>
     onI ds_11 fun i_8 ds_12 =>
     some [(.i i_6), (.i i_7), (.i i_8)]) else
    (Option.bind (F_law02_to [(.i (i64 (Int.tmod d_1 7))), (.i (i64 (1 + (i64 (Int.tmod d_2 31)))))]) fun r_3 =>
     onI r_3 fun i_9 ds_13 =>
     onI ds_13 fun i_10 ds_14 =>
     onI ds_14 fun i_11 ds_15 =>
     some [(.i i_9), (.i i_10), (.i i_11)])))
noncomputable def F_law02_year : List Dat → Option (List Dat) := fun ds_0 =>
  onI ds_0 fun y_0 ds_1 =>
  some [(.i (if (if 2000000000 < (i64 y_0) then 2000000000 else (i64 y_0)) > (-2000000000) then (if 2000000000 < (i64 y_0) then 2000000000 else (i64 y_0)) else (-2000000000)))]
noncomputable def F_civil_Leap : List Dat → Option (List Dat) := fun ds_0 =>
  onI ds_0 fun y_0 ds_1 =>
  Option.bind (bif (decide ((Int.tmod y_0 4) = 0)) then (bif (!decide ((Int.tmod y_0 100) = 0)) then (some true) else
    (bif (decide ((Int.tmod y_0 400) = 0)) then (some true) else
     (some false))) else
   (some false)) fun b_0 =>
  some [(.b b_0)]
noncomputable def F_civil_Len : List Dat → Option (List Dat) := fun ds_0 =>
  onI ds_0 fun y_0 ds_1 =>
  onI ds_1 fun m_0 ds_2 =>
  Option.bind (bif (decide (m_0 < 1)) then (some true) else
   (bif (decide (12 < m_0)) then (some true) else
    (some false))) fun b_0 =>
  bif b_0 then (some [(.i 0)]) else
  (bif (decide ((0 ≤ m_0) ∧ (m_0 < 13))) then (Option.bind (asI .i64 ([(Ax.AV.int .i64 (Ax.I.lit 0)), (Ax.AV.int .i64 (Ax.I.lit 31)), (Ax.AV.int .i64 (Ax.I.lit 59)), (Ax.AV.int .i64 (Ax.I.lit 90)), (Ax.AV.int .i64 (Ax.I.lit 120)), (Ax.AV.int .i64 (Ax.I.lit 151)), (Ax.AV.int .i64 (Ax.I.lit 181)), (Ax.AV.int .i64 (Ax.I.lit 212)), (Ax.AV.int .i64 (Ax.I.lit 243)), (Ax.AV.int .i64 (Ax.I.lit 273)), (Ax.AV.int .i64 (Ax.I.lit 304)), (Ax.AV.int .i64 (Ax.I.lit 334)), (Ax.AV.int .i64 (Ax.I.lit 365))])[(m_0).toNat]?) fun x_0 =>
   bif (decide ((0 ≤ (i64 (m_0 - 1))) ∧ ((i64 (m_0 - 1)) < 13))) then (Option.bind (asI .i64 ([(Ax.AV.int .i64 (Ax.I.lit 0)), (Ax.AV.int .i64 (Ax.I.lit 31)), (Ax.AV.int .i64 (Ax.I.lit 59)), (Ax.AV.int .i64 (Ax.I.lit 90)), (Ax.AV.int .i64 (Ax.I.lit 120)), (Ax.AV.int .i64 (Ax.I.lit 151)), (Ax.AV.int .i64 (Ax.I.lit 181)), (Ax.AV.int .i64 (Ax.I.lit 212)), (Ax.AV.int .i64 (Ax.I.lit 243)), (Ax.AV.int .i64 (Ax.I.lit 273)), (Ax.AV.int .i64 (Ax.I.lit 304)), (Ax.AV.int .i64 (Ax.I.lit 334)), (Ax.AV.int .i64 (Ax.I.lit 365))])[((i64 (m_0 - 1))).toNat]?) fun x_1 =>
   bif (decide (m_0 = 2)) then (Option.bind (F_civil_Leap [(.i y_0)]) fun r_0 =>
    onB r_0 fun b_1 ds_3 =>
    bif b_1 then (some [(.i (i64 ((i64 (x_0 - x_1)) + 1)))]) else
    (some [(.i (i64 (x_0 - x_1)))])) else
   (some [(.i (i64 (x_0 - x_1)))])) else none) else none)
noncomputable def F_civil_floor : List Dat → Option (List Dat) := fun ds_0 =>
  onI ds_0 fun a_0 ds_1 =>
  onI ds_1 fun b_0 ds_2 =>
  bif (b_0 != 0) then (bif (b_0 != 0) then (bif (decide ((Int.tmod a_0 b_0) < 0)) then (some [(.i (i64 ((i64 (Int.tdiv a_0 b_0)) - 1)))]) else
  (some [(.i (i64 (Int.tdiv a_0 b_0)))])) else none) else none
noncomputable def F_civil_Days : List Dat → Option (List Dat) := fun ds_0 =>
  onI ds_0 fun y_0 ds_1 =>
  onI ds_1 fun m_0 ds_2 =>
  onI ds_2 fun d_0 ds_3 =>
  bif (decide (y_0 < (-2000000000))) then (some [(.i 0), (.i 3)]) else
  (bif (decide (2000000000 < y_0)) then (some [(.i 0), (.i 3)]) else
   (bif (decide (d_0 < 1)) then (some [(.i 0), (.i 3)]) else
    (Option.bind (F_civil_Len [(.i y_0), (.i m_0)]) fun r_0 =>
     onI r_0 fun i_0 ds_4 =>
     bif (decide (i_0 < d_0)) then (some [(.i 0), (.i 3)]) else
     (Option.bind (F_civil_floor [(.i (i64 (y_0 - 1))), (.i 4)]) fun r_1 =>
      onI r_1 fun i_1 ds_5 =>
      Option.bind (F_civil_floor [(.i (i64 (y_0 - 1))), (.i 100)]) fun r_2 =>
      onI r_2 fun i_2 ds_6 =>
      Option.bind (F_civil_floor [(.i (i64 (y_0 - 1))), (.i 400)]) fun r_3 =>
      onI r_3 fun i_3 ds_7 =>
      bif (decide ((0 ≤ (i64 (m_0 - 1))) ∧ ((i64 (m_0 - 1)) < 13))) then (Option.bind (asI .i64 ([(Ax.AV.int .i64 (Ax.I.lit 0)), (Ax.AV.int .i64 (Ax.I.lit 31)), (Ax.AV.int .i64 (Ax.I.lit 59)), (Ax.AV.int .i64 (Ax.I.lit 90)), (Ax.AV.int .i64 (Ax.I.lit 120)), (Ax.AV.int .i64 (Ax.I.lit 151)), (Ax.AV.int .i64 (Ax.I.lit 181)), (Ax.AV.int .i64 (Ax.I.lit 212)), (Ax.AV.int .i64 (Ax.I.lit 243)), (Ax.AV.int .i64 (Ax.I.lit 273)), (Ax.AV.int .i64 (Ax.I.lit 304)), (Ax.AV.int .i64 (Ax.I.lit 334)), (Ax.AV.int .i64 (Ax.I.lit 365))])[((i64 (m_0 - 1))).toNat]?) fun x_0 =>
      bif (decide (2 < m_0)) then (Option.bind (F_civil_Leap [(.i y_0)]) fun r_4 =>
       onB r_4 fun b_0 ds_8 =>
       bif b_0 then (some [(.i (i64 ((i64 ((i64 ((i64 ((i64 ((i64 ((i64 ((i64 (365 * y_0)) + i_1)) - i_2)) + i_3)) + 1)) + (i64 ((i64 (x_0 + d_0)) - 1)))) + 1)) + (-719528)))), (.i 0)]) else
       (some [(.i (i64 ((i64 ((i64 ((i64 ((i64 ((i64 ((i64 (365 * y_0)) + i_1)) - i_2)) + i_3)) + 1)) + (i64 ((i64 (x_0 + d_0)) - 1)))) + (-719528)))), (.i 0)])) else
      (some [(.i (i64 ((i64 ((i64 ((i64 ((i64 ((i64 ((i64 (365 * y_0)) + i_1)) - i_2)) + i_3)) + 1)) + (i64 ((i64 (x_0 + d_0)) - 1)))) + (-719528)))), (.i 0)])) else none))))
noncomputable def F_dayform_dayOf : List Dat → Option (List Dat) := fun ds_0 =>
  onI ds_0 fun d_0 ds_1 =>
  onI ds_1 fun d_1 ds_2 =>
  onI ds_2 fun d_2 ds_3 =>
  onI ds_3 fun first_0 ds_4 =>
  some [(.i (i64 ((i64 (first_0 + d_2)) - 1)))]
noncomputable def F_civil_Weekday : List Dat → Option (List Dat) := fun ds_0 =>
  onI ds_0 fun days_0 ds_1 =>
  some [(.i (Int.tmod (i64 ((i64 ((Int.tmod days_0 7) + 7)) + 4)) 7))]
noncomputable def F_dayform_back : List Dat → Option (List Dat) := fun ds_0 =>
  onI ds_0 fun week_0 ds_1 =>
  onI ds_1 fun day_0 ds_2 =>
  Option.bind (F_civil_Weekday [(.i day_0)]) fun r_0 =>
  onI r_0 fun i_0 ds_3 =>
  some [(.i (Int.tmod (i64 ((i64 (i_0 - week_0)) + 7)) 7))]
noncomputable def F_dayform_kinds : List Dat → Option (List Dat) := fun ds_0 =>
  some [(.b false), (.b false), (.b false), (.b true), (.b true), (.b false), (.b true), (.b true), (.b true), (.b true)]
noncomputable def F_dayform_On : List Dat → Option (List Dat) := fun ds_0 =>
  onI ds_0 fun y_0 ds_1 =>
  onI ds_1 fun m_0 ds_2 =>
  onI ds_2 fun d_0 ds_3 =>
  onI ds_3 fun d_1 ds_4 =>
  onI ds_4 fun d_2 ds_5 =>
  Option.bind (F_civil_Days [(.i y_0), (.i m_0), (.i 1)]) fun r_0 =>
  onI r_0 fun i_0 ds_6 =>
  onI ds_6 fun i_1 ds_7 =>
  bif (!decide (i_1 = 0)) then (some [(.i 0), (.i 3)]) else
  (Option.bind (bif (decide (d_0 < 1)) then (some true) else
    (bif (decide (4 < d_0)) then (some true) else
     (some false))) fun b_0 =>
   bif b_0 then (some [(.i 0), (.i 2)]) else
   (Option.bind (F_dayform_kinds []) fun r_1 =>
    onB r_1 fun b_1 ds_8 =>
    onB ds_8 fun b_2 ds_9 =>
    onB ds_9 fun b_3 ds_10 =>
    onB ds_10 fun b_4 ds_11 =>
    onB ds_11 fun b_5 ds_12 =>
    onB ds_12 fun b_6 ds_13 =>
    onB ds_13 fun b_7 ds_14 =>
    onB ds_14 fun b_8 ds_15 =>
    onB ds_15 fun b_9 ds_16 =>
    onB ds_16 fun b_10 ds_17 =>
    bif (decide ((0 ≤ d_0) ∧ (d_0 < 5))) then (bif (decide (d_0 = 4)) then (Option.bind (bif b_9 then (bif (decide (d_1 < 0)) then (some true) else
       (bif (decide (6 < d_1)) then (some true) else
        (bif (!b_9) then (bif (!decide (d_1 = 0)) then (some true) else
          (some false)) else
         (some false)))) else
      (bif (!b_9) then (bif (!decide (d_1 = 0)) then (some true) else
        (some false)) else
       (some false))) fun b_11 =>
     bif b_11 then (some [(.i 0), (.i 2)]) else
     (Option.bind (bif b_10 then (bif (decide (d_2 < 1)) then (some true) else
        (bif (decide (31 < d_2)) then (some true) else
         (bif (!b_10) then (bif (!decide (d_2 = 0)) then (some true) else
           (some false)) else
          (some false)))) else
       (bif (!b_10) then (bif (!decide (d_2 = 0)) then (some true) else
         (some false)) else
        (some false))) fun b_12 =>
      bif b_12 then (some [(.i 0), (.i 2)]) else
      (Option.bind (F_civil_Len [(.i y_0), (.i m_0)]) fun r_2 =>
       onI r_2 fun i_2 ds_18 =>
       bif (decide (i_2 < d_2)) then (some [(.i 0), (.i 4)]) else
       (Option.bind (F_dayform_dayOf [(.i d_0), (.i d_1), (.i d_2), (.i i_0)]) fun r_3 =>
        onI r_3 fun i_3 ds_19 =>
        Option.bind (F_dayform_back [(.i d_1), (.i i_3)]) fun r_4 =>
        onI r_4 fun i_4 ds_20 =>
        some [(.i (i64 (i_3 - i_4))), (.i 0)])))) else
    (bif (decide (d_0 = 3)) then (Option.bind (bif b_7 then (bif (decide (d_1 < 0)) then (some true) else
        (bif (decide (6 < d_1)) then (some true) else
         (bif (!b_7) then (bif (!decide (d_1 = 0)) then (some true) else
           (some false)) else
          (some false)))) else
       (bif (!b_7) then (bif (!decide (d_1 = 0)) then (some true) else
         (some false)) else
        (some false))) fun b_13 =>
      bif b_13 then (some [(.i 0), (.i 2)]) else
      (Option.bind (bif b_8 then (bif (decide (d_2 < 1)) then (some true) else
         (bif (decide (31 < d_2)) then (some true) else
          (bif (!b_8) then (bif (!decide (d_2 = 0)) then (some true) else
            (some false)) else
           (some false)))) else
        (bif (!b_8) then (bif (!decide (d_2 = 0)) then (some true) else
          (some false)) else
         (some false))) fun b_14 =>
       bif b_14 then (some [(.i 0), (.i 2)]) else
       (Option.bind (F_civil_Len [(.i y_0), (.i m_0)]) fun r_5 =>
        onI r_5 fun i_5 ds_21 =>
        bif (decide (i_5 < d_2)) then (some [(.i 0), (.i 4)]) else
        (Option.bind (F_dayform_dayOf [(.i d_0), (.i d_1), (.i d_2), (.i i_0)]) fun r_6 =>
         onI r_6 fun i_6 ds_22 =>
         Option.bind (F_dayform_back [(.i d_1), (.i (i64 (i_6 + 6)))]) fun r_7 =>
         onI r_7 fun i_7 ds_23 =>
         some [(.i (i64 ((i64 (i_6 + 6)) - i_7))), (.i 0)])))) else
     (bif (decide (d_0 = 2)) then (Option.bind (bif b_5 then (bif (decide (d_1 < 0)) then (some true) else
         (bif (decide (6 < d_1)) then (some true) else
          (bif (!b_5) then (bif (!decide (d_1 = 0)) then (some true) else
            (some false)) else
           (some false)))) else
        (bif (!b_5) then (bif (!decide (d_1 = 0)) then (some true) else
          (some false)) else
         (some false))) fun b_15 =>
       bif b_15 then (some [(.i 0), (.i 2)]) else
       (Option.bind (bif b_6 then (bif (decide (d_2 < 1)) then (some true) else
          (bif (decide (31 < d_2)) then (some true) else
           (bif (!b_6) then (bif (!decide (d_2 = 0)) then (some true) else
             (some false)) else
            (some false)))) else
         (bif (!b_6) then (bif (!decide (d_2 = 0)) then (some true) else
           (some false)) else
          (some false))) fun b_16 =>
        bif b_16 then (some [(.i 0), (.i 2)]) else
        (Option.bind (F_civil_Len [(.i y_0), (.i m_0)]) fun r_8 =>
         onI r_8 fun i_8 ds_24 =>
         bif (decide (i_8 < d_2)) then (some [(.i 0), (.i 4)]) else
         (Option.bind (F_dayform_back [(.i d_1), (.i (i64 ((i64 (i_0 + i_8)) - 1)))]) fun r_9 =>
          onI r_9 fun i_9 ds_25 =>
          some [(.i (i64 ((i64 ((i64 (i_0 + i_8)) - 1)) - i_9))), (.i 0)])))) else
      (bif (decide (d_0 = 1)) then (Option.bind (bif b_3 then (bif (decide (d_1 < 0)) then (some true) else
          (bif (decide (6 < d_1)) then (some true) else
           (bif (!b_3) then (bif (!decide (d_1 = 0)) then (some true) else
             (some false)) else
            (some false)))) else
         (bif (!b_3) then (bif (!decide (d_1 = 0)) then (some true) else
           (some false)) else
          (some false))) fun b_17 =>
        bif b_17 then (some [(.i 0), (.i 2)]) else
        (Option.bind (bif b_4 then (bif (decide (d_2 < 1)) then (some true) else
           (bif (decide (31 < d_2)) then (some true) else
            (bif (!b_4) then (bif (!decide (d_2 = 0)) then (some true) else
              (some false)) else
             (some false)))) else
          (bif (!b_4) then (bif (!decide (d_2 = 0)) then (some true) else
            (some false)) else
           (some false))) fun b_18 =>
         bif b_18 then (some [(.i 0), (.i 2)]) else
         (Option.bind (F_civil_Len [(.i y_0), (.i m_0)]) fun r_10 =>
          onI r_10 fun i_10 ds_26 =>
          bif (decide (i_10 < d_2)) then (some [(.i 0), (.i 4)]) else
          (Option.bind (F_dayform_dayOf [(.i d_0), (.i d_1), (.i d_2), (.i i_0)]) fun r_11 =>
           onI r_11 fun i_11 ds_27 =>
           some [(.i i_11), (.i 0)])))) else
       (bif (decide (d_0 = 0)) then (Option.bind (bif b_1 then (bif (decide (d_1 < 0)) then (some true) else
           (bif (decide (6 < d_1)) then (some true) else
            (bif (!b_1) then (bif (!decide (d_1 = 0)) then (some true) else
              (some false)) else
             (some false)))) else
          (bif (!b_1) then (bif (!decide (d_1 = 0)) then (some true) else
            (some false)) else
           (some false))) fun b_19 =>
         bif b_19 then (some [(.i 0), (.i 2)]) else
         (Option.bind (bif b_2 then (bif (decide (d_2 < 1)) then (some true) else
            (bif (decide (31 < d_2)) then (some true) else
             (bif (!b_2) then (bif (!decide (d_2 = 0)) then (some true) else
               (some false)) else
              (some false)))) else
           (bif (!b_2) then (bif (!decide (d_2 = 0)) then (some true) else
             (some false)) else
            (some false))) fun b_20 =>
          bif b_20 then (some [(.i 0), (.i 2)]) else
          (Option.bind (F_civil_Len [(.i y_0), (.i m_0)]) fun r_12 =>
           onI r_12 fun i_12 ds_28 =>
           bif (decide (i_12 < d_2)) then (some [(.i 0), (.i 4)]) else
           (none)))) else
        (none)))))) else none))
noncomputable def F_dayform_Check : List Dat → Option (List Dat) := fun ds_0 =>
  onI ds_0 fun d_0 ds_1 =>
  onI ds_1 fun d_1 ds_2 =>
  onI ds_2 fun d_2 ds_3 =>
  Option.bind (bif (decide (d_0 < 1)) then (some true) else
   (bif (decide (4 < d_0)) then (some true) else
    (some false))) fun b_0 =>
  bif b_0 then (some [(.i 2)]) else
  (Option.bind (F_dayform_kinds []) fun r_0 =>
   onB r_0 fun b_1 ds_4 =>
   onB ds_4 fun b_2 ds_5 =>
   onB ds_5 fun b_3 ds_6 =>
   onB ds_6 fun b_4 ds_7 =>
   onB ds_7 fun b_5 ds_8 =>
   onB ds_8 fun b_6 ds_9 =>
   onB ds_9 fun b_7 ds_10 =>
   onB ds_10 fun b_8 ds_11 =>
   onB ds_11 fun b_9 ds_12 =>
   onB ds_12 fun b_10 ds_13 =>
   bif (decide ((0 ≤ d_0) ∧ (d_0 < 5))) then (bif (decide (d_0 = 4)) then (Option.bind (bif b_9 then (bif (decide (d_1 < 0)) then (some true) else
      (bif (decide (6 < d_1)) then (some true) else
       (bif (!b_9) then (bif (!decide (d_1 = 0)) then (some true) else
         (some false)) else
        (some false)))) else
     (bif (!b_9) then (bif (!decide (d_1 = 0)) then (some true) else
       (some false)) else
      (some false))) fun b_11 =>
    bif b_11 then (some [(.i 2)]) else
    (Option.bind (bif b_10 then (bif (decide (d_2 < 1)) then (some true) else
       (bif (decide (31 < d_2)) then (some true) else
        (bif (!b_10) then (bif (!decide (d_2 = 0)) then (some true) else
          (some false)) else
         (some false)))) else
      (bif (!b_10) then (bif (!decide (d_2 = 0)) then (some true) else
        (some false)) else
       (some false))) fun b_12 =>
     bif b_12 then (some [(.i 2)]) else
     (some [(.i 0)]))) else
   (bif (decide (d_0 = 3)) then (Option.bind (bif b_7 then (bif (decide (d_1 < 0)) then (some true) else
       (bif (decide (6 < d_1)) then (some true) else
        (bif (!b_7) then (bif (!decide (d_1 = 0)) then (some true) else
          (some false)) else
         (some false)))) else
      (bif (!b_7) then (bif (!decide (d_1 = 0)) then (some true) else
        (some false)) else
       (some false))) fun b_13 =>
     bif b_13 then (some [(.i 2)]) else
     (Option.bind (bif b_8 then (bif (decide (d_2 < 1)) then (some true) else
        (bif (decide (31 < d_2)) then (some true) else
         (bif (!b_8) then (bif (!decide (d_2 = 0)) then (some true) else
           (some false)) else
          (some false)))) else
       (bif (!b_8) then (bif (!decide (d_2 = 0)) then (some true) else
         (some false)) else
        (some false))) fun b_14 =>
      bif b_14 then (some [(.i 2)]) else
      (some [(.i 0)]))) else
    (bif (decide (d_0 = 2)) then (Option.bind (bif b_5 then (bif (decide (d_1 < 0)) then (some true) else
        (bif (decide (6 < d_1)) then (some true) else
         (bif (!b_5) then (bif (!decide (d_1 = 0)) then (some true) else
           (some false)) else
          (some false)))) else
       (bif (!b_5) then (bif (!decide (d_1 = 0)) then (some true) else
         (some false)) else
        (some false))) fun b_15 =>
      bif b_15 then (some [(.i 2)]) else
      (Option.bind (bif b_6 then (bif (decide (d_2 < 1)) then (some true) else
         (bif (decide (31 < d_2)) then (some true) else
          (bif (!b_6) then (bif (!decide (d_2 = 0)) then (some true) else
            (some false)) else
           (some false)))) else
        (bif (!b_6) then (bif (!decide (d_2 = 0)) then (some true) else
          (some false)) else
         (some false))) fun b_16 =>
       bif b_16 then (some [(.i 2)]) else
       (some [(.i 0)]))) else
     (bif (decide (d_0 = 1)) then (Option.bind (bif b_3 then (bif (decide (d_1 < 0)) then (some true) else
         (bif (decide (6 < d_1)) then (some true) else
          (bif (!b_3) then (bif (!decide (d_1 = 0)) then (some true) else
            (some false)) else
           (some false)))) else
        (bif (!b_3) then (bif (!decide (d_1 = 0)) then (some true) else
          (some false)) else
         (some false))) fun b_17 =>
       bif b_17 then (some [(.i 2)]) else
       (Option.bind (bif b_4 then (bif (decide (d_2 < 1)) then (some true) else
          (bif (decide (31 < d_2)) then (some true) else
           (bif (!b_4) then (bif (!decide (d_2 = 0)) then (some true) else
             (some false)) else
            (some false)))) else
         (bif (!b_4) then (bif (!decide (d_2 = 0)) then (some true) else
           (some false)) else
          (some false))) fun b_18 =>
        bif b_18 then (some [(.i 2)]) else
        (some [(.i 0)]))) else
      (bif (decide (d_0 = 0)) then (Option.bind (bif b_1 then (bif (decide (d_1 < 0)) then (some true) else
          (bif (decide (6 < d_1)) then (some true) else
           (bif (!b_1) then (bif (!decide (d_1 = 0)) then (some true) else
             (some false)) else
            (some false)))) else
         (bif (!b_1) then (bif (!decide (d_1 = 0)) then (some true) else
           (some false)) else
          (some false))) fun b_19 =>
        bif b_19 then (some [(.i 2)]) else
        (Option.bind (bif b_2 then (bif (decide (d_2 < 1)) then (some true) else
           (bif (decide (31 < d_2)) then (some true) else
            (bif (!b_2) then (bif (!decide (d_2 = 0)) then (some true) else
              (some false)) else
             (some false)))) else
          (bif (!b_2) then (bif (!decide (d_2 = 0)) then (some true) else
            (some false)) else
           (some false))) fun b_20 =>
         bif b_20 then (some [(.i 2)]) else
         (some [(.i 0)]))) else
       (none)))))) else none)
noncomputable def F_law02_means : List Dat → Option (List Dat) := fun ds_0 =>
  onI ds_0 fun y_0 ds_1 =>
  onI ds_1 fun m_0 ds_2 =>
  onI ds_2 fun d_0 ds_3 =>
  onI ds_3 fun d_1 ds_4 =>
  onI ds_4 fun d_2 ds_5 =>
  onI ds_5 fun month_0 ds_6 =>
  onI ds_6 fun day_0 ds_7 =>
  Option.bind (F_dayform_On [(.i y_0), (.i m_0), (.i d_0), (.i d_1), (.i d_2)]) fun r_0 =>
  onI r_0 fun i_0 ds_8 =>
  onI ds_8 fun i_1 ds_9 =>
  Option.bind (F_civil_Days [(.i y_0), (.i month_0), (.i day_0)]) fun r_1 =>
  onI r_1 fun i_2 ds_10 =>
  onI ds_10 fun i_3 ds_11 =>
  Option.bind (bif (decide (i_1 = 0)) then (bif (decide (i_3 = 0)) then (bif (decide (i_0 = i_2)) then (some true) else
     (some false)) else
    (some false)) else
   (some false)) fun b_0 =>
  some [(.b b_0)]
noncomputable def F_law02_fails : List Dat → Option (List Dat) := fun ds_0 =>
  onI ds_0 fun y_0 ds_1 =>
  onI ds_1 fun m_0 ds_2 =>
  onI ds_2 fun d_0 ds_3 =>
  onI ds_3 fun d_1 ds_4 =>
  onI ds_4 fun d_2 ds_5 =>
  onI ds_5 fun want_0 ds_6 =>
  Option.bind (F_dayform_On [(.i y_0), (.i m_0), (.i d_0), (.i d_1), (.i d_2)]) fun r_0 =>
  onI r_0 fun i_0 ds_7 =>
  onI ds_7 fun i_1 ds_8 =>
  Option.bind (bif (decide (i_0 = 0)) then (bif (decide (i_1 = want_0)) then (some true) else
    (some false)) else
   (some false)) fun b_0 =>
  some [(.b b_0)]
noncomputable def F_dayform_Always : List Dat → Option (List Dat) := fun ds_0 =>
  onI ds_0 fun from_0 ds_1 =>
  onI ds_1 fun to_0 ds_2 =>
  onI ds_2 fun m_0 ds_3 =>
  onI ds_3 fun d_0 ds_4 =>
  onI ds_4 fun d_1 ds_5 =>
  onI ds_5 fun d_2 ds_6 =>
  bif (decide (m_0 < 1)) then (some [(.b false)]) else
  (bif (decide (12 < m_0)) then (some [(.b false)]) else
   (Option.bind (F_dayform_Check [(.i d_0), (.i d_1), (.i d_2)]) fun r_0 =>
    onI r_0 fun i_0 ds_7 =>
    bif (!decide (i_0 = 0)) then (some [(.b false)]) else
    (Option.bind (bif (decide (1048576 ≤ to_0)) then (some true) else
      (some false)) fun b_0 =>
     Option.bind (F_civil_Len [(.i 2023), (.i m_0)]) fun r_1 =>
     onI r_1 fun i_1 ds_8 =>
     bif (decide (d_2 ≤ i_1)) then (some [(.b true)]) else
     (Option.bind (bif (decide (to_0 < from_0)) then (some (!b_0)) else
       (some false)) fun b_1 =>
      bif b_1 then (some [(.b true)]) else
      (Option.bind (bif (decide (m_0 = 2)) then (bif (decide (d_2 = 29)) then (some true) else
         (some false)) else
        (some false)) fun b_2 =>
       bif b_2 then (bif (!b_0) then (bif (decide (from_0 = to_0)) then (Option.bind (F_civil_Leap [(.i from_0)]) fun r_2 =>
          onB r_2 fun b_3 ds_9 =>
          some [(.b b_3)]) else
         (some [(.b false)])) else
        (some [(.b false)])) else
       (some [(.b false)]))))))
noncomputable def F_law02_works : List Dat → Option (List Dat) := fun _ => some [.b true]
noncomputable def F_law02_DayformWeekdays : List Dat → Option (List Dat) := fun ds_0 =>
  onI ds_0 fun d_0 ds_1 =>
  onI ds_1 fun d_1 ds_2 =>
  onI ds_2 fun d_2 ds_3 =>
  onI ds_3 fun y_0 ds_4 =>
  onI ds_4 fun m_0 ds_5 =>
  Option.bind (F__law02_Draft__Made [(.i d_0), (.i d_1), (.i d_2)]) fun r_0 =>
  onI r_0 fun i_0 ds_6 =>
  onI ds_6 fun i_1 ds_7 =>
  onI ds_7 fun i_2 ds_8 =>
  Option.bind (F_law02_year [(.i y_0)]) fun r_1 =>
  onI r_1 fun i_3 ds_9 =>
  Option.bind (F_dayform_On [(.i i_3), (.i (i64 (1 + (i64 (Int.tmod m_0 12))))), (.i i_0), (.i i_1), (.i i_2)]) fun r_2 =>
  onI r_2 fun i_4 ds_10 =>
  onI ds_10 fun i_5 ds_11 =>
  Option.bind (F_civil_Days [(.i i_3), (.i (i64 (1 + (i64 (Int.tmod m_0 12))))), (.i 1)]) fun r_3 =>
  onI r_3 fun i_6 ds_12 =>
  onI ds_12 fun i_7 ds_13 =>
  Option.bind (F_civil_Len [(.i i_3), (.i (i64 (1 + (i64 (Int.tmod m_0 12)))))]) fun r_4 =>
  onI r_4 fun i_8 ds_14 =>
  bif (!decide (i_7 = 0)) then (some [(.b false)]) else
  (bif (decide (i_8 < 28)) then (some [(.b false)]) else
   (Option.bind (F_dayform_Check [(.i i_0), (.i i_1), (.i i_2)]) fun r_5 =>
    onI r_5 fun i_9 ds_15 =>
    bif (!decide (i_9 = 0)) then (some [(.b false)]) else
    (bif (decide (i_8 < i_2)) then (bif (decide (i_4 = 0)) then (bif (decide (i_5 = 4)) then (Option.bind (F_law02_works []) fun r_6 =>
        onB r_6 fun b_0 ds_16 =>
        some [(.b b_0)]) else
       (some [(.b false)])) else
      (some [(.b false)])) else
     (bif (!decide (i_5 = 0)) then (some [(.b false)]) else
      (bif (decide (i_0 = 2)) then (bif (decide (i_0 = 1)) then (bif (decide (i_4 = (i64 ((i64 (i_6 + i_8)) - 1)))) then (Option.bind (F_law02_works []) fun r_7 =>
          onB r_7 fun b_1 ds_17 =>
          some [(.b b_1)]) else
         (some [(.b false)])) else
        (bif (decide (i_0 = 3)) then (bif (decide ((i64 ((i64 (i_6 + i_8)) - 1)) ≤ i_4)) then (bif (decide (i_4 < (i64 ((i64 ((i64 (i_6 + i_8)) - 1)) + 7)))) then (Option.bind (F_civil_Weekday [(.i i_4)]) fun r_8 =>
            onI r_8 fun i_10 ds_18 =>
            bif (decide (i_10 = i_1)) then (Option.bind (F_law02_works []) fun r_9 =>
             onB r_9 fun b_2 ds_19 =>
             some [(.b b_2)]) else
            (some [(.b false)])) else
           (some [(.b false)])) else
          (some [(.b false)])) else
         (bif (decide (i_4 ≤ (i64 ((i64 (i_6 + i_8)) - 1)))) then (bif (decide ((i64 ((i64 ((i64 (i_6 + i_8)) - 1)) - 7)) < i_4)) then (Option.bind (F_civil_Weekday [(.i i_4)]) fun r_10 =>
            onI r_10 fun i_11 ds_20 =>
            bif (decide (i_11 = i_1)) then (Option.bind (F_law02_works []) fun r_11 =>
             onB r_11 fun b_3 ds_21 =>
             some [(.b b_3)]) else
            (some [(.b false)])) else
           (some [(.b false)])) else
          (some [(.b false)])))) else
       (bif (decide (i_0 = 1)) then (bif (decide (i_4 = (i64 ((i64 (i_6 + i_2)) - 1)))) then (Option.bind (F_law02_works []) fun r_12 =>
          onB r_12 fun b_4 ds_22 =>
          some [(.b b_4)]) else
         (some [(.b false)])) else
        (bif (decide (i_0 = 3)) then (bif (decide ((i64 ((i64 (i_6 + i_2)) - 1)) ≤ i_4)) then (bif (decide (i_4 < (i64 ((i64 ((i64 (i_6 + i_2)) - 1)) + 7)))) then (Option.bind (F_civil_Weekday [(.i i_4)]) fun r_13 =>
            onI r_13 fun i_12 ds_23 =>
            bif (decide (i_12 = i_1)) then (Option.bind (F_law02_works []) fun r_14 =>
             onB r_14 fun b_5 ds_24 =>
             some [(.b b_5)]) else
            (some [(.b false)])) else
           (some [(.b false)])) else
          (some [(.b false)])) else
         (bif (decide (i_4 ≤ (i64 ((i64 (i_6 + i_2)) - 1)))) then (bif (decide ((i64 ((i64 ((i64 (i_6 + i_2)) - 1)) - 7)) < i_4)) then (Option.bind (F_civil_Weekday [(.i i_4)]) fun r_15 =>
            onI r_15 fun i_13 ds_25 =>
            bif (decide (i_13 = i_1)) then (Option.bind (F_law02_works []) fun r_16 =>
             onB r_16 fun b_6 ds_26 =>
             some [(.b b_6)]) else
            (some [(.b false)])) else
           (some [(.b false)])) else
          (some [(.b false)])))))))))
noncomputable def F_law02_DayformWeeks_L0 : List Dat → Option (List Dat ⊕ List Dat) := fun ds_8 =>
  onI ds_8 fun week_0 ds_9 =>
  onI ds_9 fun month_0 ds_10 =>
  onI ds_10 fun vat_0 ds_11 =>
  onI ds_11 fun first_0 ds_12 =>
  onI ds_12 fun n_0 ds_13 =>
  onN ds_13 fun foundn_0 ds_14 =>
  onI ds_14 fun x_0 ds_15 =>
  onL ds_15 fun cells_0 ds_16 =>
  bif (decide (x_0 < (i64 (first_0 + n_0)))) then (Option.bind (F_civil_Weekday [(.i x_0)]) fun r_3 =>
   onI r_3 fun i_4 ds_17 =>
   bif (decide (i_4 = week_0)) then (bif (decide ((cells_0).length = foundn_0)) then (bif (decide (((foundn_0 + 1) * 8) ≤ 140737488355328)) then (bif (List.all (cells_0 ++ [(Ax.AV.int .i64 (Ax.I.sym x_0))]) (Ax.closedN 20)) then (some (.inl [(.i week_0), (.i month_0), (.i vat_0), (.i first_0), (.i n_0), (.n (foundn_0 + 1)), (.i (i64 (x_0 + 1))), (.l (cells_0 ++ [(Ax.AV.int .i64 (Ax.I.sym x_0))]))])) else
    (none)) else none) else none) else
   (bif (List.all cells_0 (Ax.closedN 20)) then (some (.inl [(.i week_0), (.i month_0), (.i vat_0), (.i first_0), (.i n_0), (.n foundn_0), (.i (i64 (x_0 + 1))), (.l cells_0)])) else
    (none))) else
  (Option.map .inr (Option.bind (bif (decide (((foundn_0 : Nat) : Int) < 4)) then (some true) else
     (bif (decide (5 < ((foundn_0 : Nat) : Int))) then (some true) else
      (some false))) fun b_1 =>
    bif b_1 then (some [(.b false)]) else
    (Option.bind (F_law02_from [(.i week_0), (.i 1)]) fun r_4 =>
     onI r_4 fun i_5 ds_18 =>
     onI ds_18 fun i_6 ds_19 =>
     onI ds_19 fun i_7 ds_20 =>
     Option.bind (F_dayform_On [(.i vat_0), (.i month_0), (.i i_5), (.i i_6), (.i i_7)]) fun r_5 =>
     onI r_5 fun i_8 ds_21 =>
     onI ds_21 fun i_9 ds_22 =>
     Option.bind (bif (!decide (i_9 = 0)) then (some true) else
      (bif (decide (((0 : Int) ≤ 0) ∧ (0 < ((foundn_0 : Nat) : Int)))) then (Option.bind (asI .i64 (cells_0)[0]?) fun x_1 =>
       bif (!decide (i_8 = x_1)) then (some true) else
       (some false)) else none)) fun b_2 =>
     bif b_2 then (some [(.b false)]) else
     (Option.bind (F_law02_from [(.i week_0), (.i 8)]) fun r_6 =>
      onI r_6 fun i_10 ds_23 =>
      onI ds_23 fun i_11 ds_24 =>
      onI ds_24 fun i_12 ds_25 =>
      Option.bind (F_dayform_On [(.i vat_0), (.i month_0), (.i i_10), (.i i_11), (.i i_12)]) fun r_7 =>
      onI r_7 fun i_13 ds_26 =>
      onI ds_26 fun i_14 ds_27 =>
      Option.bind (bif (!decide (i_14 = 0)) then (some true) else
       (bif (decide (((0 : Int) ≤ 1) ∧ (1 < ((foundn_0 : Nat) : Int)))) then (Option.bind (asI .i64 (cells_0)[1]?) fun x_2 =>
        bif (!decide (i_13 = x_2)) then (some true) else
        (some false)) else none)) fun b_3 =>
      bif b_3 then (some [(.b false)]) else
      (Option.bind (F_law02_from [(.i week_0), (.i 15)]) fun r_8 =>
       onI r_8 fun i_15 ds_28 =>
       onI ds_28 fun i_16 ds_29 =>
       onI ds_29 fun i_17 ds_30 =>
       Option.bind (F_dayform_On [(.i vat_0), (.i month_0), (.i i_15), (.i i_16), (.i i_17)]) fun r_9 =>
       onI r_9 fun i_18 ds_31 =>
       onI ds_31 fun i_19 ds_32 =>
       Option.bind (bif (!decide (i_19 = 0)) then (some true) else
        (bif (decide (((0 : Int) ≤ 2) ∧ (2 < ((foundn_0 : Nat) : Int)))) then (Option.bind (asI .i64 (cells_0)[2]?) fun x_3 =>
         bif (!decide (i_18 = x_3)) then (some true) else
         (some false)) else none)) fun b_4 =>
       bif b_4 then (some [(.b false)]) else
       (Option.bind (F_law02_from [(.i week_0), (.i 22)]) fun r_10 =>
        onI r_10 fun i_20 ds_33 =>
        onI ds_33 fun i_21 ds_34 =>
        onI ds_34 fun i_22 ds_35 =>
        Option.bind (F_dayform_On [(.i vat_0), (.i month_0), (.i i_20), (.i i_21), (.i i_22)]) fun r_11 =>
        onI r_11 fun i_23 ds_36 =>
        onI ds_36 fun i_24 ds_37 =>
        Option.bind (bif (!decide (i_24 = 0)) then (some true) else
         (bif (decide (((0 : Int) ≤ 3) ∧ (3 < ((foundn_0 : Nat) : Int)))) then (Option.bind (asI .i64 (cells_0)[3]?) fun x_4 =>
          bif (!decide (i_23 = x_4)) then (some true) else
          (some false)) else none)) fun b_5 =>
        bif b_5 then (some [(.b false)]) else
        (Option.bind (F_law02_last [(.i week_0)]) fun r_12 =>
         onI r_12 fun i_25 ds_38 =>
         onI ds_38 fun i_26 ds_39 =>
         onI ds_39 fun i_27 ds_40 =>
         Option.bind (F_dayform_On [(.i vat_0), (.i month_0), (.i i_25), (.i i_26), (.i i_27)]) fun r_13 =>
         onI r_13 fun i_28 ds_41 =>
         onI ds_41 fun i_29 ds_42 =>
         Option.bind (F_law02_to [(.i week_0), (.i n_0)]) fun r_14 =>
         onI r_14 fun i_30 ds_43 =>
         onI ds_43 fun i_31 ds_44 =>
         onI ds_44 fun i_32 ds_45 =>
         Option.bind (F_dayform_On [(.i vat_0), (.i month_0), (.i i_30), (.i i_31), (.i i_32)]) fun r_15 =>
         onI r_15 fun i_33 ds_46 =>
         onI ds_46 fun i_34 ds_47 =>
         bif (decide (i_29 = 0)) then (bif (decide (i_34 = 0)) then (bif (decide ((0 ≤ (i64 (((foundn_0 : Nat) : Int) - 1))) ∧ ((i64 (((foundn_0 : Nat) : Int) - 1)) < ((foundn_0 : Nat) : Int)))) then (Option.bind (asI .i64 (cells_0)[((i64 (((foundn_0 : Nat) : Int) - 1))).toNat]?) fun x_5 =>
           bif (decide (i_28 = x_5)) then (bif (decide (i_33 = i_28)) then (Option.bind (F_law02_works []) fun r_16 =>
             onB r_16 fun b_6 ds_48 =>
             some [(.b b_6)]) else
            (some [(.b false)])) else
           (some [(.b false)])) else none) else
          (some [(.b false)])) else
         (some [(.b false)]))))))))
noncomputable def F_law02_DayformWeeks : List Dat → Option (List Dat) := fun ds_0 =>
  onI ds_0 fun w_0 ds_1 =>
  onI ds_1 fun y_0 ds_2 =>
  onI ds_2 fun m_0 ds_3 =>
  Option.bind (F_law02_year [(.i y_0)]) fun r_0 =>
  onI r_0 fun i_0 ds_4 =>
  Option.bind (F_civil_Days [(.i i_0), (.i (i64 (1 + (i64 (Int.tmod m_0 12))))), (.i 1)]) fun r_1 =>
  onI r_1 fun i_1 ds_5 =>
  onI ds_5 fun i_2 ds_6 =>
  Option.bind (F_civil_Len [(.i i_0), (.i (i64 (1 + (i64 (Int.tmod m_0 12)))))]) fun r_2 =>
  onI r_2 fun i_3 ds_7 =>
  Option.bind (bif (!decide (i_2 = 0)) then (some true) else
   (bif (decide (i_3 < 28)) then (some true) else
    (some false))) fun b_0 =>
  bif b_0 then (some [(.b false)]) else
  (iter F_law02_DayformWeeks_L0 [(.i (i64 (Int.tmod w_0 7))), (.i (i64 (1 + (i64 (Int.tmod m_0 12))))), (.i i_0), (.i i_1), (.i i_3), (.n 0), (.i i_1), (.l [])])
noncomputable def F_law02_DayformRefuses : List Dat → Option (List Dat) := fun ds_0 =>
  onI ds_0 fun d_0 ds_1 =>
  onI ds_1 fun d_1 ds_2 =>
  onI ds_2 fun d_2 ds_3 =>
  onI ds_3 fun what_0 ds_4 =>
  onI ds_4 fun far_0 ds_5 =>
  Option.bind (F__law02_Draft__Made [(.i d_0), (.i d_1), (.i d_2)]) fun r_0 =>
  onI r_0 fun i_0 ds_6 =>
  onI ds_6 fun i_1 ds_7 =>
  onI ds_7 fun i_2 ds_8 =>
  Option.bind (F__law02_Draft__Made [(.i d_0), (.i d_1), (.i d_2)]) fun r_1 =>
  onI r_1 fun i_3 ds_9 =>
  onI ds_9 fun i_4 ds_10 =>
  onI ds_10 fun i_5 ds_11 =>
  bif (decide ((Int.tmod what_0 8) = 0)) then (Option.bind (F_dayform_Check [(.i (i64 (5 + (i64 far_0)))), (.i i_4), (.i i_5)]) fun r_2 =>
   onI r_2 fun i_6 ds_12 =>
   bif (!decide (i_6 = 2)) then (some [(.b false)]) else
   (Option.bind (F_law02_fails [(.i 2000), (.i 1), (.i (i64 (5 + (i64 far_0)))), (.i i_4), (.i i_5), (.i 2)]) fun r_3 =>
    onB r_3 fun b_0 ds_13 =>
    bif (!b_0) then (some [(.b false)]) else
    (Option.bind (F_dayform_Always [(.i 2001), (.i 2000), (.i 1), (.i (i64 (5 + (i64 far_0)))), (.i i_4), (.i i_5)]) fun r_4 =>
     onB r_4 fun b_1 ds_14 =>
     bif b_1 then (some [(.b false)]) else
     (Option.bind (F_law02_fails [(.i 2000), (.i (i64 (0 - (i64 far_0)))), (.i (i64 (5 + (i64 far_0)))), (.i i_4), (.i i_5), (.i 3)]) fun r_5 =>
      onB r_5 fun b_2 ds_15 =>
      bif (!b_2) then (some [(.b false)]) else
      (Option.bind (F_law02_fails [(.i 2000), (.i (i64 (0 - (i64 far_0)))), (.i i_0), (.i i_1), (.i i_2), (.i 3)]) fun r_6 =>
       onB r_6 fun b_3 ds_16 =>
       bif (!b_3) then (some [(.b false)]) else
       (Option.bind (F_dayform_Always [(.i 2001), (.i 2000), (.i (i64 (0 - (i64 far_0)))), (.i i_0), (.i i_1), (.i i_2)]) fun r_7 =>
        onB r_7 fun b_4 ds_17 =>
        bif b_4 then (some [(.b false)]) else
        (Option.bind (F_law02_fails [(.i 2000), (.i (i64 (13 + (i64 far_0)))), (.i (i64 (5 + (i64 far_0)))), (.i i_4), (.i i_5), (.i 3)]) fun r_8 =>
         onB r_8 fun b_5 ds_18 =>
         bif (!b_5) then (some [(.b false)]) else
         (Option.bind (F_law02_fails [(.i 2000), (.i (i64 (13 + (i64 far_0)))), (.i i_0), (.i i_1), (.i i_2), (.i 3)]) fun r_9 =>
          onB r_9 fun b_6 ds_19 =>
          bif (!b_6) then (some [(.b false)]) else
          (Option.bind (F_dayform_Always [(.i 2001), (.i 2000), (.i (i64 (13 + (i64 far_0)))), (.i i_0), (.i i_1), (.i i_2)]) fun r_10 =>
           onB r_10 fun b_7 ds_20 =>
           bif b_7 then (some [(.b false)]) else
           (Option.bind (F_law02_fails [(.i (i64 (2000000001 + (i64 far_0)))), (.i 1), (.i (i64 (5 + (i64 far_0)))), (.i i_4), (.i i_5), (.i 3)]) fun r_11 =>
            onB r_11 fun b_8 ds_21 =>
            bif b_8 then (Option.bind (F_law02_fails [(.i (i64 ((-2000000001) - (i64 far_0)))), (.i 12), (.i i_0), (.i i_1), (.i i_2), (.i 3)]) fun r_12 =>
             onB r_12 fun b_9 ds_22 =>
             bif b_9 then (Option.bind (F_law02_works []) fun r_13 =>
              onB r_13 fun b_10 ds_23 =>
              some [(.b b_10)]) else
             (some [(.b false)])) else
            (some [(.b false)]))))))))))) else
  (bif (decide ((Int.tmod what_0 8) = 1)) then (Option.bind (F_dayform_Check [(.i (i64 (0 - (i64 far_0)))), (.i i_4), (.i i_5)]) fun r_14 =>
    onI r_14 fun i_7 ds_24 =>
    bif (!decide (i_7 = 2)) then (some [(.b false)]) else
    (Option.bind (F_law02_fails [(.i 2000), (.i 1), (.i (i64 (0 - (i64 far_0)))), (.i i_4), (.i i_5), (.i 2)]) fun r_15 =>
     onB r_15 fun b_11 ds_25 =>
     bif (!b_11) then (some [(.b false)]) else
     (Option.bind (F_dayform_Always [(.i 2001), (.i 2000), (.i 1), (.i (i64 (0 - (i64 far_0)))), (.i i_4), (.i i_5)]) fun r_16 =>
      onB r_16 fun b_12 ds_26 =>
      bif b_12 then (some [(.b false)]) else
      (Option.bind (F_law02_fails [(.i 2000), (.i (i64 (0 - (i64 far_0)))), (.i (i64 (0 - (i64 far_0)))), (.i i_4), (.i i_5), (.i 3)]) fun r_17 =>
       onB r_17 fun b_13 ds_27 =>
       bif (!b_13) then (some [(.b false)]) else
       (Option.bind (F_law02_fails [(.i 2000), (.i (i64 (0 - (i64 far_0)))), (.i i_0), (.i i_1), (.i i_2), (.i 3)]) fun r_18 =>
        onB r_18 fun b_14 ds_28 =>
        bif (!b_14) then (some [(.b false)]) else
        (Option.bind (F_dayform_Always [(.i 2001), (.i 2000), (.i (i64 (0 - (i64 far_0)))), (.i i_0), (.i i_1), (.i i_2)]) fun r_19 =>
         onB r_19 fun b_15 ds_29 =>
         bif b_15 then (some [(.b false)]) else
         (Option.bind (F_law02_fails [(.i 2000), (.i (i64 (13 + (i64 far_0)))), (.i (i64 (0 - (i64 far_0)))), (.i i_4), (.i i_5), (.i 3)]) fun r_20 =>
          onB r_20 fun b_16 ds_30 =>
          bif (!b_16) then (some [(.b false)]) else
          (Option.bind (F_law02_fails [(.i 2000), (.i (i64 (13 + (i64 far_0)))), (.i i_0), (.i i_1), (.i i_2), (.i 3)]) fun r_21 =>
           onB r_21 fun b_17 ds_31 =>
           bif (!b_17) then (some [(.b false)]) else
           (Option.bind (F_dayform_Always [(.i 2001), (.i 2000), (.i (i64 (13 + (i64 far_0)))), (.i i_0), (.i i_1), (.i i_2)]) fun r_22 =>
            onB r_22 fun b_18 ds_32 =>
            bif b_18 then (some [(.b false)]) else
            (Option.bind (F_law02_fails [(.i (i64 (2000000001 + (i64 far_0)))), (.i 1), (.i (i64 (0 - (i64 far_0)))), (.i i_4), (.i i_5), (.i 3)]) fun r_23 =>
             onB r_23 fun b_19 ds_33 =>
             bif b_19 then (Option.bind (F_law02_fails [(.i (i64 ((-2000000001) - (i64 far_0)))), (.i 12), (.i i_0), (.i i_1), (.i i_2), (.i 3)]) fun r_24 =>
              onB r_24 fun b_20 ds_34 =>
              bif b_20 then (Option.bind (F_law02_works []) fun r_25 =>
               onB r_25 fun b_21 ds_35 =>
               some [(.b b_21)]) else
              (some [(.b false)])) else
             (some [(.b false)]))))))))))) else
   (bif (decide ((Int.tmod what_0 8) = 2)) then (Option.bind (F_law02_fixed [(.i (i64 (0 - (i64 far_0))))]) fun r_26 =>
     onI r_26 fun i_8 ds_36 =>
     onI ds_36 fun i_9 ds_37 =>
     onI ds_37 fun i_10 ds_38 =>
     Option.bind (F_dayform_Check [(.i i_8), (.i i_9), (.i i_10)]) fun r_27 =>
     onI r_27 fun i_11 ds_39 =>
     bif (!decide (i_11 = 2)) then (some [(.b false)]) else
     (Option.bind (F_law02_fails [(.i 2000), (.i 1), (.i i_8), (.i i_9), (.i i_10), (.i 2)]) fun r_28 =>
      onB r_28 fun b_22 ds_40 =>
      bif (!b_22) then (some [(.b false)]) else
      (Option.bind (F_dayform_Always [(.i 2001), (.i 2000), (.i 1), (.i i_8), (.i i_9), (.i i_10)]) fun r_29 =>
       onB r_29 fun b_23 ds_41 =>
       bif b_23 then (some [(.b false)]) else
       (Option.bind (F_law02_fails [(.i 2000), (.i (i64 (0 - (i64 far_0)))), (.i i_8), (.i i_9), (.i i_10), (.i 3)]) fun r_30 =>
        onB r_30 fun b_24 ds_42 =>
        bif (!b_24) then (some [(.b false)]) else
        (Option.bind (F_law02_fails [(.i 2000), (.i (i64 (0 - (i64 far_0)))), (.i i_0), (.i i_1), (.i i_2), (.i 3)]) fun r_31 =>
         onB r_31 fun b_25 ds_43 =>
         bif (!b_25) then (some [(.b false)]) else
         (Option.bind (F_dayform_Always [(.i 2001), (.i 2000), (.i (i64 (0 - (i64 far_0)))), (.i i_0), (.i i_1), (.i i_2)]) fun r_32 =>
          onB r_32 fun b_26 ds_44 =>
          bif b_26 then (some [(.b false)]) else
          (Option.bind (F_law02_fails [(.i 2000), (.i (i64 (13 + (i64 far_0)))), (.i i_8), (.i i_9), (.i i_10), (.i 3)]) fun r_33 =>
           onB r_33 fun b_27 ds_45 =>
           bif (!b_27) then (some [(.b false)]) else
           (Option.bind (F_law02_fails [(.i 2000), (.i (i64 (13 + (i64 far_0)))), (.i i_0), (.i i_1), (.i i_2), (.i 3)]) fun r_34 =>
            onB r_34 fun b_28 ds_46 =>
            bif (!b_28) then (some [(.b false)]) else
            (Option.bind (F_dayform_Always [(.i 2001), (.i 2000), (.i (i64 (13 + (i64 far_0)))), (.i i_0), (.i i_1), (.i i_2)]) fun r_35 =>
             onB r_35 fun b_29 ds_47 =>
             bif b_29 then (some [(.b false)]) else
             (Option.bind (F_law02_fails [(.i (i64 (2000000001 + (i64 far_0)))), (.i 1), (.i i_8), (.i i_9), (.i i_10), (.i 3)]) fun r_36 =>
              onB r_36 fun b_30 ds_48 =>
              bif b_30 then (Option.bind (F_law02_fails [(.i (i64 ((-2000000001) - (i64 far_0)))), (.i 12), (.i i_0), (.i i_1), (.i i_2), (.i 3)]) fun r_37 =>
               onB r_37 fun b_31 ds_49 =>
               bif b_31 then (Option.bind (F_law02_works []) fun r_38 =>
                onB r_38 fun b_32 ds_50 =>
                some [(.b b_32)]) else
               (some [(.b false)])) else
              (some [(.b false)]))))))))))) else
    (bif (decide ((Int.tmod what_0 8) = 3)) then (Option.bind (F_law02_from [(.i (Int.tmod (i64 far_0) 7)), (.i (i64 (32 + (i64 far_0))))]) fun r_39 =>
      onI r_39 fun i_12 ds_51 =>
      onI ds_51 fun i_13 ds_52 =>
      onI ds_52 fun i_14 ds_53 =>
      Option.bind (F_dayform_Check [(.i i_12), (.i i_13), (.i i_14)]) fun r_40 =>
      onI r_40 fun i_15 ds_54 =>
      bif (!decide (i_15 = 2)) then (some [(.b false)]) else
      (Option.bind (F_law02_fails [(.i 2000), (.i 1), (.i i_12), (.i i_13), (.i i_14), (.i 2)]) fun r_41 =>
       onB r_41 fun b_33 ds_55 =>
       bif (!b_33) then (some [(.b false)]) else
       (Option.bind (F_dayform_Always [(.i 2001), (.i 2000), (.i 1), (.i i_12), (.i i_13), (.i i_14)]) fun r_42 =>
        onB r_42 fun b_34 ds_56 =>
        bif b_34 then (some [(.b false)]) else
        (Option.bind (F_law02_fails [(.i 2000), (.i (i64 (0 - (i64 far_0)))), (.i i_12), (.i i_13), (.i i_14), (.i 3)]) fun r_43 =>
         onB r_43 fun b_35 ds_57 =>
         bif (!b_35) then (some [(.b false)]) else
         (Option.bind (F_law02_fails [(.i 2000), (.i (i64 (0 - (i64 far_0)))), (.i i_0), (.i i_1), (.i i_2), (.i 3)]) fun r_44 =>
          onB r_44 fun b_36 ds_58 =>
          bif (!b_36) then (some [(.b false)]) else
          (Option.bind (F_dayform_Always [(.i 2001), (.i 2000), (.i (i64 (0 - (i64 far_0)))), (.i i_0), (.i i_1), (.i i_2)]) fun r_45 =>
           onB r_45 fun b_37 ds_59 =>
           bif b_37 then (some [(.b false)]) else
           (Option.bind (F_law02_fails [(.i 2000), (.i (i64 (13 + (i64 far_0)))), (.i i_12), (.i i_13), (.i i_14), (.i 3)]) fun r_46 =>
            onB r_46 fun b_38 ds_60 =>
            bif (!b_38) then (some [(.b false)]) else
            (Option.bind (F_law02_fails [(.i 2000), (.i (i64 (13 + (i64 far_0)))), (.i i_0), (.i i_1), (.i i_2), (.i 3)]) fun r_47 =>
             onB r_47 fun b_39 ds_61 =>
             bif (!b_39) then (some [(.b false)]) else
             (Option.bind (F_dayform_Always [(.i 2001), (.i 2000), (.i (i64 (13 + (i64 far_0)))), (.i i_0), (.i i_1), (.i i_2)]) fun r_48 =>
              onB r_48 fun b_40 ds_62 =>
              bif b_40 then (some [(.b false)]) else
              (Option.bind (F_law02_fails [(.i (i64 (2000000001 + (i64 far_0)))), (.i 1), (.i i_12), (.i i_13), (.i i_14), (.i 3)]) fun r_49 =>
               onB r_49 fun b_41 ds_63 =>
               bif b_41 then (Option.bind (F_law02_fails [(.i (i64 ((-2000000001) - (i64 far_0)))), (.i 12), (.i i_0), (.i i_1), (.i i_2), (.i 3)]) fun r_50 =>
                onB r_50 fun b_42 ds_64 =>
                bif b_42 then (Option.bind (F_law02_works []) fun r_51 =>
                 onB r_51 fun b_43 ds_65 =>
                 some [(.b b_43)]) else
                (some [(.b false)])) else
               (some [(.b false)]))))))))))) else
     (bif (decide ((Int.tmod what_0 8) = 4)) then (Option.bind (F_law02_last [(.i (i64 (7 + (i64 far_0))))]) fun r_52 =>
       onI r_52 fun i_16 ds_66 =>
       onI ds_66 fun i_17 ds_67 =>
       onI ds_67 fun i_18 ds_68 =>
       Option.bind (F_dayform_Check [(.i i_16), (.i i_17), (.i i_18)]) fun r_53 =>
       onI r_53 fun i_19 ds_69 =>
       bif (!decide (i_19 = 2)) then (some [(.b false)]) else
       (Option.bind (F_law02_fails [(.i 2000), (.i 1), (.i i_16), (.i i_17), (.i i_18), (.i 2)]) fun r_54 =>
        onB r_54 fun b_44 ds_70 =>
        bif (!b_44) then (some [(.b false)]) else
        (Option.bind (F_dayform_Always [(.i 2001), (.i 2000), (.i 1), (.i i_16), (.i i_17), (.i i_18)]) fun r_55 =>
         onB r_55 fun b_45 ds_71 =>
         bif b_45 then (some [(.b false)]) else
         (Option.bind (F_law02_fails [(.i 2000), (.i (i64 (0 - (i64 far_0)))), (.i i_16), (.i i_17), (.i i_18), (.i 3)]) fun r_56 =>
          onB r_56 fun b_46 ds_72 =>
          bif (!b_46) then (some [(.b false)]) else
          (Option.bind (F_law02_fails [(.i 2000), (.i (i64 (0 - (i64 far_0)))), (.i i_0), (.i i_1), (.i i_2), (.i 3)]) fun r_57 =>
           onB r_57 fun b_47 ds_73 =>
           bif (!b_47) then (some [(.b false)]) else
           (Option.bind (F_dayform_Always [(.i 2001), (.i 2000), (.i (i64 (0 - (i64 far_0)))), (.i i_0), (.i i_1), (.i i_2)]) fun r_58 =>
            onB r_58 fun b_48 ds_74 =>
            bif b_48 then (some [(.b false)]) else
            (Option.bind (F_law02_fails [(.i 2000), (.i (i64 (13 + (i64 far_0)))), (.i i_16), (.i i_17), (.i i_18), (.i 3)]) fun r_59 =>
             onB r_59 fun b_49 ds_75 =>
             bif (!b_49) then (some [(.b false)]) else
             (Option.bind (F_law02_fails [(.i 2000), (.i (i64 (13 + (i64 far_0)))), (.i i_0), (.i i_1), (.i i_2), (.i 3)]) fun r_60 =>
              onB r_60 fun b_50 ds_76 =>
              bif (!b_50) then (some [(.b false)]) else
              (Option.bind (F_dayform_Always [(.i 2001), (.i 2000), (.i (i64 (13 + (i64 far_0)))), (.i i_0), (.i i_1), (.i i_2)]) fun r_61 =>
               onB r_61 fun b_51 ds_77 =>
               bif b_51 then (some [(.b false)]) else
               (Option.bind (F_law02_fails [(.i (i64 (2000000001 + (i64 far_0)))), (.i 1), (.i i_16), (.i i_17), (.i i_18), (.i 3)]) fun r_62 =>
                onB r_62 fun b_52 ds_78 =>
                bif b_52 then (Option.bind (F_law02_fails [(.i (i64 ((-2000000001) - (i64 far_0)))), (.i 12), (.i i_0), (.i i_1), (.i i_2), (.i 3)]) fun r_63 =>
                 onB r_63 fun b_53 ds_79 =>
                 bif b_53 then (Option.bind (F_law02_works []) fun r_64 =>
                  onB r_64 fun b_54 ds_80 =>
                  some [(.b b_54)]) else
                 (some [(.b false)])) else
                (some [(.b false)]))))))))))) else
      (bif (decide ((Int.tmod what_0 8) = 5)) then (Option.bind (F_law02_to [(.i (i64 ((-1) - (i64 far_0)))), (.i 1)]) fun r_65 =>
        onI r_65 fun i_20 ds_81 =>
        onI ds_81 fun i_21 ds_82 =>
        onI ds_82 fun i_22 ds_83 =>
        Option.bind (F_dayform_Check [(.i i_20), (.i i_21), (.i i_22)]) fun r_66 =>
        onI r_66 fun i_23 ds_84 =>
        bif (!decide (i_23 = 2)) then (some [(.b false)]) else
        (Option.bind (F_law02_fails [(.i 2000), (.i 1), (.i i_20), (.i i_21), (.i i_22), (.i 2)]) fun r_67 =>
         onB r_67 fun b_55 ds_85 =>
         bif (!b_55) then (some [(.b false)]) else
         (Option.bind (F_dayform_Always [(.i 2001), (.i 2000), (.i 1), (.i i_20), (.i i_21), (.i i_22)]) fun r_68 =>
          onB r_68 fun b_56 ds_86 =>
          bif b_56 then (some [(.b false)]) else
          (Option.bind (F_law02_fails [(.i 2000), (.i (i64 (0 - (i64 far_0)))), (.i i_20), (.i i_21), (.i i_22), (.i 3)]) fun r_69 =>
           onB r_69 fun b_57 ds_87 =>
           bif (!b_57) then (some [(.b false)]) else
           (Option.bind (F_law02_fails [(.i 2000), (.i (i64 (0 - (i64 far_0)))), (.i i_0), (.i i_1), (.i i_2), (.i 3)]) fun r_70 =>
            onB r_70 fun b_58 ds_88 =>
            bif (!b_58) then (some [(.b false)]) else
            (Option.bind (F_dayform_Always [(.i 2001), (.i 2000), (.i (i64 (0 - (i64 far_0)))), (.i i_0), (.i i_1), (.i i_2)]) fun r_71 =>
             onB r_71 fun b_59 ds_89 =>
             bif b_59 then (some [(.b false)]) else
             (Option.bind (F_law02_fails [(.i 2000), (.i (i64 (13 + (i64 far_0)))), (.i i_20), (.i i_21), (.i i_22), (.i 3)]) fun r_72 =>
              onB r_72 fun b_60 ds_90 =>
              bif (!b_60) then (some [(.b false)]) else
              (Option.bind (F_law02_fails [(.i 2000), (.i (i64 (13 + (i64 far_0)))), (.i i_0), (.i i_1), (.i i_2), (.i 3)]) fun r_73 =>
               onB r_73 fun b_61 ds_91 =>
               bif (!b_61) then (some [(.b false)]) else
               (Option.bind (F_dayform_Always [(.i 2001), (.i 2000), (.i (i64 (13 + (i64 far_0)))), (.i i_0), (.i i_1), (.i i_2)]) fun r_74 =>
                onB r_74 fun b_62 ds_92 =>
                bif b_62 then (some [(.b false)]) else
                (Option.bind (F_law02_fails [(.i (i64 (2000000001 + (i64 far_0)))), (.i 1), (.i i_20), (.i i_21), (.i i_22), (.i 3)]) fun r_75 =>
                 onB r_75 fun b_63 ds_93 =>
                 bif b_63 then (Option.bind (F_law02_fails [(.i (i64 ((-2000000001) - (i64 far_0)))), (.i 12), (.i i_0), (.i i_1), (.i i_2), (.i 3)]) fun r_76 =>
                  onB r_76 fun b_64 ds_94 =>
                  bif b_64 then (Option.bind (F_law02_works []) fun r_77 =>
                   onB r_77 fun b_65 ds_95 =>
                   some [(.b b_65)]) else
                  (some [(.b false)])) else
                 (some [(.b false)]))))))))))) else
       (bif (decide ((Int.tmod what_0 8) = 6)) then (Option.bind (F_dayform_Check [(.i 1), (.i (i64 (1 + (i64 far_0)))), (.i 1)]) fun r_78 =>
         onI r_78 fun i_24 ds_96 =>
         bif (!decide (i_24 = 2)) then (some [(.b false)]) else
         (Option.bind (F_law02_fails [(.i 2000), (.i 1), (.i 1), (.i (i64 (1 + (i64 far_0)))), (.i 1), (.i 2)]) fun r_79 =>
          onB r_79 fun b_66 ds_97 =>
          bif (!b_66) then (some [(.b false)]) else
          (Option.bind (F_dayform_Always [(.i 2001), (.i 2000), (.i 1), (.i 1), (.i (i64 (1 + (i64 far_0)))), (.i 1)]) fun r_80 =>
           onB r_80 fun b_67 ds_98 =>
           bif b_67 then (some [(.b false)]) else
           (Option.bind (F_law02_fails [(.i 2000), (.i (i64 (0 - (i64 far_0)))), (.i 1), (.i (i64 (1 + (i64 far_0)))), (.i 1), (.i 3)]) fun r_81 =>
            onB r_81 fun b_68 ds_99 =>
            bif (!b_68) then (some [(.b false)]) else
            (Option.bind (F_law02_fails [(.i 2000), (.i (i64 (0 - (i64 far_0)))), (.i i_0), (.i i_1), (.i i_2), (.i 3)]) fun r_82 =>
             onB r_82 fun b_69 ds_100 =>
             bif (!b_69) then (some [(.b false)]) else
             (Option.bind (F_dayform_Always [(.i 2001), (.i 2000), (.i (i64 (0 - (i64 far_0)))), (.i i_0), (.i i_1), (.i i_2)]) fun r_83 =>
              onB r_83 fun b_70 ds_101 =>
              bif b_70 then (some [(.b false)]) else
              (Option.bind (F_law02_fails [(.i 2000), (.i (i64 (13 + (i64 far_0)))), (.i 1), (.i (i64 (1 + (i64 far_0)))), (.i 1), (.i 3)]) fun r_84 =>
               onB r_84 fun b_71 ds_102 =>
               bif (!b_71) then (some [(.b false)]) else
               (Option.bind (F_law02_fails [(.i 2000), (.i (i64 (13 + (i64 far_0)))), (.i i_0), (.i i_1), (.i i_2), (.i 3)]) fun r_85 =>
                onB r_85 fun b_72 ds_103 =>
                bif (!b_72) then (some [(.b false)]) else
                (Option.bind (F_dayform_Always [(.i 2001), (.i 2000), (.i (i64 (13 + (i64 far_0)))), (.i i_0), (.i i_1), (.i i_2)]) fun r_86 =>
                 onB r_86 fun b_73 ds_104 =>
                 bif b_73 then (some [(.b false)]) else
                 (Option.bind (F_law02_fails [(.i (i64 (2000000001 + (i64 far_0)))), (.i 1), (.i 1), (.i (i64 (1 + (i64 far_0)))), (.i 1), (.i 3)]) fun r_87 =>
                  onB r_87 fun b_74 ds_105 =>
                  bif b_74 then (Option.bind (F_law02_fails [(.i (i64 ((-2000000001) - (i64 far_0)))), (.i 12), (.i i_0), (.i i_1), (.i i_2), (.i 3)]) fun r_88 =>
                   onB r_88 fun b_75 ds_106 =>
                   bif b_75 then (Option.bind (F_law02_works []) fun r_89 =>
                    onB r_89 fun b_76 ds_107 =>
                    some [(.b b_76)]) else
                   (some [(.b false)])) else
                  (some [(.b false)]))))))))))) else
        (Option.bind (F_dayform_Check [(.i 2), (.i 0), (.i (i64 (1 + (i64 far_0))))]) fun r_90 =>
         onI r_90 fun i_25 ds_108 =>
         bif (!decide (i_25 = 2)) then (some [(.b false)]) else
         (Option.bind (F_law02_fails [(.i 2000), (.i 1), (.i 2), (.i 0), (.i (i64 (1 + (i64 far_0)))), (.i 2)]) fun r_91 =>
          onB r_91 fun b_77 ds_109 =>
          bif (!b_77) then (some [(.b false)]) else
          (Option.bind (F_dayform_Always [(.i 2001), (.i 2000), (.i 1), (.i 2), (.i 0), (.i (i64 (1 + (i64 far_0))))]) fun r_92 =>
           onB r_92 fun b_78 ds_110 =>
           bif b_78 then (some [(.b false)]) else
           (Option.bind (F_law02_fails [(.i 2000), (.i (i64 (0 - (i64 far_0)))), (.i 2), (.i 0), (.i (i64 (1 + (i64 far_0)))), (.i 3)]) fun r_93 =>
            onB r_93 fun b_79 ds_111 =>
            bif (!b_79) then (some [(.b false)]) else
            (Option.bind (F_law02_fails [(.i 2000), (.i (i64 (0 - (i64 far_0)))), (.i i_0), (.i i_1), (.i i_2), (.i 3)]) fun r_94 =>
             onB r_94 fun b_80 ds_112 =>
             bif (!b_80) then (some [(.b false)]) else
             (Option.bind (F_dayform_Always [(.i 2001), (.i 2000), (.i (i64 (0 - (i64 far_0)))), (.i i_0), (.i i_1), (.i i_2)]) fun r_95 =>
              onB r_95 fun b_81 ds_113 =>
              bif b_81 then (some [(.b false)]) else
              (Option.bind (F_law02_fails [(.i 2000), (.i (i64 (13 + (i64 far_0)))), (.i 2), (.i 0), (.i (i64 (1 + (i64 far_0)))), (.i 3)]) fun r_96 =>
               onB r_96 fun b_82 ds_114 =>
               bif (!b_82) then (some [(.b false)]) else
               (Option.bind (F_law02_fails [(.i 2000), (.i (i64 (13 + (i64 far_0)))), (.i i_0), (.i i_1), (.i i_2), (.i 3)]) fun r_97 =>
                onB r_97 fun b_83 ds_115 =>
                bif (!b_83) then (some [(.b false)]) else
                (Option.bind (F_dayform_Always [(.i 2001), (.i 2000), (.i (i64 (13 + (i64 far_0)))), (.i i_0), (.i i_1), (.i i_2)]) fun r_98 =>
                 onB r_98 fun b_84 ds_116 =>
                 bif b_84 then (some [(.b false)]) else
                 (Option.bind (F_law02_fails [(.i (i64 (2000000001 + (i64 far_0)))), (.i 1), (.i 2), (.i 0), (.i (i64 (1 + (i64 far_0)))), (.i 3)]) fun r_99 =>
                  onB r_99 fun b_85 ds_117 =>
                  bif b_85 then (Option.bind (F_law02_fails [(.i (i64 ((-2000000001) - (i64 far_0)))), (.i 12), (.i i_0), (.i i_1), (.i i_2), (.i 3)]) fun r_100 =>
                   onB r_100 fun b_86 ds_118 =>
                   bif b_86 then (Option.bind (F_law02_works []) fun r_101 =>
                    onB r_101 fun b_87 ds_119 =>
                    some [(.b b_87)]) else
                   (some [(.b false)])) else
                  (some [(.b false)])))))))))))))))))
end Go.Proofs.YtljbgkfoljjgbaaDoor
