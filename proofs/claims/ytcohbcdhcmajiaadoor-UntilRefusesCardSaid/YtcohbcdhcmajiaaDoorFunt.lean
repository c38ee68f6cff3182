/-
  The functions of plain data that the laws of this group reach, as the program has them.
-/
import Derived.Test.YtcohbcdhcmajiaaDoorAx33
import Derived.Test.YtcohbcdhcmajiaaDoorAx36
import Derived.Test.YtcohbcdhcmajiaaDoorAx37
import Derived.Test.YtcohbcdhcmajiaaDoorAx39
import Derived.Test.YtcohbcdhcmajiaaDoorAx40
import Derived.Test.YtcohbcdhcmajiaaDoorHBuilder
namespace Go.Proofs.YtcohbcdhcmajiaaDoor
open Go.Ax
set_option linter.all false
set_option maxRecDepth 100000
noncomputable def F_law02_fixed : List Dat → Option (List Dat) := fun ds_0 =>
  onI ds_0 fun n_0 ds_1 =>
  some [(.i 1), (.i 0), (.i n_0)]
noncomputable def F_law02_last : List Dat → Option (List Dat) := fun ds_0 =>
  onI ds_0 fun w_0 ds_1 =>
  some [(.i 2), (.i w_0), (.i 0)]
noncomputable def F_law02_from : List Dat → Option (List Dat) := fun ds_0 =>
  onI ds_0 fun w_0 ds_1 =>
  onI ds_1 fun n_0 ds_2 =>
  some [(.i 3), (.i w_0), (.i n_0)]
noncomputable def F_law02_to : List Dat → Option (List Dat) := fun ds_0 =>
  onI ds_0 fun w_0 ds_1 =>
  onI ds_1 fun n_0 ds_2 =>
  some [(.i 4), (.i w_0), (.i n_0)]
noncomputable def F__law02_Draft__Made : List Dat → Option (List Dat) := fun ds_0 =>
  onI ds_0 fun d_0 ds_1 =>
  onI ds_1 fun d_1 ds_2 =>
  onI ds_2 fun d_2 ds_3 =>
  bif (decide ((Int.tmod d_0 4) = 0)) then (Option.bind (F_law02_fixed [(.i (i64 (1 + (i64 (Int.tmod d_2 31)))))]) fun r_0 =>
   onI r_0 fun i_0 ds_4 =>
   onI ds_4 fun i_1 ds_5 =>
   onI ds_5 fun i_2 ds_6 =>
   some [(.i i_0), (.i i_1), (.i i_2)]) else
  (bif (decide ((Int.tmod d_0 4) = 1)) then (Option.bind (F_law02_last [(.i (i64 (Int.tmod d_1 7)))]) fun r_1 =>
    onI r_1 fun i_3 ds_7 =>
    onI ds_7 fun i_4 ds_8 =>
    onI ds_8 fun i_5 ds_9 =>
    some [(.i i_3), (.i i_4), (.i i_5)]) else
   (bif (decide ((Int.tmod d_0 4) = 2)) then (Option.bind (F_law02_from [(.i (i64 (Int.tmod d_1 7))), (.i (i64 (1 + (i64 (Int.tmod d_2 31)))))]) fun r_2 =>
     onI r_2 fun i_6 ds_10 =>
     onI ds_10 fun i_7 ds_11 =>
     onI ds_11 fun i_8 ds_12 =>
     some [(.i i_6), (.i i_7), (.i i_8)]) else
    (Option.bind (F_law02_to [(.i (i64 (Int.tmod d_1 7))), (.i (i64 (1 + (i64 (Int.tmod d_2 31)))))]) fun r_3 =>
     onI r_3 fun i_9 ds_13 =>
     onI ds_13 fun i_10 ds_14 =>
     onI ds_14 fun i_11 ds_15 =>
     some [(.i i_9), (.i i_10), (.i i_11)])))
noncomputable def F__law22_Draft__Made : List Dat → Option (List Dat) := fun ds_0 =>
  onI ds_0 fun d_0 ds_1 =>
  onI ds_1 fun d_1 ds_2 =>
  onI ds_2 fun d_2 ds_3 =>
  onI ds_3 fun d_3 ds_4 =>
  onI ds_4 fun d_4 ds_5 =>
  onI ds_5 fun d_5 ds_6 =>
  onI ds_6 fun d_6 ds_7 =>
  onI ds_7 fun least_0 ds_8 =>
  Option.bind (F__law02_Draft__Made [(.i d_3), (.i d_4), (.i d_5)]) fun r_0 =>
  onI r_0 fun i_0 ds_9 =>
  onI ds_9 fun i_1 ds_10 =>
  onI ds_10 fun i_2 ds_11 =>
  bif (decide (28 < i_2)) then (bif (decide ((Int.tmod (i64 d_6) 259201) < 0)) then (bif (decide ((i64 (Int.tmod d_2 3)) = 1)) then (some [(.b true), (.i (i64 (1850 + (i64 (Int.tmod d_0 300))))), (.i (i64 (1 + (i64 (Int.tmod d_1 12))))), (.i i_0), (.i i_1), (.i 28), (.i (i64 ((i64 ((-86400) + (i64 ((Int.tmod (i64 d_6) 259201) + 259201)))) - least_0))), (.i (i64 (Int.tmod d_2 3)))]) else
    (some [(.b true), (.i (i64 (1850 + (i64 (Int.tmod d_0 300))))), (.i (i64 (1 + (i64 (Int.tmod d_1 12))))), (.i i_0), (.i i_1), (.i 28), (.i (i64 ((-86400) + (i64 ((Int.tmod (i64 d_6) 259201) + 259201))))), (.i (i64 (Int.tmod d_2 3)))])) else
   (bif (decide ((i64 (Int.tmod d_2 3)) = 1)) then (some [(.b true), (.i (i64 (1850 + (i64 (Int.tmod d_0 300))))), (.i (i64 (1 + (i64 (Int.tmod d_1 12))))), (.i i_0), (.i i_1), (.i 28), (.i (i64 ((i64 ((-86400) + (Int.tmod (i64 d_6) 259201))) - least_0))), (.i (i64 (Int.tmod d_2 3)))]) else
    (some [(.b true), (.i (i64 (1850 + (i64 (Int.tmod d_0 300))))), (.i (i64 (1 + (i64 (Int.tmod d_1 12))))), (.i i_0), (.i i_1), (.i 28), (.i (i64 ((-86400) + (Int.tmod (i64 d_6) 259201)))), (.i (i64 (Int.tmod d_2 3)))]))) else
  (bif (decide ((Int.tmod (i64 d_6) 259201) < 0)) then (bif (decide ((i64 (Int.tmod d_2 3)) = 1)) then (some [(.b true), (.i (i64 (1850 + (i64 (Int.tmod d_0 300))))), (.i (i64 (1 + (i64 (Int.tmod d_1 12))))), (.i i_0), (.i i_1), (.i i_2), (.i (i64 ((i64 ((-86400) + (i64 ((Int.tmod (i64 d_6) 259201) + 259201)))) - least_0))), (.i (i64 (Int.tmod d_2 3)))]) else
    (some [(.b true), (.i (i64 (1850 + (i64 (Int.tmod d_0 300))))), (.i (i64 (1 + (i64 (Int.tmod d_1 12))))), (.i i_0), (.i i_1), (.i i_2), (.i (i64 ((-86400) + (i64 ((Int.tmod (i64 d_6) 259201) + 259201))))), (.i (i64 (Int.tmod d_2 3)))])) else
   (bif (decide ((i64 (Int.tmod d_2 3)) = 1)) then (some [(.b true), (.i (i64 (1850 + (i64 (Int.tmod d_0 300))))), (.i (i64 (1 + (i64 (Int.tmod d_1 12))))), (.i i_0), (.i i_1), (.i i_2), (.i (i64 ((i64 ((-86400) + (Int.tmod (i64 d_6) 259201))) - least_0))), (.i (i64 (Int.tmod d_2 3)))]) else
    (some [(.b true), (.i (i64 (1850 + (i64 (Int.tmod d_0 300))))), (.i (i64 (1 + (i64 (Int.tmod d_1 12))))), (.i i_0), (.i i_1), (.i i_2), (.i (i64 ((-86400) + (Int.tmod (i64 d_6) 259201)))), (.i (i64 (Int.tmod d_2 3)))])))
noncomputable def F_civil_Leap : List Dat → Option (List Dat) := fun ds_0 =>
  onI ds_0 fun y_0 ds_1 =>
  Option.bind (bif (decide ((Int.tmod y_0 4) = 0)) then (bif (!decide ((Int.tmod y_0 100) = 0)) then (some true) else
    (bif (decide ((Int.tmod y_0 400) = 0)) then (some true) else
     (some false))) else
   (some false)) fun b_0 =>
  some [(.b b_0)]
noncomputable def F_civil_Len : List Dat → Option (List Dat) := fun ds_0 =>
  onI ds_0 fun y_0 ds_1 =>
  onI ds_1 fun m_0 ds_2 =>
  Option.bind (bif (decide (m_0 < 1)) then (some true) else
   (bif (decide (12 < m_0)) then (some true) else
    (some false))) fun b_0 =>
  bif b_0 then (some [(.i 0)]) else
  (bif (decide ((0 ≤ m_0) ∧ (m_0 < 13))) then (Option.bind (asI .i64 ([(Ax.AV.int .i64 (Ax.I.lit 0)), (Ax.AV.int .i64 (Ax.I.lit 31)), (Ax.AV.int .i64 (Ax.I.lit 59)), (Ax.AV.int .i64 (Ax.I.lit 90)), (Ax.AV.int .i64 (Ax.I.lit 120)), (Ax.AV.int .i64 (Ax.I.lit 151)), (Ax.AV.int .i64 (Ax.I.lit 181)), (Ax.AV.int .i64 (Ax.I.lit 212)), (Ax.AV.int .i64 (Ax.I.lit 243)), (Ax.AV.int .i64 (Ax.I.lit 273)), (Ax.AV.int .i64 (Ax.I.lit 304)), (Ax.AV.int .i64 (Ax.I.lit 334)), (Ax.AV.int .i64 (Ax.I.lit 365))])[(m_0).toNat]?) fun x_0 =>
   bif (decide ((0 ≤ (i64 (m_0 - 1))) ∧ ((i64 (m_0 - 1)) < 13))) then (Option.bind (asI .i64 ([(Ax.AV.int .i64 (Ax.I.lit 0)), (Ax.AV.int .i64 (Ax.I.lit 31)), (Ax.AV.int .i64 (Ax.I.lit 59)), (Ax.AV.int .i64 (Ax.I.lit 90)), (Ax.AV.int .i64 (Ax.I.lit 120)), (Ax.AV.int .i64 (Ax.I.lit 151)), (Ax.AV.int .i64 (Ax.I.lit 181)), (Ax.AV.int .i64 (Ax.I.lit 212)), (Ax.AV.int .i64 (Ax.I.lit 243)), (Ax.AV.int .i64 (Ax.I.lit 273)), (Ax.AV.int .i64 (Ax.I.lit 304)), (Ax.AV.int .i64 (Ax.I.lit 334)), (Ax.AV.int .i64 (Ax.I.lit 365))])[((i64 (m_0 - 1))).toNat]?) fun x_1 =>
   bif (decide (m_0 = 2)) then (Option.bind (F_civil_Leap [(.i y_0)]) fun r_0 =>
    onB r_0 fun b_1 ds_3 =>
    bif b_1 then (some [(.i (i64 ((i64 (x_0 - x_1)) + 1)))]) else
    (some [(.i (i64 (x_0 - x_1)))])) else
   (some [(.i (i64 (x_0 - x_1)))])) else none) else none)
noncomputable def F_civil_floor : List Dat → Option (List Dat) := fun ds_0 =>
  onI ds_0 fun a_0 ds_1 =>
  onI ds_1 fun b_0 ds_2 =>
  bif (b_0 != 0) then (bif (b_0 != 0) then (bif (decide ((Int.tmod a_0 b_0) < 0)) then (some [(.i (i64 ((i64 (Int.tdiv a_0 b_0)) - 1)))]) else
  (some [(.i (i64 (Int.tdiv a_0 b_0)))])) else none) else none
noncomputable def F_civil_Days : List Dat → Option (List Dat) := fun ds_0 =>
  onI ds_0 fun y_0 ds_1 =>
  onI ds_1 fun m_0 ds_2 =>
  onI ds_2 fun d_0 ds_3 =>
  bif (decide (y_0 < (-2000000000))) then (some [(.i 0), (.i 3)]) else
  (bif (decide (2000000000 < y_0)) then (some [(.i 0), (.i 3)]) else
   (bif (decide (d_0 < 1)) then (some [(.i 0), (.i 3)]) else
    (Option.bind (F_civil_Len [(.i y_0), (.i m_0)]) fun r_0 =>
     onI r_0 fun i_0 ds_4 =>
     bif (decide (i_0 < d_0)) then (some [(.i 0), (.i 3)]) else
     (Option.bind (F_civil_floor [(.i (i64 (y_0 - 1))), (.i 4)]) fun r_1 =>
      onI r_1 fun i_1 ds_5 =>
      Option.bind (F_civil_floor [(.i (i64 (y_0 - 1))), (.i 100)]) fun r_2 =>
      onI r_2 fun i_2 ds_6 =>
      Option.bind (F_civil_floor [(.i (i64 (y_0 - 1))), (.i 400)]) fun r_3 =>
      onI r_3 fun i_3 ds_7 =>
      bif (decide ((0 ≤ (i64 (m_0 - 1))) ∧ ((i64 (m_0 - 1)) < 13))) then (Option.bind (asI .i64 ([(Ax.AV.int .i64 (Ax.I.lit 0)), (Ax.AV.int .i64 (Ax.I.lit 31)), (Ax.AV.int .i64 (Ax.I.lit 59)), (Ax.AV.int .i64 (Ax.I.lit 90)), (Ax.AV.int .i64 (Ax.I.lit 120)), (Ax.AV.int .i64 (Ax.I.lit 151)), (Ax.AV.int .i64 (Ax.I.lit 181)), (Ax.AV.int .i64 (Ax.I.lit 212)), (Ax.AV.int .i64 (Ax.I.lit 243)), (Ax.AV.int .i64 (Ax.I.lit 273)), (Ax.AV.int .i64 (Ax.I.lit 304)), (Ax.AV.int .i64 (Ax.I.lit 334)), (Ax.AV.int .i64 (Ax.I.lit 365))])[((i64 (m_0 - 1))).toNat]?) fun x_0 =>
      bif (decide (2 < m_0)) then (Option.bind (F_civil_Leap [(.i y_0)]) fun r_4 =>
       onB r_4 fun b_0 ds_8 =>
       bif b_0 then (some [(.i (i64 ((i64 ((i64 ((i64 ((i64 ((i64 ((i64 ((i64 (365 * y_0)) + i_1)) - i_2)) + i_3)) + 1)) + (i64 ((i64 (x_0 + d_0)) - 1)))) + 1)) + (-719528)))), (.i 0)]) else
       (some [(.i (i64 ((i64 ((i64 ((i64 ((i64 ((i64 ((i64 (365 * y_0)) + i_1)) - i_2)) + i_3)) + 1)) + (i64 ((i64 (x_0 + d_0)) - 1)))) + (-719528)))), (.i 0)])) else
      (some [(.i (i64 ((i64 ((i64 ((i64 ((i64 ((i64 ((i64 (365 * y_0)) + i_1)) - i_2)) + i_3)) + 1)) + (i64 ((i64 (x_0 + d_0)) - 1)))) + (-719528)))), (.i 0)])) else none))))
noncomputable def F_dayform_dayOf : List Dat → Option (List Dat) := fun ds_0 =>
  onI ds_0 fun d_0 ds_1 =>
  onI ds_1 fun d_1 ds_2 =>
  onI ds_2 fun d_2 ds_3 =>
  onI ds_3 fun first_0 ds_4 =>
  some [(.i (i64 ((i64 (first_0 + d_2)) - 1)))]
noncomputable def F_civil_Weekday : List Dat → Option (List Dat) := fun ds_0 =>
  onI ds_0 fun days_0 ds_1 =>
  some [(.i (Int.tmod (i64 ((i64 ((Int.tmod days_0 7) + 7)) + 4)) 7))]
noncomputable def F_dayform_back : List Dat → Option (List Dat) := fun ds_0 =>
  onI ds_0 fun week_0 ds_1 =>
  onI ds_1 fun day_0 ds_2 =>
  Option.bind (F_civil_Weekday [(.i day_0)]) fun r_0 =>
  onI r_0 fun i_0 ds_3 =>
  some [(.i (Int.tmod (i64 ((i64 (i_0 - week_0)) + 7)) 7))]
noncomputable def F_dayform_kinds : List Dat → Option (List Dat) := fun ds_0 =>
  some [(.b false), (.b false), (.b false), (.b true), (.b true), (.b false), (.b true), (.b true), (.b true), (.b true)]
noncomputable def F_dayform_On : List Dat → Option (List Dat) := fun ds_0 =>
  onI ds_0 fun y_0 ds_1 =>
  onI ds_1 fun m_0 ds_2 =>
  onI ds_2 fun d_0 ds_3 =>
  onI ds_3 fun d_1 ds_4 =>
  onI ds_4 fun d_2 ds_5 =>
  Option.bind (F_civil_Days [(.i y_0), (.i m_0), (.i 1)]) fun r_0 =>
  onI r_0 fun i_0 ds_6 =>
  onI ds_6 fun i_1 ds_7 =>
  bif (!decide (i_1 = 0)) then (some [(.i 0), (.i 3)]) else
  (Option.bind (bif (decide (d_0 < 1)) then (some true) else
    (bif (decide (4 < d_0)) then (some true) else
     (some false))) fun b_0 =>
   bif b_0 then (some [(.i 0), (.i 2)]) else
   (Option.bind (F_dayform_kinds []) fun r_1 =>
    onB r_1 fun b_1 ds_8 =>
    onB ds_8 fun b_2 ds_9 =>
    onB ds_9 fun b_3 ds_10 =>
    onB ds_10 fun b_4 ds_11 =>
    onB ds_11 fun b_5 ds_12 =>
    onB ds_12 fun b_6 ds_13 =>
    onB ds_13 fun b_7 ds_14 =>
    onB ds_14 fun b_8 ds_15 =>
    onB ds_15 fun b_9 ds_16 =>
    onB ds_16 fun b_10 ds_17 =>
    bif (decide ((0 ≤ d_0) ∧ (d_0 < 5))) then (bif (decide (d_0 = 4)) then (Option.bind (bif b_9 then (bif (decide (d_1 < 0)) then (some true) else
       (bif (decide (6 < d_1)) then (some true) else
        (bif (!b_9) then (bif (!decide (d_1 = 0)) then (some true) else
          (some false)) else
         (some false)))) else
      (bif (!b_9) then (bif (!decide (d_1 = 0)) then (some true) else
        (some false)) else
       (some false))) fun b_11 =>
     bif b_11 then (some [(.i 0), (.i 2)]) else
     (Option.bind (bif b_10 then (bif (decide (d_2 < 1)) then (some true) else
        (bif (decide (31 < d_2)) then (some true) else
         (bif (!b_10) then (bif (!decide (d_2 = 0)) then (some true) else
           (some false)) else
          (some false)))) else
       (bif (!b_10) then (bif (!decide (d_2 = 0)) then (some true) else
         (some false)) else
        (some false))) fun b_12 =>
      bif b_12 then (some [(.i 0), (.i 2)]) else
      (Option.bind (F_civil_Len [(.i y_0), (.i m_0)]) fun r_2 =>
       onI r_2 fun i_2 ds_18 =>
       bif (decide (i_2 < d_2)) then (some [(.i 0), (.i 4)]) else
       (Option.bind (F_dayform_dayOf [(.i d_0), (.i d_1), (.i d_2), (.i i_0)]) fun r_3 =>
        onI r_3 fun i_3 ds_19 =>
        Option.bind (F_dayform_back [(.i d_1), (.i i_3)]) fun r_4 =>
        onI r_4 fun i_4 ds_20 =>
        some [(.i (i64 (i_3 - i_4))), (.i 0)])))) else
    (bif (decide (d_0 = 3)) then (Option.bind (bif b_7 then (bif (decide (d_1 < 0)) then (some true) else
        (bif (decide (6 < d_1)) then (some true) else
         (bif (!b_7) then (bif (!decide (d_1 = 0)) then (some true) else
           (some false)) else
          (some false)))) else
       (bif (!b_7) then (bif (!decide (d_1 = 0)) then (some true) else
         (some false)) else
        (some false))) fun b_13 =>
      bif b_13 then (some [(.i 0), (.i 2)]) else
      (Option.bind (bif b_8 then (bif (decide (d_2 < 1)) then (some true) else
         (bif (decide (31 < d_2)) then (some true) else
          (bif (!b_8) then (bif (!decide (d_2 = 0)) then (some true) else
            (some false)) else
           (some false)))) else
        (bif (!b_8) then (bif (!decide (d_2 = 0)) then (some true) else
          (some false)) else
         (some false))) fun b_14 =>
       bif b_14 then (some [(.i 0), (.i 2)]) else
       (Option.bind (F_civil_Len [(.i y_0), (.i m_0)]) fun r_5 =>
        onI r_5 fun i_5 ds_21 =>
        bif (decide (i_5 < d_2)) then (some [(.i 0), (.i 4)]) else
        (Option.bind (F_dayform_dayOf [(.i d_0), (.i d_1), (.i d_2), (.i i_0)]) fun r_6 =>
         onI r_6 fun i_6 ds_22 =>
         Option.bind (F_dayform_back [(.i d_1), (.i (i64 (i_6 + 6)))]) fun r_7 =>
         onI r_7 fun i_7 ds_23 =>
         some [(.i (i64 ((i64 (i_6 + 6)) - i_7))), (.i 0)])))) else
     (bif (decide (d_0 = 2)) then (Option.bind (bif b_5 then (bif (decide (d_1 < 0)) then (some true) else
         (bif (decide (6 < d_1)) then (some true) else
          (bif (!b_5) then (bif (!decide (d_1 = 0)) then (some true) else
            (some false)) else
           (some false)))) else
        (bif (!b_5) then (bif (!decide (d_1 = 0)) then (some true) else
          (some false)) else
         (some false))) fun b_15 =>
       bif b_15 then (some [(.i 0), (.i 2)]) else
       (Option.bind (bif b_6 then (bif (decide (d_2 < 1)) then (some true) else
          (bif (decide (31 < d_2)) then (some true) else
           (bif (!b_6) then (bif (!decide (d_2 = 0)) then (some true) else
             (some false)) else
            (some false)))) else
         (bif (!b_6) then (bif (!decide (d_2 = 0)) then (some true) else
           (some false)) else
          (some false))) fun b_16 =>
        bif b_16 then (some [(.i 0), (.i 2)]) else
        (Option.bind (F_civil_Len [(.i y_0), (.i m_0)]) fun r_8 =>
         onI r_8 fun i_8 ds_24 =>
         bif (decide (i_8 < d_2)) then (some [(.i 0), (.i 4)]) else
         (Option.bind (F_dayform_back [(.i d_1), (.i (i64 ((i64 (i_0 + i_8)) - 1)))]) fun r_9 =>
          onI r_9 fun i_9 ds_25 =>
          some [(.i (i64 ((i64 ((i64 (i_0 + i_8)) - 1)) - i_9))), (.i 0)])))) else
      (bif (decide (d_0 = 1)) then (Option.bind (bif b_3 then (bif (decide (d_1 < 0)) then (some true) else
          (bif (decide (6 < d_1)) then (some true) else
           (bif (!b_3) then (bif (!decide (d_1 = 0)) then (some true) else
             (some false)) else
            (some false)))) else
         (bif (!b_3) then (bif (!decide (d_1 = 0)) then (some true) else
           (some false)) else
          (some false))) fun b_17 =>
        bif b_17 then (some [(.i 0), (.i 2)]) else
        (Option.bind (bif b_4 then (bif (decide (d_2 < 1)) then (some true) else
           (bif (decide (31 < d_2)) then (some true) else
            (bif (!b_4) then (bif (!decide (d_2 = 0)) then (some true) else
              (some false)) else
             (some false)))) else
          (bif (!b_4) then (bif (!decide (d_2 = 0)) then (some true) else
            (some false)) else
           (some false))) fun b_18 =>
         bif b_18 then (some [(.i 0), (.i 2)]) else
         (Option.bind (F_civil_Len [(.i y_0), (.i m_0)]) fun r_10 =>
          onI r_10 fun i_10 ds_26 =>
          bif (decide (i_10 < d_2)) then (some [(.i 0), (.i 4)]) else
          (Option.bind (F_dayform_dayOf [(.i d_0), (.i d_1), (.i d_2), (.i i_0)]) fun r_11 =>
           onI r_11 fun i_11 ds_27 =>
           some [(.i i_11), (.i 0)])))) else
       (bif (decide (d_0 = 0)) then (Option.bind (bif b_1 then (bif (decide (d_1 < 0)) then (some true) else
           (bif (decide (6 < d_1)) then (some true) else
            (bif (!b_1) then (bif (!decide (d_1 = 0)) then (some true) else
              (some false)) else
             (some false)))) else
          (bif (!b_1) then (bif (!decide (d_1 = 0)) then (some true) else
            (some false)) else
           (some false))) fun b_19 =>
         bif b_19 then (some [(.i 0), (.i 2)]) else
         (Option.bind (bif b_2 then (bif (decide (d_2 < 1)) then (some true) else
            (bif (decide (31 < d_2)) then (some true) else
             (bif (!b_2) then (bif (!decide (d_2 = 0)) then (some true) else
               (some false)) else
              (some false)))) else
           (bif (!b_2) then (bif (!decide (d_2 = 0)) then (some true) else
             (some false)) else
            (some false))) fun b_20 =>
          bif b_20 then (some [(.i 0), (.i 2)]) else
          (Option.bind (F_civil_Len [(.i y_0), (.i m_0)]) fun r_12 =>
           onI r_12 fun i_12 ds_28 =>
           bif (decide (i_12 < d_2)) then (some [(.i 0), (.i 4)]) else
           (none)))) else
        (none)))))) else none))
noncomputable def F_number_Named : List Dat → Option (List Dat) := fun ds_0 =>
  onI ds_0 fun y_0 ds_1 =>
  Option.bind (bif (decide (1850 ≤ y_0)) then (bif (decide (y_0 ≤ 2149)) then (some true) else
    (some false)) else
   (some false)) fun b_0 =>
  some [(.b b_0)]
noncomputable def F_clock_Check : List Dat → Option (List Dat) := fun ds_0 =>
  onI ds_0 fun c_0 ds_1 =>
  onI ds_1 fun c_1 ds_2 =>
  Option.bind (bif (decide (c_0 < (-604799))) then (some true) else
   (bif (decide (604799 < c_0)) then (some true) else
    (bif (decide (c_1 < 0)) then (some true) else
     (bif (decide (2 < c_1)) then (some true) else
      (some false))))) fun b_0 =>
  bif b_0 then (some [(.i 2)]) else
  (some [(.i 0)])
noncomputable def F_until_nominal : List Dat → Option (List Dat) := fun ds_0 =>
  onB ds_0 fun u_0 ds_1 =>
  onI ds_1 fun u_1 ds_2 =>
  onI ds_2 fun u_2 ds_3 =>
  onI ds_3 fun u_3 ds_4 =>
  onI ds_4 fun u_4 ds_5 =>
  onI ds_5 fun u_5 ds_6 =>
  onI ds_6 fun u_6 ds_7 =>
  onI ds_7 fun u_7 ds_8 =>
  onI ds_8 fun least_0 ds_9 =>
  Option.bind (F_dayform_On [(.i u_1), (.i u_2), (.i u_3), (.i u_4), (.i u_5)]) fun r_0 =>
  onI r_0 fun i_0 ds_10 =>
  onI ds_10 fun i_1 ds_11 =>
  bif (!decide (i_1 = 0)) then (some [(.i 0), (.b false)]) else
  (Option.bind (F_number_Named [(.i u_1)]) fun r_1 =>
   onB r_1 fun b_0 ds_12 =>
   bif (!b_0) then (some [(.i 0), (.b false)]) else
   (Option.bind (F_clock_Check [(.i u_6), (.i u_7)]) fun r_2 =>
    onI r_2 fun i_2 ds_13 =>
    bif (!decide (i_2 = 0)) then (some [(.i 0), (.b false)]) else
    (bif (decide (u_7 = 1)) then (bif (decide ((-86400) ≤ (i64 (u_6 + least_0)))) then (bif (decide ((i64 (u_6 + least_0)) ≤ 172800)) then (some [(.i (i64 ((i64 (86400 * i_0)) + (i64 (u_6 + least_0))))), (.b true)]) else
       (some [(.i (i64 ((i64 (86400 * i_0)) + (i64 (u_6 + least_0))))), (.b false)])) else
      (some [(.i (i64 ((i64 (86400 * i_0)) + (i64 (u_6 + least_0))))), (.b false)])) else
     (bif (decide ((-86400) ≤ u_6)) then (bif (decide (u_6 ≤ 172800)) then (some [(.i (i64 ((i64 (86400 * i_0)) + u_6))), (.b true)]) else
       (some [(.i (i64 ((i64 (86400 * i_0)) + u_6))), (.b false)])) else
      (some [(.i (i64 ((i64 (86400 * i_0)) + u_6))), (.b false)])))))
noncomputable def F_until_Nominal : List Dat → Option (List Dat) := fun ds_0 =>
  onB ds_0 fun u_0 ds_1 =>
  onI ds_1 fun u_1 ds_2 =>
  onI ds_2 fun u_2 ds_3 =>
  onI ds_3 fun u_3 ds_4 =>
  onI ds_4 fun u_4 ds_5 =>
  onI ds_5 fun u_5 ds_6 =>
  onI ds_6 fun u_6 ds_7 =>
  onI ds_7 fun u_7 ds_8 =>
  onI ds_8 fun least_0 ds_9 =>
  Option.bind (bif (decide (least_0 < (-10800))) then (some true) else
   (bif (decide (0 < least_0)) then (some true) else
    (some false))) fun b_0 =>
  bif b_0 then (some [(.i 0), (.i 2)]) else
  (bif (!u_0) then (some [(.i 0), (.i 4)]) else
   (Option.bind (F_until_nominal [(.b u_0), (.i u_1), (.i u_2), (.i u_3), (.i u_4), (.i u_5), (.i u_6), (.i u_7), (.i least_0)]) fun r_0 =>
    onI r_0 fun i_0 ds_10 =>
    onB ds_10 fun b_1 ds_11 =>
    bif (!b_1) then (some [(.i 0), (.i 3)]) else
    (some [(.i i_0), (.i 0)])))
noncomputable def F_until_moderate : List Dat → Option (List Dat) := fun ds_0 =>
  onI ds_0 fun x_0 ds_1 =>
  Option.bind (bif (decide ((-604799) ≤ x_0)) then (bif (decide (x_0 ≤ 604799)) then (some true) else
    (some false)) else
   (some false)) fun b_0 =>
  some [(.b b_0)]
noncomputable def F_ruleset_Least_L0 : List Dat → Option (List Dat ⊕ List Dat) := fun ds_3 =>
  onI ds_3 fun least_0 ds_4 =>
  onN ds_4 fun vn_0 ds_5 =>
  onL ds_5 fun vl_0 ds_6 =>
  onI ds_6 fun v_0 ds_7 =>
  onI ds_7 fun v_1 ds_8 =>
  bif (decide (v_1 < v_0)) then (bif (decide ((0 ≤ v_1) ∧ (v_1 < ((vn_0 : Nat) : Int)))) then (Option.bind (asS ((List.drop ((v_1).toNat * 11) vl_0))[0]?) fun s_0 =>
   Option.bind (asI .i64 ((List.drop 1 (List.drop ((v_1).toNat * 11) vl_0)))[0]?) fun x_0 =>
   Option.bind (asI .i64 ((List.drop 1 (List.drop 1 (List.drop ((v_1).toNat * 11) vl_0))))[0]?) fun x_1 =>
   Option.bind (asI .i64 ((List.drop 1 (List.drop 1 (List.drop 1 (List.drop ((v_1).toNat * 11) vl_0)))))[0]?) fun x_2 =>
   Option.bind (asI .i64 ((List.drop 1 (List.drop 1 (List.drop 1 (List.drop 1 (List.drop ((v_1).toNat * 11) vl_0))))))[0]?) fun x_3 =>
   Option.bind (asI .i64 ((List.drop 1 (List.drop 1 (List.drop 1 (List.drop 1 (List.drop 1 (List.drop ((v_1).toNat * 11) vl_0)))))))[0]?) fun x_4 =>
   Option.bind (asI .i64 ((List.drop 1 (List.drop 1 (List.drop 1 (List.drop 1 (List.drop 1 (List.drop 1 (List.drop ((v_1).toNat * 11) vl_0))))))))[0]?) fun x_5 =>
   Option.bind (asI .i64 ((List.drop 1 (List.drop 1 (List.drop 1 (List.drop 1 (List.drop 1 (List.drop 1 (List.drop 1 (List.drop ((v_1).toNat * 11) vl_0)))))))))[0]?) fun x_6 =>
   Option.bind (asI .i64 ((List.drop 1 (List.drop 1 (List.drop 1 (List.drop 1 (List.drop 1 (List.drop 1 (List.drop 1 (List.drop 1 (List.drop ((v_1).toNat * 11) vl_0))))))))))[0]?) fun x_7 =>
   Option.bind (asI .i64 ((List.drop 1 (List.drop 1 (List.drop 1 (List.drop 1 (List.drop 1 (List.drop 1 (List.drop 1 (List.drop 1 (List.drop 1 (List.drop ((v_1).toNat * 11) vl_0)))))))))))[0]?) fun x_8 =>
   Option.bind (asS ((List.drop 1 (List.drop 1 (List.drop 1 (List.drop 1 (List.drop 1 (List.drop 1 (List.drop 1 (List.drop 1 (List.drop 1 (List.drop 1 (List.drop ((v_1).toNat * 11) vl_0))))))))))))[0]?) fun s_1 =>
   some (.inl [(.i (if x_8 < least_0 then x_8 else least_0)), (.n vn_0), (.l vl_0), (.i v_0), (.i (i64 (v_1 + 1)))])) else none) else
  (Option.map .inr (some [(.i least_0)]))
noncomputable def F_ruleset_Least : List Dat → Option (List Dat) := fun ds_0 =>
  onN ds_0 fun ln_0 ds_1 =>
  onL ds_1 fun ll_0 ds_2 =>
  iter F_ruleset_Least_L0 [(.i 0), (.n ln_0), (.l ll_0), (.i ((ln_0 : Nat) : Int)), (.i 0)]
noncomputable def F_until_baseSave : List Dat → Option (List Dat) := fun ds_0 =>
  onI ds_0 fun e_0 ds_1 =>
  onI ds_1 fun e_1 ds_2 =>
  onI ds_2 fun e_2 ds_3 =>
  onS ds_3 fun e_3 ds_4 =>
  onS ds_4 fun e_4 ds_5 =>
  onB ds_5 fun e_5 ds_6 =>
  onI ds_6 fun e_6 ds_7 =>
  onI ds_7 fun e_7 ds_8 =>
  onI ds_8 fun e_8 ds_9 =>
  onI ds_9 fun e_9 ds_10 =>
  onI ds_10 fun e_10 ds_11 =>
  onI ds_11 fun e_11 ds_12 =>
  onI ds_12 fun e_12 ds_13 =>
  onN ds_13 fun ln_0 ds_14 =>
  onL ds_14 fun ll_0 ds_15 =>
  bif (!decide (e_1 = 2)) then (some [(.i 0)]) else
  (Option.bind (F_ruleset_Least [(.n ln_0), (.l ll_0)]) fun r_0 =>
   onI r_0 fun i_0 ds_16 =>
   some [(.i (if (-10800) > i_0 then (-10800) else i_0))])
noncomputable def F_events_baseSave : List Dat → Option (List Dat) := fun ds_0 =>
  onN ds_0 fun ln_0 ds_1 =>
  onL ds_1 fun ll_0 ds_2 =>
  Option.bind (F_ruleset_Least [(.n ln_0), (.l ll_0)]) fun r_0 =>
  onI r_0 fun i_0 ds_3 =>
  some [(.i (if (-10800) > i_0 then (-10800) else i_0))]
noncomputable def F_civil_fromMarch : List Dat → Option (List Dat) := fun ds_0 =>
  onI ds_0 fun day_0 ds_1 =>
  Option.bind (F_civil_floor [(.i (i64 ((i64 (5 * day_0)) + 2))), (.i 153)]) fun r_0 =>
  onI r_0 fun i_0 ds_2 =>
  Option.bind (F_civil_floor [(.i (i64 ((i64 (153 * i_0)) + 2))), (.i 5)]) fun r_1 =>
  onI r_1 fun i_1 ds_3 =>
  some [(.i (i64 ((Int.tmod (i64 (i_0 + 2)) 12) + 1))), (.i (i64 ((i64 (day_0 - i_1)) + 1)))]
noncomputable def F_civil_Date : List Dat → Option (List Dat) := fun ds_0 =>
  onI ds_0 fun days_0 ds_1 =>
  Option.bind (bif (decide (days_0 < (-730485719528))) then (some true) else
   (bif (decide (730484280837 < days_0)) then (some true) else
    (some false))) fun b_0 =>
  bif b_0 then (some [(.i 0), (.i 0), (.i 0), (.i 3)]) else
  (Option.bind (F_civil_floor [(.i (i64 (days_0 - (-719468)))), (.i 146097)]) fun r_0 =>
   onI r_0 fun i_0 ds_2 =>
   Option.bind (F_civil_fromMarch [(.i (i64 ((i64 ((i64 (days_0 - (-719468))) - (i64 (i_0 * 146097)))) - (i64 ((i64 ((i64 (365 * (i64 (Int.tdiv (i64 ((i64 ((i64 ((i64 ((i64 (days_0 - (-719468))) - (i64 (i_0 * 146097)))) - (i64 (Int.tdiv (i64 ((i64 (days_0 - (-719468))) - (i64 (i_0 * 146097)))) 1460)))) + (i64 (Int.tdiv (i64 ((i64 (days_0 - (-719468))) - (i64 (i_0 * 146097)))) 36524)))) - (i64 (Int.tdiv (i64 ((i64 (days_0 - (-719468))) - (i64 (i_0 * 146097)))) 146096)))) 365)))) + (i64 (Int.tdiv (i64 (Int.tdiv (i64 ((i64 ((i64 ((i64 ((i64 (days_0 - (-719468))) - (i64 (i_0 * 146097)))) - (i64 (Int.tdiv (i64 ((i64 (days_0 - (-719468))) - (i64 (i_0 * 146097)))) 1460)))) + (i64 (Int.tdiv (i64 ((i64 (days_0 - (-719468))) - (i64 (i_0 * 146097)))) 36524)))) - (i64 (Int.tdiv (i64 ((i64 (days_0 - (-719468))) - (i64 (i_0 * 146097)))) 146096)))) 365)) 4)))) - (i64 (Int.tdiv (i64 (Int.tdiv (i64 ((i64 ((i64 ((i64 ((i64 (days_0 - (-719468))) - (i64 (i_0 * 146097)))) - (i64 (Int.tdiv (i64 ((i64 (days_0 - (-719468))) - (i64 (i_0 * 146097)))) 1460)))) + (i64 (Int.tdiv (i64 ((i64 (days_0 - (-719468))) - (i64 (i_0 * 146097)))) 36524)))) - (i64 (Int.tdiv (i64 ((i64 (days_0 - (-719468))) - (i64 (i_0 * 146097)))) 146096)))) 365)) 100)))))))]) fun r_1 =>
   onI r_1 fun i_1 ds_3 =>
   onI ds_3 fun i_2 ds_4 =>
   bif (decide (i_1 ≤ 2)) then (some [(.i (i64 ((i64 ((i64 (Int.tdiv (i64 ((i64 ((i64 ((i64 ((i64 (days_0 - (-719468))) - (i64 (i_0 * 146097)))) - (i64 (Int.tdiv (i64 ((i64 (days_0 - (-719468))) - (i64 (i_0 * 146097)))) 1460)))) + (i64 (Int.tdiv (i64 ((i64 (days_0 - (-719468))) - (i64 (i_0 * 146097)))) 36524)))) - (i64 (Int.tdiv (i64 ((i64 (days_0 - (-719468))) - (i64 (i_0 * 146097)))) 146096)))) 365)) + (i64 (i_0 * 400)))) + 1))), (.i i_1), (.i i_2), (.i 0)]) else
   (some [(.i (i64 ((i64 (Int.tdiv (i64 ((i64 ((i64 ((i64 ((i64 (days_0 - (-719468))) - (i64 (i_0 * 146097)))) - (i64 (Int.tdiv (i64 ((i64 (days_0 - (-719468))) - (i64 (i_0 * 146097)))) 1460)))) + (i64 (Int.tdiv (i64 ((i64 (days_0 - (-719468))) - (i64 (i_0 * 146097)))) 36524)))) - (i64 (Int.tdiv (i64 ((i64 (days_0 - (-719468))) - (i64 (i_0 * 146097)))) 146096)))) 365)) + (i64 (i_0 * 400))))), (.i i_1), (.i i_2), (.i 0)]))
noncomputable def F_civil_Year : List Dat → Option (List Dat) := fun ds_0 =>
  onI ds_0 fun t_0 ds_1 =>
  Option.bind (F_civil_floor [(.i t_0), (.i 86400)]) fun r_0 =>
  onI r_0 fun i_0 ds_2 =>
  Option.bind (F_civil_Date [(.i (if 730484280837 < (if (-730485719528) > i_0 then (-730485719528) else i_0) then 730484280837 else (if (-730485719528) > i_0 then (-730485719528) else i_0)))]) fun r_1 =>
  onI r_1 fun i_1 ds_3 =>
  onI ds_3 fun i_2 ds_4 =>
  onI ds_4 fun i_3 ds_5 =>
  onI ds_5 fun i_4 ds_6 =>
  some [(.i i_1)]
noncomputable def F_cmp_isNaN : List Dat → Option (List Dat) := fun ds_0 =>
  onI ds_0 fun x_0 ds_1 =>
  Option.bind (bif (!decide (x_0 = x_0)) then (some true) else
   (some false)) fun b_0 =>
  some [(.b b_0)]
noncomputable def F_cmp_Compare : List Dat → Option (List Dat) := fun ds_0 =>
  onI ds_0 fun x_0 ds_1 =>
  onI ds_1 fun y_0 ds_2 =>
  Option.bind (F_cmp_isNaN [(.i x_0)]) fun r_0 =>
  onB r_0 fun b_0 ds_3 =>
  Option.bind (F_cmp_isNaN [(.i y_0)]) fun r_1 =>
  onB r_1 fun b_1 ds_4 =>
  bif b_0 then (bif b_1 then (some [(.i 0)]) else
   (some [(.i (-1))])) else
  (bif b_1 then (some [(.i 1)]) else
   (bif (decide (x_0 < y_0)) then (some [(.i (-1))]) else
    (bif (decide (y_0 < x_0)) then (some [(.i 1)]) else
     (some [(.i 0)]))))
noncomputable def F_cmp_isNaN_2 : List Dat → Option (List Dat) := fun ds_0 =>
  onI ds_0 fun x_0 ds_1 =>
  Option.bind (bif (!decide (x_0 = x_0)) then (some true) else
   (some false)) fun b_0 =>
  some [(.b b_0)]
noncomputable def F_cmp_Compare_2 : List Dat → Option (List Dat) := fun ds_0 =>
  onI ds_0 fun x_0 ds_1 =>
  onI ds_1 fun y_0 ds_2 =>
  Option.bind (F_cmp_isNaN_2 [(.i x_0)]) fun r_0 =>
  onB r_0 fun b_0 ds_3 =>
  Option.bind (F_cmp_isNaN_2 [(.i y_0)]) fun r_1 =>
  onB r_1 fun b_1 ds_4 =>
  bif b_0 then (bif b_1 then (some [(.i 0)]) else
   (some [(.i (-1))])) else
  (bif b_1 then (some [(.i 1)]) else
   (bif (decide (x_0 < y_0)) then (some [(.i (-1))]) else
    (bif (decide (y_0 < x_0)) then (some [(.i 1)]) else
     (some [(.i 0)]))))
noncomputable def F_cmp_Or_L0 : List Dat → Option (List Dat ⊕ List Dat) := fun ds_3 =>
  onN ds_3 fun vn_0 ds_4 =>
  onL ds_4 fun vl_0 ds_5 =>
  onI ds_5 fun v_0 ds_6 =>
  onI ds_6 fun v_1 ds_7 =>
  bif (decide (v_1 < v_0)) then (bif (decide ((0 ≤ v_1) ∧ (v_1 < ((vn_0 : Nat) : Int)))) then (Option.bind (asI .i64 (vl_0)[(v_1).toNat]?) fun x_0 =>
   bif (!decide (x_0 = 0)) then (Option.map .inr (some [(.i x_0)])) else
   (some (.inl [(.n vn_0), (.l vl_0), (.i v_0), (.i (i64 (v_1 + 1)))]))) else none) else
  (Option.map .inr (some [(.i 0)]))
noncomputable def F_cmp_Or : List Dat → Option (List Dat) := fun ds_0 =>
  onN ds_0 fun valsn_0 ds_1 =>
  onL ds_1 fun valsl_0 ds_2 =>
  iter F_cmp_Or_L0 [(.n valsn_0), (.l valsl_0), (.i ((valsn_0 : Nat) : Int)), (.i 0)]
noncomputable def F_events_compare : List Dat → Option (List Dat) := fun ds_0 =>
  onI ds_0 fun a_0 ds_1 =>
  onI ds_1 fun a_1 ds_2 =>
  onI ds_2 fun a_2 ds_3 =>
  onI ds_3 fun b_0 ds_4 =>
  onI ds_4 fun b_1 ds_5 =>
  onI ds_5 fun b_2 ds_6 =>
  Option.bind (F_cmp_Compare [(.i a_2), (.i b_2)]) fun r_0 =>
  onI r_0 fun i_0 ds_7 =>
  Option.bind (F_cmp_Compare_2 [(.i a_1), (.i b_1)]) fun r_1 =>
  onI r_1 fun i_1 ds_8 =>
  Option.bind (F_cmp_Compare [(.i a_0), (.i b_0)]) fun r_2 =>
  onI r_2 fun i_2 ds_9 =>
  bif (decide (3 ≤ ([(Ax.AV.int .i64 (Ax.I.sym i_0)), (Ax.AV.int .i64 (Ax.I.sym i_1)), (Ax.AV.int .i64 (Ax.I.sym i_2))]).length)) then (Option.bind (F_cmp_Or [(.n 3), (.l [(Ax.AV.int .i64 (Ax.I.sym i_0)), (Ax.AV.int .i64 (Ax.I.sym i_1)), (Ax.AV.int .i64 (Ax.I.sym i_2))])]) fun r_3 =>
   onI r_3 fun i_3 ds_10 =>
   some [(.i i_3)]) else
  (none)
noncomputable def F_state_baseSave_L0 : List Dat → Option (List Dat ⊕ List Dat) := fun ds_3 =>
  onI ds_3 fun least_0 ds_4 =>
  onN ds_4 fun vn_0 ds_5 =>
  onL ds_5 fun vl_0 ds_6 =>
  onI ds_6 fun v_0 ds_7 =>
  onI ds_7 fun v_1 ds_8 =>
  bif (decide (v_1 < v_0)) then (bif (decide ((0 ≤ v_1) ∧ (v_1 < ((vn_0 : Nat) : Int)))) then (Option.bind (asS ((List.drop ((v_1).toNat * 11) vl_0))[0]?) fun s_0 =>
   Option.bind (asI .i64 ((List.drop 1 (List.drop ((v_1).toNat * 11) vl_0)))[0]?) fun x_0 =>
   Option.bind (asI .i64 ((List.drop 1 (List.drop 1 (List.drop ((v_1).toNat * 11) vl_0))))[0]?) fun x_1 =>
   Option.bind (asI .i64 ((List.drop 1 (List.drop 1 (List.drop 1 (List.drop ((v_1).toNat * 11) vl_0)))))[0]?) fun x_2 =>
   Option.bind (asI .i64 ((List.drop 1 (List.drop 1 (List.drop 1 (List.drop 1 (List.drop ((v_1).toNat * 11) vl_0))))))[0]?) fun x_3 =>
   Option.bind (asI .i64 ((List.drop 1 (List.drop 1 (List.drop 1 (List.drop 1 (List.drop 1 (List.drop ((v_1).toNat * 11) vl_0)))))))[0]?) fun x_4 =>
   Option.bind (asI .i64 ((List.drop 1 (List.drop 1 (List.drop 1 (List.drop 1 (List.drop 1 (List.drop 1 (List.drop ((v_1).toNat * 11) vl_0))))))))[0]?) fun x_5 =>
   Option.bind (asI .i64 ((List.drop 1 (List.drop 1 (List.drop 1 (List.drop 1 (List.drop 1 (List.drop 1 (List.drop 1 (List.drop ((v_1).toNat * 11) vl_0)))))))))[0]?) fun x_6 =>
   Option.bind (asI .i64 ((List.drop 1 (List.drop 1 (List.drop 1 (List.drop 1 (List.drop 1 (List.drop 1 (List.drop 1 (List.drop 1 (List.drop ((v_1).toNat * 11) vl_0))))))))))[0]?) fun x_7 =>
   Option.bind (asI .i64 ((List.drop 1 (List.drop 1 (List.drop 1 (List.drop 1 (List.drop 1 (List.drop 1 (List.drop 1 (List.drop 1 (List.drop 1 (List.drop ((v_1).toNat * 11) vl_0)))))))))))[0]?) fun x_8 =>
   Option.bind (asS ((List.drop 1 (List.drop 1 (List.drop 1 (List.drop 1 (List.drop 1 (List.drop 1 (List.drop 1 (List.drop 1 (List.drop 1 (List.drop 1 (List.drop ((v_1).toNat * 11) vl_0))))))))))))[0]?) fun s_1 =>
   some (.inl [(.i (if x_8 < least_0 then x_8 else least_0)), (.n vn_0), (.l vl_0), (.i v_0), (.i (i64 (v_1 + 1)))])) else none) else
  (Option.map .inr (some [(.i (if (-10800) > least_0 then (-10800) else least_0))]))
noncomputable def F_state_baseSave : List Dat → Option (List Dat) := fun ds_0 =>
  onN ds_0 fun ln_0 ds_1 =>
  onL ds_1 fun ll_0 ds_2 =>
  iter F_state_baseSave_L0 [(.i 0), (.n ln_0), (.l ll_0), (.i ((ln_0 : Nat) : Int)), (.i 0)]
noncomputable def F_state_behind : List Dat → Option (List Dat) := fun ds_0 =>
  onN ds_0 fun ln_0 ds_1 =>
  onL ds_1 fun ll_0 ds_2 =>
  onI ds_2 fun e_0 ds_3 =>
  onI ds_3 fun e_1 ds_4 =>
  onI ds_4 fun e_2 ds_5 =>
  bif (decide ((0 ≤ e_1) ∧ (e_1 < ((ln_0 : Nat) : Int)))) then (Option.bind (asI .i64 (ll_0)[(((e_1).toNat * 11) + 9)]?) fun x_0 =>
  bif (decide ((0 ≤ e_1) ∧ (e_1 < ((ln_0 : Nat) : Int)))) then (Option.bind (asS (ll_0)[(((e_1).toNat * 11) + 10)]?) fun s_0 =>
  some [(.i x_0), (.s s_0)]) else none) else none
noncomputable def F_until_saveBefore : List Dat → Option (List Dat) := fun ds_0 =>
  onI ds_0 fun e_0 ds_1 =>
  onI ds_1 fun e_1 ds_2 =>
  onI ds_2 fun e_2 ds_3 =>
  onS ds_3 fun e_3 ds_4 =>
  onS ds_4 fun e_4 ds_5 =>
  onB ds_5 fun e_5 ds_6 =>
  onI ds_6 fun e_6 ds_7 =>
  onI ds_7 fun e_7 ds_8 =>
  onI ds_8 fun e_8 ds_9 =>
  onI ds_9 fun e_9 ds_10 =>
  onI ds_10 fun e_10 ds_11 =>
  onI ds_11 fun e_11 ds_12 =>
  onI ds_12 fun e_12 ds_13 =>
  onN ds_13 fun ln_0 ds_14 =>
  onL ds_14 fun ll_0 ds_15 =>
  onI ds_15 fun nominal_0 ds_16 =>
  bif (decide (e_1 = 1)) then (some [(.i e_2)]) else
  (bif (decide (e_1 = 2)) then (Option.bind (F_events_baseSave [(.n ln_0), (.l ll_0)]) fun r_0 =>
    onI r_0 fun i_0 ds_17 =>
    Option.bind (F_civil_Year [(.i nominal_0)]) fun r_1 =>
    onI r_1 fun i_1 ds_18 =>
    none) else
   (some [(.i 0)]))
noncomputable def F_until_Instant : List Dat → Option (List Dat) := fun ds_0 =>
  onI ds_0 fun e_0 ds_1 =>
  onI ds_1 fun e_1 ds_2 =>
  onI ds_2 fun e_2 ds_3 =>
  onS ds_3 fun e_3 ds_4 =>
  onS ds_4 fun e_4 ds_5 =>
  onB ds_5 fun e_5 ds_6 =>
  onI ds_6 fun e_6 ds_7 =>
  onI ds_7 fun e_7 ds_8 =>
  onI ds_8 fun e_8 ds_9 =>
  onI ds_9 fun e_9 ds_10 =>
  onI ds_10 fun e_10 ds_11 =>
  onI ds_11 fun e_11 ds_12 =>
  onI ds_12 fun e_12 ds_13 =>
  onN ds_13 fun ln_0 ds_14 =>
  onL ds_14 fun ll_0 ds_15 =>
  Option.bind (bif (decide (e_1 < 0)) then (some true) else
   (bif (decide (2 < e_1)) then (some true) else
    (some false))) fun b_0 =>
  bif b_0 then (some [(.i 0), (.i 2)]) else
  (Option.bind (F_until_moderate [(.i e_0)]) fun r_0 =>
   onB r_0 fun b_1 ds_16 =>
   bif (!b_1) then (some [(.i 0), (.i 3)]) else
   (bif (decide (e_1 = 1)) then (Option.bind (F_until_moderate [(.i e_2)]) fun r_1 =>
     onB r_1 fun b_2 ds_17 =>
     bif (!b_2) then (some [(.i 0), (.i 3)]) else
     (Option.bind (F_until_baseSave [(.i e_0), (.i e_1), (.i e_2), (.s e_3), (.s e_4), (.b e_5), (.i e_6), (.i e_7), (.i e_8), (.i e_9), (.i e_10), (.i e_11), (.i e_12), (.n ln_0), (.l ll_0)]) fun r_2 =>
      onI r_2 fun i_0 ds_18 =>
      Option.bind (F_until_Nominal [(.b e_5), (.i e_6), (.i e_7), (.i e_8), (.i e_9), (.i e_10), (.i e_11), (.i e_12), (.i i_0)]) fun r_3 =>
      onI r_3 fun i_1 ds_19 =>
      onI ds_19 fun i_2 ds_20 =>
      bif (!decide (i_2 = 0)) then (some [(.i 0), (.i i_2)]) else
      (Option.bind (F_until_saveBefore [(.i e_0), (.i e_1), (.i e_2), (.s e_3), (.s e_4), (.b e_5), (.i e_6), (.i e_7), (.i e_8), (.i e_9), (.i e_10), (.i e_11), (.i e_12), (.n ln_0), (.l ll_0), (.i i_1)]) fun r_4 =>
       onI r_4 fun i_3 ds_21 =>
       Option.bind (F_until_moderate [(.i i_3)]) fun r_5 =>
       onB r_5 fun b_3 ds_22 =>
       bif (!b_3) then (some [(.i 0), (.i 3)]) else
       (bif (decide (e_12 = 1)) then (bif (decide (e_12 = 0)) then (some [(.i (i64 ((i64 ((i64 (i_1 - i_0)) - i_3)) - e_0))), (.i 0)]) else
         (bif (decide (e_12 = 1)) then (some [(.i (i64 ((i64 (i_1 - i_0)) - e_0))), (.i 0)]) else
          (some [(.i (i64 (i_1 - i_0))), (.i 0)]))) else
        (bif (decide (e_12 = 0)) then (some [(.i (i64 ((i64 (i_1 - i_3)) - e_0))), (.i 0)]) else
         (bif (decide (e_12 = 1)) then (some [(.i (i64 (i_1 - e_0))), (.i 0)]) else
          (some [(.i i_1), (.i 0)]))))))) else
    (Option.bind (F_until_baseSave [(.i e_0), (.i e_1), (.i e_2), (.s e_3), (.s e_4), (.b e_5), (.i e_6), (.i e_7), (.i e_8), (.i e_9), (.i e_10), (.i e_11), (.i e_12), (.n ln_0), (.l ll_0)]) fun r_6 =>
     onI r_6 fun i_4 ds_23 =>
     Option.bind (F_until_Nominal [(.b e_5), (.i e_6), (.i e_7), (.i e_8), (.i e_9), (.i e_10), (.i e_11), (.i e_12), (.i i_4)]) fun r_7 =>
     onI r_7 fun i_5 ds_24 =>
     onI ds_24 fun i_6 ds_25 =>
     bif (!decide (i_6 = 0)) then (some [(.i 0), (.i i_6)]) else
     (Option.bind (F_until_saveBefore [(.i e_0), (.i e_1), (.i e_2), (.s e_3), (.s e_4), (.b e_5), (.i e_6), (.i e_7), (.i e_8), (.i e_9), (.i e_10), (.i e_11), (.i e_12), (.n ln_0), (.l ll_0), (.i i_5)]) fun r_8 =>
      onI r_8 fun i_7 ds_26 =>
      Option.bind (F_until_moderate [(.i i_7)]) fun r_9 =>
      onB r_9 fun b_4 ds_27 =>
      bif (!b_4) then (some [(.i 0), (.i 3)]) else
      (bif (decide (e_12 = 1)) then (bif (decide (e_12 = 0)) then (some [(.i (i64 ((i64 ((i64 (i_5 - i_4)) - i_7)) - e_0))), (.i 0)]) else
        (bif (decide (e_12 = 1)) then (some [(.i (i64 ((i64 (i_5 - i_4)) - e_0))), (.i 0)]) else
         (some [(.i (i64 (i_5 - i_4))), (.i 0)]))) else
       (bif (decide (e_12 = 0)) then (some [(.i (i64 ((i64 (i_5 - i_7)) - e_0))), (.i 0)]) else
        (bif (decide (e_12 = 1)) then (some [(.i (i64 (i_5 - e_0))), (.i 0)]) else
         (some [(.i i_5), (.i 0)]))))))))
noncomputable def F_until_Check : List Dat → Option (List Dat) := fun ds_0 =>
  onB ds_0 fun u_0 ds_1 =>
  onI ds_1 fun u_1 ds_2 =>
  onI ds_2 fun u_2 ds_3 =>
  onI ds_3 fun u_3 ds_4 =>
  onI ds_4 fun u_4 ds_5 =>
  onI ds_5 fun u_5 ds_6 =>
  onI ds_6 fun u_6 ds_7 =>
  onI ds_7 fun u_7 ds_8 =>
  onI ds_8 fun least_0 ds_9 =>
  Option.bind (F_until_Nominal [(.b u_0), (.i u_1), (.i u_2), (.i u_3), (.i u_4), (.i u_5), (.i u_6), (.i u_7), (.i least_0)]) fun r_0 =>
  onI r_0 fun i_0 ds_10 =>
  onI ds_10 fun i_1 ds_11 =>
  some [(.i i_1)]
noncomputable def F_law22_end : List Dat → Option (List Dat) := fun ds_0 =>
  onI ds_0 fun y_0 ds_1 =>
  onI ds_1 fun m_0 ds_2 =>
  onI ds_2 fun d_0 ds_3 =>
  onI ds_3 fun sec_0 ds_4 =>
  onI ds_4 fun base_0 ds_5 =>
  some [(.b true), (.i y_0), (.i m_0), (.i 1), (.i 0), (.i d_0), (.i sec_0), (.i base_0)]
noncomputable def F_law22_ends : List Dat → Option (List Dat) := fun ds_0 =>
  onI ds_0 fun e_0 ds_1 =>
  onI ds_1 fun e_1 ds_2 =>
  onI ds_2 fun e_2 ds_3 =>
  onS ds_3 fun e_3 ds_4 =>
  onS ds_4 fun e_4 ds_5 =>
  onB ds_5 fun e_5 ds_6 =>
  onI ds_6 fun e_6 ds_7 =>
  onI ds_7 fun e_7 ds_8 =>
  onI ds_8 fun e_8 ds_9 =>
  onI ds_9 fun e_9 ds_10 =>
  onI ds_10 fun e_10 ds_11 =>
  onI ds_11 fun e_11 ds_12 =>
  onI ds_12 fun e_12 ds_13 =>
  onI ds_13 fun want_0 ds_14 =>
  Option.bind (F_until_Instant [(.i e_0), (.i e_1), (.i e_2), (.s e_3), (.s e_4), (.b e_5), (.i e_6), (.i e_7), (.i e_8), (.i e_9), (.i e_10), (.i e_11), (.i e_12), (.n 0), (.l [])]) fun r_0 =>
  onI r_0 fun i_0 ds_15 =>
  onI ds_15 fun i_1 ds_16 =>
  Option.bind (bif (decide (i_1 = 0)) then (bif (decide (i_0 = want_0)) then (some true) else
    (some false)) else
   (some false)) fun b_0 =>
  some [(.b b_0)]
noncomputable def F_law22_works : List Dat → Option (List Dat) := fun _ => some [.b true]
noncomputable def F_law22_UntilRefuses : List Dat → Option (List Dat) := fun ds_0 =>
  onI ds_0 fun d_0 ds_1 =>
  onI ds_1 fun d_1 ds_2 =>
  onI ds_2 fun d_2 ds_3 =>
  onI ds_3 fun d_3 ds_4 =>
  onI ds_4 fun d_4 ds_5 =>
  onI ds_5 fun d_5 ds_6 =>
  onI ds_6 fun d_6 ds_7 =>
  onI ds_7 fun what_0 ds_8 =>
  onI ds_8 fun far_0 ds_9 =>
  Option.bind (F__law22_Draft__Made [(.i d_0), (.i d_1), (.i d_2), (.i d_3), (.i d_4), (.i d_5), (.i d_6), (.i 0)]) fun r_0 =>
  onB r_0 fun b_0 ds_10 =>
  onI ds_10 fun i_0 ds_11 =>
  onI ds_11 fun i_1 ds_12 =>
  onI ds_12 fun i_2 ds_13 =>
  onI ds_13 fun i_3 ds_14 =>
  onI ds_14 fun i_4 ds_15 =>
  onI ds_15 fun i_5 ds_16 =>
  onI ds_16 fun i_6 ds_17 =>
  bif (decide ((Int.tmod what_0 10) = 0)) then (Option.bind (F_until_Nominal [(.b false), (.i i_0), (.i i_1), (.i i_2), (.i i_3), (.i i_4), (.i i_5), (.i i_6), (.i 0)]) fun r_1 =>
   onI r_1 fun i_7 ds_18 =>
   onI ds_18 fun i_8 ds_19 =>
   Option.bind (F_until_Instant [(.i 0), (.i 0), (.i 0), (.s ([] : List UInt8)), (.s ([] : List UInt8)), (.b false), (.i i_0), (.i i_1), (.i i_2), (.i i_3), (.i i_4), (.i i_5), (.i i_6), (.n 0), (.l [])]) fun r_2 =>
   onI r_2 fun i_9 ds_20 =>
   onI ds_20 fun i_10 ds_21 =>
   Option.bind (F_until_Check [(.b false), (.i i_0), (.i i_1), (.i i_2), (.i i_3), (.i i_4), (.i i_5), (.i i_6), (.i 0)]) fun r_3 =>
   onI r_3 fun i_11 ds_22 =>
   bif (!decide (i_11 = 4)) then (some [(.b false)]) else
   (bif (!decide (i_7 = 0)) then (some [(.b false)]) else
    (bif (!decide (i_8 = 4)) then (some [(.b false)]) else
     (bif (!decide (i_9 = 0)) then (some [(.b false)]) else
      (bif (!decide (i_10 = 4)) then (some [(.b false)]) else
       (Option.bind (F_until_Check [(.b false), (.i i_0), (.i i_1), (.i i_2), (.i i_3), (.i i_4), (.i i_5), (.i i_6), (.i (i64 (1 + (i64 far_0))))]) fun r_4 =>
        onI r_4 fun i_12 ds_23 =>
        bif (!decide (i_12 = 2)) then (some [(.b false)]) else
        (Option.bind (F_until_Check [(.b false), (.i i_0), (.i i_1), (.i i_2), (.i i_3), (.i i_4), (.i i_5), (.i i_6), (.i (i64 ((-10801) - (i64 far_0))))]) fun r_5 =>
         onI r_5 fun i_13 ds_24 =>
         bif (!decide (i_13 = 2)) then (some [(.b false)]) else
         (Option.bind (F__law22_Draft__Made [(.i d_0), (.i d_1), (.i d_2), (.i d_3), (.i d_4), (.i d_5), (.i d_6), (.i 0)]) fun r_6 =>
          onB r_6 fun b_1 ds_25 =>
          onI ds_25 fun i_14 ds_26 =>
          onI ds_26 fun i_15 ds_27 =>
          onI ds_27 fun i_16 ds_28 =>
          onI ds_28 fun i_17 ds_29 =>
          onI ds_29 fun i_18 ds_30 =>
          onI ds_30 fun i_19 ds_31 =>
          onI ds_31 fun i_20 ds_32 =>
          Option.bind (F_until_Instant [(.i (i64 (604800 + (i64 far_0)))), (.i 0), (.i 0), (.s ([] : List UInt8)), (.s ([] : List UInt8)), (.b b_1), (.i i_14), (.i i_15), (.i i_16), (.i i_17), (.i i_18), (.i i_19), (.i i_20), (.n 0), (.l [])]) fun r_7 =>
          onI r_7 fun i_21 ds_33 =>
          onI ds_33 fun i_22 ds_34 =>
          bif (!decide (i_22 = 3)) then (some [(.b false)]) else
          (Option.bind (F_until_Instant [(.i (i64 ((-604800) - (i64 far_0)))), (.i 0), (.i 0), (.s ([] : List UInt8)), (.s ([] : List UInt8)), (.b false), (.i i_0), (.i i_1), (.i i_2), (.i i_3), (.i i_4), (.i i_5), (.i i_6), (.n 0), (.l [])]) fun r_8 =>
           onI r_8 fun i_23 ds_35 =>
           onI ds_35 fun i_24 ds_36 =>
           bif (!decide (i_24 = 3)) then (some [(.b false)]) else
           (Option.bind (F_until_Instant [(.i 0), (.i 1), (.i (i64 (604800 + (i64 far_0)))), (.s ([] : List UInt8)), (.s ([] : List UInt8)), (.b b_1), (.i i_14), (.i i_15), (.i i_16), (.i i_17), (.i i_18), (.i i_19), (.i i_20), (.n 0), (.l [])]) fun r_9 =>
            onI r_9 fun i_25 ds_37 =>
            onI ds_37 fun i_26 ds_38 =>
            bif (!decide (i_26 = 3)) then (some [(.b false)]) else
            (Option.bind (F_until_Instant [(.i (-1152921504606846976)), (.i (i64 (3 + (i64 far_0)))), (.i 0), (.s ([] : List UInt8)), (.s ([] : List UInt8)), (.b b_1), (.i i_14), (.i i_15), (.i i_16), (.i i_17), (.i i_18), (.i i_19), (.i i_20), (.n 0), (.l [])]) fun r_10 =>
             onI r_10 fun i_27 ds_39 =>
             onI ds_39 fun i_28 ds_40 =>
             Option.bind (F_until_Instant [(.i 0), (.i (i64 ((-1) - (i64 far_0)))), (.i 0), (.s ([] : List UInt8)), (.s ([] : List UInt8)), (.b false), (.i i_0), (.i i_1), (.i i_2), (.i i_3), (.i i_4), (.i i_5), (.i i_6), (.n 0), (.l [])]) fun r_11 =>
             onI r_11 fun i_29 ds_41 =>
             onI ds_41 fun i_30 ds_42 =>
             bif (decide (i_28 = 2)) then (bif (decide (i_30 = 2)) then (Option.bind (F_law22_works []) fun r_12 =>
               onB r_12 fun b_2 ds_43 =>
               some [(.b b_2)]) else
              (some [(.b false)])) else
             (some [(.b false)])))))))))))) else
  (bif (decide ((Int.tmod what_0 10) = 1)) then (Option.bind (F_until_Nominal [(.b b_0), (.i (i64 (1849 - (i64 far_0)))), (.i i_1), (.i i_2), (.i i_3), (.i i_4), (.i i_5), (.i i_6), (.i 0)]) fun r_13 =>
    onI r_13 fun i_31 ds_44 =>
    onI ds_44 fun i_32 ds_45 =>
    Option.bind (F_until_Instant [(.i 0), (.i 0), (.i 0), (.s ([] : List UInt8)), (.s ([] : List UInt8)), (.b b_0), (.i (i64 (1849 - (i64 far_0)))), (.i i_1), (.i i_2), (.i i_3), (.i i_4), (.i i_5), (.i i_6), (.n 0), (.l [])]) fun r_14 =>
    onI r_14 fun i_33 ds_46 =>
    onI ds_46 fun i_34 ds_47 =>
    Option.bind (F_until_Check [(.b b_0), (.i (i64 (1849 - (i64 far_0)))), (.i i_1), (.i i_2), (.i i_3), (.i i_4), (.i i_5), (.i i_6), (.i 0)]) fun r_15 =>
    onI r_15 fun i_35 ds_48 =>
    bif (!decide (i_35 = 3)) then (some [(.b false)]) else
    (bif (!decide (i_31 = 0)) then (some [(.b false)]) else
     (bif (!decide (i_32 = 3)) then (some [(.b false)]) else
      (bif (!decide (i_33 = 0)) then (some [(.b false)]) else
       (bif (!decide (i_34 = 3)) then (some [(.b false)]) else
        (Option.bind (F_until_Check [(.b b_0), (.i (i64 (1849 - (i64 far_0)))), (.i i_1), (.i i_2), (.i i_3), (.i i_4), (.i i_5), (.i i_6), (.i (i64 (1 + (i64 far_0))))]) fun r_16 =>
         onI r_16 fun i_36 ds_49 =>
         bif (!decide (i_36 = 2)) then (some [(.b false)]) else
         (Option.bind (F_until_Check [(.b b_0), (.i (i64 (1849 - (i64 far_0)))), (.i i_1), (.i i_2), (.i i_3), (.i i_4), (.i i_5), (.i i_6), (.i (i64 ((-10801) - (i64 far_0))))]) fun r_17 =>
          onI r_17 fun i_37 ds_50 =>
          bif (!decide (i_37 = 2)) then (some [(.b false)]) else
          (Option.bind (F__law22_Draft__Made [(.i d_0), (.i d_1), (.i d_2), (.i d_3), (.i d_4), (.i d_5), (.i d_6), (.i 0)]) fun r_18 =>
           onB r_18 fun b_3 ds_51 =>
           onI ds_51 fun i_38 ds_52 =>
           onI ds_52 fun i_39 ds_53 =>
           onI ds_53 fun i_40 ds_54 =>
           onI ds_54 fun i_41 ds_55 =>
           onI ds_55 fun i_42 ds_56 =>
           onI ds_56 fun i_43 ds_57 =>
           onI ds_57 fun i_44 ds_58 =>
           Option.bind (F_until_Instant [(.i (i64 (604800 + (i64 far_0)))), (.i 0), (.i 0), (.s ([] : List UInt8)), (.s ([] : List UInt8)), (.b b_3), (.i i_38), (.i i_39), (.i i_40), (.i i_41), (.i i_42), (.i i_43), (.i i_44), (.n 0), (.l [])]) fun r_19 =>
           onI r_19 fun i_45 ds_59 =>
           onI ds_59 fun i_46 ds_60 =>
           bif (!decide (i_46 = 3)) then (some [(.b false)]) else
           (Option.bind (F_until_Instant [(.i (i64 ((-604800) - (i64 far_0)))), (.i 0), (.i 0), (.s ([] : List UInt8)), (.s ([] : List UInt8)), (.b b_0), (.i (i64 (1849 - (i64 far_0)))), (.i i_1), (.i i_2), (.i i_3), (.i i_4), (.i i_5), (.i i_6), (.n 0), (.l [])]) fun r_20 =>
            onI r_20 fun i_47 ds_61 =>
            onI ds_61 fun i_48 ds_62 =>
            bif (!decide (i_48 = 3)) then (some [(.b false)]) else
            (Option.bind (F_until_Instant [(.i 0), (.i 1), (.i (i64 (604800 + (i64 far_0)))), (.s ([] : List UInt8)), (.s ([] : List UInt8)), (.b b_3), (.i i_38), (.i i_39), (.i i_40), (.i i_41), (.i i_42), (.i i_43), (.i i_44), (.n 0), (.l [])]) fun r_21 =>
             onI r_21 fun i_49 ds_63 =>
             onI ds_63 fun i_50 ds_64 =>
             bif (!decide (i_50 = 3)) then (some [(.b false)]) else
             (Option.bind (F_until_Instant [(.i (-1152921504606846976)), (.i (i64 (3 + (i64 far_0)))), (.i 0), (.s ([] : List UInt8)), (.s ([] : List UInt8)), (.b b_3), (.i i_38), (.i i_39), (.i i_40), (.i i_41), (.i i_42), (.i i_43), (.i i_44), (.n 0), (.l [])]) fun r_22 =>
              onI r_22 fun i_51 ds_65 =>
              onI ds_65 fun i_52 ds_66 =>
              Option.bind (F_until_Instant [(.i 0), (.i (i64 ((-1) - (i64 far_0)))), (.i 0), (.s ([] : List UInt8)), (.s ([] : List UInt8)), (.b b_0), (.i (i64 (1849 - (i64 far_0)))), (.i i_1), (.i i_2), (.i i_3), (.i i_4), (.i i_5), (.i i_6), (.n 0), (.l [])]) fun r_23 =>
              onI r_23 fun i_53 ds_67 =>
              onI ds_67 fun i_54 ds_68 =>
              bif (decide (i_52 = 2)) then (bif (decide (i_54 = 2)) then (Option.bind (F_law22_works []) fun r_24 =>
                onB r_24 fun b_4 ds_69 =>
                some [(.b b_4)]) else
               (some [(.b false)])) else
              (some [(.b false)])))))))))))) else
   (bif (decide ((Int.tmod what_0 10) = 2)) then (Option.bind (F_until_Nominal [(.b b_0), (.i (i64 (2150 + (i64 far_0)))), (.i i_1), (.i i_2), (.i i_3), (.i i_4), (.i i_5), (.i i_6), (.i 0)]) fun r_25 =>
     onI r_25 fun i_55 ds_70 =>
     onI ds_70 fun i_56 ds_71 =>
     Option.bind (F_until_Instant [(.i 0), (.i 0), (.i 0), (.s ([] : List UInt8)), (.s ([] : List UInt8)), (.b b_0), (.i (i64 (2150 + (i64 far_0)))), (.i i_1), (.i i_2), (.i i_3), (.i i_4), (.i i_5), (.i i_6), (.n 0), (.l [])]) fun r_26 =>
     onI r_26 fun i_57 ds_72 =>
     onI ds_72 fun i_58 ds_73 =>
     Option.bind (F_until_Check [(.b b_0), (.i (i64 (2150 + (i64 far_0)))), (.i i_1), (.i i_2), (.i i_3), (.i i_4), (.i i_5), (.i i_6), (.i 0)]) fun r_27 =>
     onI r_27 fun i_59 ds_74 =>
     bif (!decide (i_59 = 3)) then (some [(.b false)]) else
     (bif (!decide (i_55 = 0)) then (some [(.b false)]) else
      (bif (!decide (i_56 = 3)) then (some [(.b false)]) else
       (bif (!decide (i_57 = 0)) then (some [(.b false)]) else
        (bif (!decide (i_58 = 3)) then (some [(.b false)]) else
         (Option.bind (F_until_Check [(.b b_0), (.i (i64 (2150 + (i64 far_0)))), (.i i_1), (.i i_2), (.i i_3), (.i i_4), (.i i_5), (.i i_6), (.i (i64 (1 + (i64 far_0))))]) fun r_28 =>
          onI r_28 fun i_60 ds_75 =>
          bif (!decide (i_60 = 2)) then (some [(.b false)]) else
          (Option.bind (F_until_Check [(.b b_0), (.i (i64 (2150 + (i64 far_0)))), (.i i_1), (.i i_2), (.i i_3), (.i i_4), (.i i_5), (.i i_6), (.i (i64 ((-10801) - (i64 far_0))))]) fun r_29 =>
           onI r_29 fun i_61 ds_76 =>
           bif (!decide (i_61 = 2)) then (some [(.b false)]) else
           (Option.bind (F__law22_Draft__Made [(.i d_0), (.i d_1), (.i d_2), (.i d_3), (.i d_4), (.i d_5), (.i d_6), (.i 0)]) fun r_30 =>
            onB r_30 fun b_5 ds_77 =>
            onI ds_77 fun i_62 ds_78 =>
            onI ds_78 fun i_63 ds_79 =>
            onI ds_79 fun i_64 ds_80 =>
            onI ds_80 fun i_65 ds_81 =>
            onI ds_81 fun i_66 ds_82 =>
            onI ds_82 fun i_67 ds_83 =>
            onI ds_83 fun i_68 ds_84 =>
            Option.bind (F_until_Instant [(.i (i64 (604800 + (i64 far_0)))), (.i 0), (.i 0), (.s ([] : List UInt8)), (.s ([] : List UInt8)), (.b b_5), (.i i_62), (.i i_63), (.i i_64), (.i i_65), (.i i_66), (.i i_67), (.i i_68), (.n 0), (.l [])]) fun r_31 =>
            onI r_31 fun i_69 ds_85 =>
            onI ds_85 fun i_70 ds_86 =>
            bif (!decide (i_70 = 3)) then (some [(.b false)]) else
            (Option.bind (F_until_Instant [(.i (i64 ((-604800) - (i64 far_0)))), (.i 0), (.i 0), (.s ([] : List UInt8)), (.s ([] : List UInt8)), (.b b_0), (.i (i64 (2150 + (i64 far_0)))), (.i i_1), (.i i_2), (.i i_3), (.i i_4), (.i i_5), (.i i_6), (.n 0), (.l [])]) fun r_32 =>
             onI r_32 fun i_71 ds_87 =>
             onI ds_87 fun i_72 ds_88 =>
             bif (!decide (i_72 = 3)) then (some [(.b false)]) else
             (Option.bind (F_until_Instant [(.i 0), (.i 1), (.i (i64 (604800 + (i64 far_0)))), (.s ([] : List UInt8)), (.s ([] : List UInt8)), (.b b_5), (.i i_62), (.i i_63), (.i i_64), (.i i_65), (.i i_66), (.i i_67), (.i i_68), (.n 0), (.l [])]) fun r_33 =>
              onI r_33 fun i_73 ds_89 =>
              onI ds_89 fun i_74 ds_90 =>
              bif (!decide (i_74 = 3)) then (some [(.b false)]) else
              (Option.bind (F_until_Instant [(.i (-1152921504606846976)), (.i (i64 (3 + (i64 far_0)))), (.i 0), (.s ([] : List UInt8)), (.s ([] : List UInt8)), (.b b_5), (.i i_62), (.i i_63), (.i i_64), (.i i_65), (.i i_66), (.i i_67), (.i i_68), (.n 0), (.l [])]) fun r_34 =>
               onI r_34 fun i_75 ds_91 =>
               onI ds_91 fun i_76 ds_92 =>
               Option.bind (F_until_Instant [(.i 0), (.i (i64 ((-1) - (i64 far_0)))), (.i 0), (.s ([] : List UInt8)), (.s ([] : List UInt8)), (.b b_0), (.i (i64 (2150 + (i64 far_0)))), (.i i_1), (.i i_2), (.i i_3), (.i i_4), (.i i_5), (.i i_6), (.n 0), (.l [])]) fun r_35 =>
               onI r_35 fun i_77 ds_93 =>
               onI ds_93 fun i_78 ds_94 =>
               bif (decide (i_76 = 2)) then (bif (decide (i_78 = 2)) then (Option.bind (F_law22_works []) fun r_36 =>
                 onB r_36 fun b_6 ds_95 =>
                 some [(.b b_6)]) else
                (some [(.b false)])) else
               (some [(.b false)])))))))))))) else
    (bif (decide ((Int.tmod what_0 10) = 3)) then (bif (decide ((0 ≤ (Int.tmod (i64 far_0) 2)) ∧ ((Int.tmod (i64 far_0) 2) < 2))) then (Option.bind (asI .i64 ([(Ax.AV.int .i64 (Ax.I.sym (i64 (0 - (i64 far_0))))), (Ax.AV.int .i64 (Ax.I.sym (i64 (13 + (i64 far_0)))))])[((Int.tmod (i64 far_0) 2)).toNat]?) fun x_0 =>
      Option.bind (F_until_Nominal [(.b b_0), (.i i_0), (.i x_0), (.i i_2), (.i i_3), (.i i_4), (.i i_5), (.i i_6), (.i 0)]) fun r_37 =>
      onI r_37 fun i_79 ds_96 =>
      onI ds_96 fun i_80 ds_97 =>
      Option.bind (F_until_Instant [(.i 0), (.i 0), (.i 0), (.s ([] : List UInt8)), (.s ([] : List UInt8)), (.b b_0), (.i i_0), (.i x_0), (.i i_2), (.i i_3), (.i i_4), (.i i_5), (.i i_6), (.n 0), (.l [])]) fun r_38 =>
      onI r_38 fun i_81 ds_98 =>
      onI ds_98 fun i_82 ds_99 =>
      Option.bind (F_until_Check [(.b b_0), (.i i_0), (.i x_0), (.i i_2), (.i i_3), (.i i_4), (.i i_5), (.i i_6), (.i 0)]) fun r_39 =>
      onI r_39 fun i_83 ds_100 =>
      bif (!decide (i_83 = 3)) then (some [(.b false)]) else
      (bif (!decide (i_79 = 0)) then (some [(.b false)]) else
       (bif (!decide (i_80 = 3)) then (some [(.b false)]) else
        (bif (!decide (i_81 = 0)) then (some [(.b false)]) else
         (bif (!decide (i_82 = 3)) then (some [(.b false)]) else
          (Option.bind (F_until_Check [(.b b_0), (.i i_0), (.i x_0), (.i i_2), (.i i_3), (.i i_4), (.i i_5), (.i i_6), (.i (i64 (1 + (i64 far_0))))]) fun r_40 =>
           onI r_40 fun i_84 ds_101 =>
           bif (!decide (i_84 = 2)) then (some [(.b false)]) else
           (Option.bind (F_until_Check [(.b b_0), (.i i_0), (.i x_0), (.i i_2), (.i i_3), (.i i_4), (.i i_5), (.i i_6), (.i (i64 ((-10801) - (i64 far_0))))]) fun r_41 =>
            onI r_41 fun i_85 ds_102 =>
            bif (!decide (i_85 = 2)) then (some [(.b false)]) else
            (Option.bind (F__law22_Draft__Made [(.i d_0), (.i d_1), (.i d_2), (.i d_3), (.i d_4), (.i d_5), (.i d_6), (.i 0)]) fun r_42 =>
             onB r_42 fun b_7 ds_103 =>
             onI ds_103 fun i_86 ds_104 =>
             onI ds_104 fun i_87 ds_105 =>
             onI ds_105 fun i_88 ds_106 =>
             onI ds_106 fun i_89 ds_107 =>
             onI ds_107 fun i_90 ds_108 =>
             onI ds_108 fun i_91 ds_109 =>
             onI ds_109 fun i_92 ds_110 =>
             Option.bind (F_until_Instant [(.i (i64 (604800 + (i64 far_0)))), (.i 0), (.i 0), (.s ([] : List UInt8)), (.s ([] : List UInt8)), (.b b_7), (.i i_86), (.i i_87), (.i i_88), (.i i_89), (.i i_90), (.i i_91), (.i i_92), (.n 0), (.l [])]) fun r_43 =>
             onI r_43 fun i_93 ds_111 =>
             onI ds_111 fun i_94 ds_112 =>
             bif (!decide (i_94 = 3)) then (some [(.b false)]) else
             (Option.bind (F_until_Instant [(.i (i64 ((-604800) - (i64 far_0)))), (.i 0), (.i 0), (.s ([] : List UInt8)), (.s ([] : List UInt8)), (.b b_0), (.i i_0), (.i x_0), (.i i_2), (.i i_3), (.i i_4), (.i i_5), (.i i_6), (.n 0), (.l [])]) fun r_44 =>
              onI r_44 fun i_95 ds_113 =>
              onI ds_113 fun i_96 ds_114 =>
              bif (!decide (i_96 = 3)) then (some [(.b false)]) else
              (Option.bind (F_until_Instant [(.i 0), (.i 1), (.i (i64 (604800 + (i64 far_0)))), (.s ([] : List UInt8)), (.s ([] : List UInt8)), (.b b_7), (.i i_86), (.i i_87), (.i i_88), (.i i_89), (.i i_90), (.i i_91), (.i i_92), (.n 0), (.l [])]) fun r_45 =>
               onI r_45 fun i_97 ds_115 =>
               onI ds_115 fun i_98 ds_116 =>
               bif (!decide (i_98 = 3)) then (some [(.b false)]) else
               (Option.bind (F_until_Instant [(.i (-1152921504606846976)), (.i (i64 (3 + (i64 far_0)))), (.i 0), (.s ([] : List UInt8)), (.s ([] : List UInt8)), (.b b_7), (.i i_86), (.i i_87), (.i i_88), (.i i_89), (.i i_90), (.i i_91), (.i i_92), (.n 0), (.l [])]) fun r_46 =>
                onI r_46 fun i_99 ds_117 =>
                onI ds_117 fun i_100 ds_118 =>
                Option.bind (F_until_Instant [(.i 0), (.i (i64 ((-1) - (i64 far_0)))), (.i 0), (.s ([] : List UInt8)), (.s ([] : List UInt8)), (.b b_0), (.i i_0), (.i x_0), (.i i_2), (.i i_3), (.i i_4), (.i i_5), (.i i_6), (.n 0), (.l [])]) fun r_47 =>
                onI r_47 fun i_101 ds_119 =>
                onI ds_119 fun i_102 ds_120 =>
                bif (decide (i_100 = 2)) then (bif (decide (i_102 = 2)) then (Option.bind (F_law22_works []) fun r_48 =>
                  onB r_48 fun b_8 ds_121 =>
                  some [(.b b_8)]) else
                 (some [(.b false)])) else
                (some [(.b false)])))))))))))) else none) else
     (bif (decide ((Int.tmod what_0 10) = 4)) then (bif (decide ((0 ≤ (Int.tmod (i64 far_0) 5)) ∧ ((Int.tmod (i64 far_0) 5) < 5))) then (Option.bind (asI .i64 ([(Ax.AV.int .i64 (Ax.I.lit 2)), (Ax.AV.int .i64 (Ax.I.lit 4)), (Ax.AV.int .i64 (Ax.I.lit 6)), (Ax.AV.int .i64 (Ax.I.lit 9)), (Ax.AV.int .i64 (Ax.I.lit 11))])[((Int.tmod (i64 far_0) 5)).toNat]?) fun x_1 =>
       Option.bind (F_until_Nominal [(.b b_0), (.i i_0), (.i x_1), (.i 1), (.i 0), (.i 31), (.i i_5), (.i i_6), (.i 0)]) fun r_49 =>
       onI r_49 fun i_103 ds_122 =>
       onI ds_122 fun i_104 ds_123 =>
       Option.bind (F_until_Instant [(.i 0), (.i 0), (.i 0), (.s ([] : List UInt8)), (.s ([] : List UInt8)), (.b b_0), (.i i_0), (.i x_1), (.i 1), (.i 0), (.i 31), (.i i_5), (.i i_6), (.n 0), (.l [])]) fun r_50 =>
       onI r_50 fun i_105 ds_124 =>
       onI ds_124 fun i_106 ds_125 =>
       Option.bind (F_until_Check [(.b b_0), (.i i_0), (.i x_1), (.i 1), (.i 0), (.i 31), (.i i_5), (.i i_6), (.i 0)]) fun r_51 =>
       onI r_51 fun i_107 ds_126 =>
       bif (!decide (i_107 = 3)) then (some [(.b false)]) else
       (bif (!decide (i_103 = 0)) then (some [(.b false)]) else
        (bif (!decide (i_104 = 3)) then (some [(.b false)]) else
         (bif (!decide (i_105 = 0)) then (some [(.b false)]) else
          (bif (!decide (i_106 = 3)) then (some [(.b false)]) else
           (Option.bind (F_until_Check [(.b b_0), (.i i_0), (.i x_1), (.i 1), (.i 0), (.i 31), (.i i_5), (.i i_6), (.i (i64 (1 + (i64 far_0))))]) fun r_52 =>
            onI r_52 fun i_108 ds_127 =>
            bif (!decide (i_108 = 2)) then (some [(.b false)]) else
            (Option.bind (F_until_Check [(.b b_0), (.i i_0), (.i x_1), (.i 1), (.i 0), (.i 31), (.i i_5), (.i i_6), (.i (i64 ((-10801) - (i64 far_0))))]) fun r_53 =>
             onI r_53 fun i_109 ds_128 =>
             bif (!decide (i_109 = 2)) then (some [(.b false)]) else
             (Option.bind (F__law22_Draft__Made [(.i d_0), (.i d_1), (.i d_2), (.i d_3), (.i d_4), (.i d_5), (.i d_6), (.i 0)]) fun r_54 =>
              onB r_54 fun b_9 ds_129 =>
              onI ds_129 fun i_110 ds_130 =>
              onI ds_130 fun i_111 ds_131 =>
              onI ds_131 fun i_112 ds_132 =>
              onI ds_132 fun i_113 ds_133 =>
              onI ds_133 fun i_114 ds_134 =>
              onI ds_134 fun i_115 ds_135 =>
              onI ds_135 fun i_116 ds_136 =>
              Option.bind (F_until_Instant [(.i (i64 (604800 + (i64 far_0)))), (.i 0), (.i 0), (.s ([] : List UInt8)), (.s ([] : List UInt8)), (.b b_9), (.i i_110), (.i i_111), (.i i_112), (.i i_113), (.i i_114), (.i i_115), (.i i_116), (.n 0), (.l [])]) fun r_55 =>
              onI r_55 fun i_117 ds_137 =>
              onI ds_137 fun i_118 ds_138 =>
              bif (!decide (i_118 = 3)) then (some [(.b false)]) else
              (Option.bind (F_until_Instant [(.i (i64 ((-604800) - (i64 far_0)))), (.i 0), (.i 0), (.s ([] : List UInt8)), (.s ([] : List UInt8)), (.b b_0), (.i i_0), (.i x_1), (.i 1), (.i 0), (.i 31), (.i i_5), (.i i_6), (.n 0), (.l [])]) fun r_56 =>
               onI r_56 fun i_119 ds_139 =>
               onI ds_139 fun i_120 ds_140 =>
               bif (!decide (i_120 = 3)) then (some [(.b false)]) else
               (Option.bind (F_until_Instant [(.i 0), (.i 1), (.i (i64 (604800 + (i64 far_0)))), (.s ([] : List UInt8)), (.s ([] : List UInt8)), (.b b_9), (.i i_110), (.i i_111), (.i i_112), (.i i_113), (.i i_114), (.i i_115), (.i i_116), (.n 0), (.l [])]) fun r_57 =>
                onI r_57 fun i_121 ds_141 =>
                onI ds_141 fun i_122 ds_142 =>
                bif (!decide (i_122 = 3)) then (some [(.b false)]) else
                (Option.bind (F_until_Instant [(.i (-1152921504606846976)), (.i (i64 (3 + (i64 far_0)))), (.i 0), (.s ([] : List UInt8)), (.s ([] : List UInt8)), (.b b_9), (.i i_110), (.i i_111), (.i i_112), (.i i_113), (.i i_114), (.i i_115), (.i i_116), (.n 0), (.l [])]) fun r_58 =>
                 onI r_58 fun i_123 ds_143 =>
                 onI ds_143 fun i_124 ds_144 =>
                 Option.bind (F_until_Instant [(.i 0), (.i (i64 ((-1) - (i64 far_0)))), (.i 0), (.s ([] : List UInt8)), (.s ([] : List UInt8)), (.b b_0), (.i i_0), (.i x_1), (.i 1), (.i 0), (.i 31), (.i i_5), (.i i_6), (.n 0), (.l [])]) fun r_59 =>
                 onI r_59 fun i_125 ds_145 =>
                 onI ds_145 fun i_126 ds_146 =>
                 bif (decide (i_124 = 2)) then (bif (decide (i_126 = 2)) then (Option.bind (F_law22_works []) fun r_60 =>
                   onB r_60 fun b_10 ds_147 =>
                   some [(.b b_10)]) else
                  (some [(.b false)])) else
                 (some [(.b false)])))))))))))) else none) else
      (bif (decide ((Int.tmod what_0 10) = 5)) then (Option.bind (F_until_Nominal [(.b b_0), (.i i_0), (.i i_1), (.i (i64 (5 + (i64 far_0)))), (.i i_3), (.i i_4), (.i i_5), (.i i_6), (.i 0)]) fun r_61 =>
        onI r_61 fun i_127 ds_148 =>
        onI ds_148 fun i_128 ds_149 =>
        Option.bind (F_until_Instant [(.i 0), (.i 0), (.i 0), (.s ([] : List UInt8)), (.s ([] : List UInt8)), (.b b_0), (.i i_0), (.i i_1), (.i (i64 (5 + (i64 far_0)))), (.i i_3), (.i i_4), (.i i_5), (.i i_6), (.n 0), (.l [])]) fun r_62 =>
        onI r_62 fun i_129 ds_150 =>
        onI ds_150 fun i_130 ds_151 =>
        Option.bind (F_until_Check [(.b b_0), (.i i_0), (.i i_1), (.i (i64 (5 + (i64 far_0)))), (.i i_3), (.i i_4), (.i i_5), (.i i_6), (.i 0)]) fun r_63 =>
        onI r_63 fun i_131 ds_152 =>
        bif (!decide (i_131 = 3)) then (some [(.b false)]) else
        (bif (!decide (i_127 = 0)) then (some [(.b false)]) else
         (bif (!decide (i_128 = 3)) then (some [(.b false)]) else
          (bif (!decide (i_129 = 0)) then (some [(.b false)]) else
           (bif (!decide (i_130 = 3)) then (some [(.b false)]) else
            (Option.bind (F_until_Check [(.b b_0), (.i i_0), (.i i_1), (.i (i64 (5 + (i64 far_0)))), (.i i_3), (.i i_4), (.i i_5), (.i i_6), (.i (i64 (1 + (i64 far_0))))]) fun r_64 =>
             onI r_64 fun i_132 ds_153 =>
             bif (!decide (i_132 = 2)) then (some [(.b false)]) else
             (Option.bind (F_until_Check [(.b b_0), (.i i_0), (.i i_1), (.i (i64 (5 + (i64 far_0)))), (.i i_3), (.i i_4), (.i i_5), (.i i_6), (.i (i64 ((-10801) - (i64 far_0))))]) fun r_65 =>
              onI r_65 fun i_133 ds_154 =>
              bif (!decide (i_133 = 2)) then (some [(.b false)]) else
              (Option.bind (F__law22_Draft__Made [(.i d_0), (.i d_1), (.i d_2), (.i d_3), (.i d_4), (.i d_5), (.i d_6), (.i 0)]) fun r_66 =>
               onB r_66 fun b_11 ds_155 =>
               onI ds_155 fun i_134 ds_156 =>
               onI ds_156 fun i_135 ds_157 =>
               onI ds_157 fun i_136 ds_158 =>
               onI ds_158 fun i_137 ds_159 =>
               onI ds_159 fun i_138 ds_160 =>
               onI ds_160 fun i_139 ds_161 =>
               onI ds_161 fun i_140 ds_162 =>
               Option.bind (F_until_Instant [(.i (i64 (604800 + (i64 far_0)))), (.i 0), (.i 0), (.s ([] : List UInt8)), (.s ([] : List UInt8)), (.b b_11), (.i i_134), (.i i_135), (.i i_136), (.i i_137), (.i i_138), (.i i_139), (.i i_140), (.n 0), (.l [])]) fun r_67 =>
               onI r_67 fun i_141 ds_163 =>
               onI ds_163 fun i_142 ds_164 =>
               bif (!decide (i_142 = 3)) then (some [(.b false)]) else
               (Option.bind (F_until_Instant [(.i (i64 ((-604800) - (i64 far_0)))), (.i 0), (.i 0), (.s ([] : List UInt8)), (.s ([] : List UInt8)), (.b b_0), (.i i_0), (.i i_1), (.i (i64 (5 + (i64 far_0)))), (.i i_3), (.i i_4), (.i i_5), (.i i_6), (.n 0), (.l [])]) fun r_68 =>
                onI r_68 fun i_143 ds_165 =>
                onI ds_165 fun i_144 ds_166 =>
                bif (!decide (i_144 = 3)) then (some [(.b false)]) else
                (Option.bind (F_until_Instant [(.i 0), (.i 1), (.i (i64 (604800 + (i64 far_0)))), (.s ([] : List UInt8)), (.s ([] : List UInt8)), (.b b_11), (.i i_134), (.i i_135), (.i i_136), (.i i_137), (.i i_138), (.i i_139), (.i i_140), (.n 0), (.l [])]) fun r_69 =>
                 onI r_69 fun i_145 ds_167 =>
                 onI ds_167 fun i_146 ds_168 =>
                 bif (!decide (i_146 = 3)) then (some [(.b false)]) else
                 (Option.bind (F_until_Instant [(.i (-1152921504606846976)), (.i (i64 (3 + (i64 far_0)))), (.i 0), (.s ([] : List UInt8)), (.s ([] : List UInt8)), (.b b_11), (.i i_134), (.i i_135), (.i i_136), (.i i_137), (.i i_138), (.i i_139), (.i i_140), (.n 0), (.l [])]) fun r_70 =>
                  onI r_70 fun i_147 ds_169 =>
                  onI ds_169 fun i_148 ds_170 =>
                  Option.bind (F_until_Instant [(.i 0), (.i (i64 ((-1) - (i64 far_0)))), (.i 0), (.s ([] : List UInt8)), (.s ([] : List UInt8)), (.b b_0), (.i i_0), (.i i_1), (.i (i64 (5 + (i64 far_0)))), (.i i_3), (.i i_4), (.i i_5), (.i i_6), (.n 0), (.l [])]) fun r_71 =>
                  onI r_71 fun i_149 ds_171 =>
                  onI ds_171 fun i_150 ds_172 =>
                  bif (decide (i_148 = 2)) then (bif (decide (i_150 = 2)) then (Option.bind (F_law22_works []) fun r_72 =>
                    onB r_72 fun b_12 ds_173 =>
                    some [(.b b_12)]) else
                   (some [(.b false)])) else
                  (some [(.b false)])))))))))))) else
       (bif (decide ((Int.tmod what_0 10) = 6)) then (bif (decide ((0 ≤ (Int.tmod (i64 far_0) 2)) ∧ ((Int.tmod (i64 far_0) 2) < 2))) then (Option.bind (asI .i64 ([(Ax.AV.int .i64 (Ax.I.sym (i64 (3 + (i64 far_0))))), (Ax.AV.int .i64 (Ax.I.sym (i64 ((-1) - (i64 far_0)))))])[((Int.tmod (i64 far_0) 2)).toNat]?) fun x_2 =>
         Option.bind (F_until_Nominal [(.b b_0), (.i i_0), (.i i_1), (.i i_2), (.i i_3), (.i i_4), (.i i_5), (.i x_2), (.i 0)]) fun r_73 =>
         onI r_73 fun i_151 ds_174 =>
         onI ds_174 fun i_152 ds_175 =>
         Option.bind (F_until_Instant [(.i 0), (.i 0), (.i 0), (.s ([] : List UInt8)), (.s ([] : List UInt8)), (.b b_0), (.i i_0), (.i i_1), (.i i_2), (.i i_3), (.i i_4), (.i i_5), (.i x_2), (.n 0), (.l [])]) fun r_74 =>
         onI r_74 fun i_153 ds_176 =>
         onI ds_176 fun i_154 ds_177 =>
         Option.bind (F_until_Check [(.b b_0), (.i i_0), (.i i_1), (.i i_2), (.i i_3), (.i i_4), (.i i_5), (.i x_2), (.i 0)]) fun r_75 =>
         onI r_75 fun i_155 ds_178 =>
         bif (!decide (i_155 = 3)) then (some [(.b false)]) else
         (bif (!decide (i_151 = 0)) then (some [(.b false)]) else
          (bif (!decide (i_152 = 3)) then (some [(.b false)]) else
           (bif (!decide (i_153 = 0)) then (some [(.b false)]) else
            (bif (!decide (i_154 = 3)) then (some [(.b false)]) else
             (Option.bind (F_until_Check [(.b b_0), (.i i_0), (.i i_1), (.i i_2), (.i i_3), (.i i_4), (.i i_5), (.i x_2), (.i (i64 (1 + (i64 far_0))))]) fun r_76 =>
              onI r_76 fun i_156 ds_179 =>
              bif (!decide (i_156 = 2)) then (some [(.b false)]) else
              (Option.bind (F_until_Check [(.b b_0), (.i i_0), (.i i_1), (.i i_2), (.i i_3), (.i i_4), (.i i_5), (.i x_2), (.i (i64 ((-10801) - (i64 far_0))))]) fun r_77 =>
               onI r_77 fun i_157 ds_180 =>
               bif (!decide (i_157 = 2)) then (some [(.b false)]) else
               (Option.bind (F__law22_Draft__Made [(.i d_0), (.i d_1), (.i d_2), (.i d_3), (.i d_4), (.i d_5), (.i d_6), (.i 0)]) fun r_78 =>
                onB r_78 fun b_13 ds_181 =>
                onI ds_181 fun i_158 ds_182 =>
                onI ds_182 fun i_159 ds_183 =>
                onI ds_183 fun i_160 ds_184 =>
                onI ds_184 fun i_161 ds_185 =>
                onI ds_185 fun i_162 ds_186 =>
                onI ds_186 fun i_163 ds_187 =>
                onI ds_187 fun i_164 ds_188 =>
                Option.bind (F_until_Instant [(.i (i64 (604800 + (i64 far_0)))), (.i 0), (.i 0), (.s ([] : List UInt8)), (.s ([] : List UInt8)), (.b b_13), (.i i_158), (.i i_159), (.i i_160), (.i i_161), (.i i_162), (.i i_163), (.i i_164), (.n 0), (.l [])]) fun r_79 =>
                onI r_79 fun i_165 ds_189 =>
                onI ds_189 fun i_166 ds_190 =>
                bif (!decide (i_166 = 3)) then (some [(.b false)]) else
                (Option.bind (F_until_Instant [(.i (i64 ((-604800) - (i64 far_0)))), (.i 0), (.i 0), (.s ([] : List UInt8)), (.s ([] : List UInt8)), (.b b_0), (.i i_0), (.i i_1), (.i i_2), (.i i_3), (.i i_4), (.i i_5), (.i x_2), (.n 0), (.l [])]) fun r_80 =>
                 onI r_80 fun i_167 ds_191 =>
                 onI ds_191 fun i_168 ds_192 =>
                 bif (!decide (i_168 = 3)) then (some [(.b false)]) else
                 (Option.bind (F_until_Instant [(.i 0), (.i 1), (.i (i64 (604800 + (i64 far_0)))), (.s ([] : List UInt8)), (.s ([] : List UInt8)), (.b b_13), (.i i_158), (.i i_159), (.i i_160), (.i i_161), (.i i_162), (.i i_163), (.i i_164), (.n 0), (.l [])]) fun r_81 =>
                  onI r_81 fun i_169 ds_193 =>
                  onI ds_193 fun i_170 ds_194 =>
                  bif (!decide (i_170 = 3)) then (some [(.b false)]) else
                  (Option.bind (F_until_Instant [(.i (-1152921504606846976)), (.i (i64 (3 + (i64 far_0)))), (.i 0), (.s ([] : List UInt8)), (.s ([] : List UInt8)), (.b b_13), (.i i_158), (.i i_159), (.i i_160), (.i i_161), (.i i_162), (.i i_163), (.i i_164), (.n 0), (.l [])]) fun r_82 =>
                   onI r_82 fun i_171 ds_195 =>
                   onI ds_195 fun i_172 ds_196 =>
                   Option.bind (F_until_Instant [(.i 0), (.i (i64 ((-1) - (i64 far_0)))), (.i 0), (.s ([] : List UInt8)), (.s ([] : List UInt8)), (.b b_0), (.i i_0), (.i i_1), (.i i_2), (.i i_3), (.i i_4), (.i i_5), (.i x_2), (.n 0), (.l [])]) fun r_83 =>
                   onI r_83 fun i_173 ds_197 =>
                   onI ds_197 fun i_174 ds_198 =>
                   bif (decide (i_172 = 2)) then (bif (decide (i_174 = 2)) then (Option.bind (F_law22_works []) fun r_84 =>
                     onB r_84 fun b_14 ds_199 =>
                     some [(.b b_14)]) else
                    (some [(.b false)])) else
                   (some [(.b false)])))))))))))) else none) else
        (bif (decide ((Int.tmod what_0 10) = 7)) then (Option.bind (F_until_Nominal [(.b b_0), (.i i_0), (.i i_1), (.i i_2), (.i i_3), (.i i_4), (.i (i64 ((-86401) - (i64 far_0)))), (.i i_6), (.i 0)]) fun r_85 =>
          onI r_85 fun i_175 ds_200 =>
          onI ds_200 fun i_176 ds_201 =>
          Option.bind (F_until_Instant [(.i 0), (.i 0), (.i 0), (.s ([] : List UInt8)), (.s ([] : List UInt8)), (.b b_0), (.i i_0), (.i i_1), (.i i_2), (.i i_3), (.i i_4), (.i (i64 ((-86401) - (i64 far_0)))), (.i i_6), (.n 0), (.l [])]) fun r_86 =>
          onI r_86 fun i_177 ds_202 =>
          onI ds_202 fun i_178 ds_203 =>
          Option.bind (F_until_Check [(.b b_0), (.i i_0), (.i i_1), (.i i_2), (.i i_3), (.i i_4), (.i (i64 ((-86401) - (i64 far_0)))), (.i i_6), (.i 0)]) fun r_87 =>
          onI r_87 fun i_179 ds_204 =>
          bif (!decide (i_179 = 3)) then (some [(.b false)]) else
          (bif (!decide (i_175 = 0)) then (some [(.b false)]) else
           (bif (!decide (i_176 = 3)) then (some [(.b false)]) else
            (bif (!decide (i_177 = 0)) then (some [(.b false)]) else
             (bif (!decide (i_178 = 3)) then (some [(.b false)]) else
              (Option.bind (F_until_Check [(.b b_0), (.i i_0), (.i i_1), (.i i_2), (.i i_3), (.i i_4), (.i (i64 ((-86401) - (i64 far_0)))), (.i i_6), (.i (i64 (1 + (i64 far_0))))]) fun r_88 =>
               onI r_88 fun i_180 ds_205 =>
               bif (!decide (i_180 = 2)) then (some [(.b false)]) else
               (Option.bind (F_until_Check [(.b b_0), (.i i_0), (.i i_1), (.i i_2), (.i i_3), (.i i_4), (.i (i64 ((-86401) - (i64 far_0)))), (.i i_6), (.i (i64 ((-10801) - (i64 far_0))))]) fun r_89 =>
                onI r_89 fun i_181 ds_206 =>
                bif (!decide (i_181 = 2)) then (some [(.b false)]) else
                (Option.bind (F__law22_Draft__Made [(.i d_0), (.i d_1), (.i d_2), (.i d_3), (.i d_4), (.i d_5), (.i d_6), (.i 0)]) fun r_90 =>
                 onB r_90 fun b_15 ds_207 =>
                 onI ds_207 fun i_182 ds_208 =>
                 onI ds_208 fun i_183 ds_209 =>
                 onI ds_209 fun i_184 ds_210 =>
                 onI ds_210 fun i_185 ds_211 =>
                 onI ds_211 fun i_186 ds_212 =>
                 onI ds_212 fun i_187 ds_213 =>
                 onI ds_213 fun i_188 ds_214 =>
                 Option.bind (F_until_Instant [(.i (i64 (604800 + (i64 far_0)))), (.i 0), (.i 0), (.s ([] : List UInt8)), (.s ([] : List UInt8)), (.b b_15), (.i i_182), (.i i_183), (.i i_184), (.i i_185), (.i i_186), (.i i_187), (.i i_188), (.n 0), (.l [])]) fun r_91 =>
                 onI r_91 fun i_189 ds_215 =>
                 onI ds_215 fun i_190 ds_216 =>
                 bif (!decide (i_190 = 3)) then (some [(.b false)]) else
                 (Option.bind (F_until_Instant [(.i (i64 ((-604800) - (i64 far_0)))), (.i 0), (.i 0), (.s ([] : List UInt8)), (.s ([] : List UInt8)), (.b b_0), (.i i_0), (.i i_1), (.i i_2), (.i i_3), (.i i_4), (.i (i64 ((-86401) - (i64 far_0)))), (.i i_6), (.n 0), (.l [])]) fun r_92 =>
                  onI r_92 fun i_191 ds_217 =>
                  onI ds_217 fun i_192 ds_218 =>
                  bif (!decide (i_192 = 3)) then (some [(.b false)]) else
                  (Option.bind (F_until_Instant [(.i 0), (.i 1), (.i (i64 (604800 + (i64 far_0)))), (.s ([] : List UInt8)), (.s ([] : List UInt8)), (.b b_15), (.i i_182), (.i i_183), (.i i_184), (.i i_185), (.i i_186), (.i i_187), (.i i_188), (.n 0), (.l [])]) fun r_93 =>
                   onI r_93 fun i_193 ds_219 =>
                   onI ds_219 fun i_194 ds_220 =>
                   bif (!decide (i_194 = 3)) then (some [(.b false)]) else
                   (Option.bind (F_until_Instant [(.i (-1152921504606846976)), (.i (i64 (3 + (i64 far_0)))), (.i 0), (.s ([] : List UInt8)), (.s ([] : List UInt8)), (.b b_15), (.i i_182), (.i i_183), (.i i_184), (.i i_185), (.i i_186), (.i i_187), (.i i_188), (.n 0), (.l [])]) fun r_94 =>
                    onI r_94 fun i_195 ds_221 =>
                    onI ds_221 fun i_196 ds_222 =>
                    Option.bind (F_until_Instant [(.i 0), (.i (i64 ((-1) - (i64 far_0)))), (.i 0), (.s ([] : List UInt8)), (.s ([] : List UInt8)), (.b b_0), (.i i_0), (.i i_1), (.i i_2), (.i i_3), (.i i_4), (.i (i64 ((-86401) - (i64 far_0)))), (.i i_6), (.n 0), (.l [])]) fun r_95 =>
                    onI r_95 fun i_197 ds_223 =>
                    onI ds_223 fun i_198 ds_224 =>
                    bif (decide (i_196 = 2)) then (bif (decide (i_198 = 2)) then (Option.bind (F_law22_works []) fun r_96 =>
                      onB r_96 fun b_16 ds_225 =>
                      some [(.b b_16)]) else
                     (some [(.b false)])) else
                    (some [(.b false)])))))))))))) else
         (bif (decide ((Int.tmod what_0 10) = 8)) then (Option.bind (F_until_Nominal [(.b b_0), (.i i_0), (.i i_1), (.i i_2), (.i i_3), (.i i_4), (.i (i64 (172801 + (i64 far_0)))), (.i i_6), (.i 0)]) fun r_97 =>
           onI r_97 fun i_199 ds_226 =>
           onI ds_226 fun i_200 ds_227 =>
           Option.bind (F_until_Instant [(.i 0), (.i 0), (.i 0), (.s ([] : List UInt8)), (.s ([] : List UInt8)), (.b b_0), (.i i_0), (.i i_1), (.i i_2), (.i i_3), (.i i_4), (.i (i64 (172801 + (i64 far_0)))), (.i i_6), (.n 0), (.l [])]) fun r_98 =>
           onI r_98 fun i_201 ds_228 =>
           onI ds_228 fun i_202 ds_229 =>
           Option.bind (F_until_Check [(.b b_0), (.i i_0), (.i i_1), (.i i_2), (.i i_3), (.i i_4), (.i (i64 (172801 + (i64 far_0)))), (.i i_6), (.i 0)]) fun r_99 =>
           onI r_99 fun i_203 ds_230 =>
           bif (!decide (i_203 = 3)) then (some [(.b false)]) else
           (bif (!decide (i_199 = 0)) then (some [(.b false)]) else
            (bif (!decide (i_200 = 3)) then (some [(.b false)]) else
             (bif (!decide (i_201 = 0)) then (some [(.b false)]) else
              (bif (!decide (i_202 = 3)) then (some [(.b false)]) else
               (Option.bind (F_until_Check [(.b b_0), (.i i_0), (.i i_1), (.i i_2), (.i i_3), (.i i_4), (.i (i64 (172801 + (i64 far_0)))), (.i i_6), (.i (i64 (1 + (i64 far_0))))]) fun r_100 =>
                onI r_100 fun i_204 ds_231 =>
                bif (!decide (i_204 = 2)) then (some [(.b false)]) else
                (Option.bind (F_until_Check [(.b b_0), (.i i_0), (.i i_1), (.i i_2), (.i i_3), (.i i_4), (.i (i64 (172801 + (i64 far_0)))), (.i i_6), (.i (i64 ((-10801) - (i64 far_0))))]) fun r_101 =>
                 onI r_101 fun i_205 ds_232 =>
                 bif (!decide (i_205 = 2)) then (some [(.b false)]) else
                 (Option.bind (F__law22_Draft__Made [(.i d_0), (.i d_1), (.i d_2), (.i d_3), (.i d_4), (.i d_5), (.i d_6), (.i 0)]) fun r_102 =>
                  onB r_102 fun b_17 ds_233 =>
                  onI ds_233 fun i_206 ds_234 =>
                  onI ds_234 fun i_207 ds_235 =>
                  onI ds_235 fun i_208 ds_236 =>
                  onI ds_236 fun i_209 ds_237 =>
                  onI ds_237 fun i_210 ds_238 =>
                  onI ds_238 fun i_211 ds_239 =>
                  onI ds_239 fun i_212 ds_240 =>
                  Option.bind (F_until_Instant [(.i (i64 (604800 + (i64 far_0)))), (.i 0), (.i 0), (.s ([] : List UInt8)), (.s ([] : List UInt8)), (.b b_17), (.i i_206), (.i i_207), (.i i_208), (.i i_209), (.i i_210), (.i i_211), (.i i_212), (.n 0), (.l [])]) fun r_103 =>
                  onI r_103 fun i_213 ds_241 =>
                  onI ds_241 fun i_214 ds_242 =>
                  bif (!decide (i_214 = 3)) then (some [(.b false)]) else
                  (Option.bind (F_until_Instant [(.i (i64 ((-604800) - (i64 far_0)))), (.i 0), (.i 0), (.s ([] : List UInt8)), (.s ([] : List UInt8)), (.b b_0), (.i i_0), (.i i_1), (.i i_2), (.i i_3), (.i i_4), (.i (i64 (172801 + (i64 far_0)))), (.i i_6), (.n 0), (.l [])]) fun r_104 =>
                   onI r_104 fun i_215 ds_243 =>
                   onI ds_243 fun i_216 ds_244 =>
                   bif (!decide (i_216 = 3)) then (some [(.b false)]) else
                   (Option.bind (F_until_Instant [(.i 0), (.i 1), (.i (i64 (604800 + (i64 far_0)))), (.s ([] : List UInt8)), (.s ([] : List UInt8)), (.b b_17), (.i i_206), (.i i_207), (.i i_208), (.i i_209), (.i i_210), (.i i_211), (.i i_212), (.n 0), (.l [])]) fun r_105 =>
                    onI r_105 fun i_217 ds_245 =>
                    onI ds_245 fun i_218 ds_246 =>
                    bif (!decide (i_218 = 3)) then (some [(.b false)]) else
                    (Option.bind (F_until_Instant [(.i (-1152921504606846976)), (.i (i64 (3 + (i64 far_0)))), (.i 0), (.s ([] : List UInt8)), (.s ([] : List UInt8)), (.b b_17), (.i i_206), (.i i_207), (.i i_208), (.i i_209), (.i i_210), (.i i_211), (.i i_212), (.n 0), (.l [])]) fun r_106 =>
                     onI r_106 fun i_219 ds_247 =>
                     onI ds_247 fun i_220 ds_248 =>
                     Option.bind (F_until_Instant [(.i 0), (.i (i64 ((-1) - (i64 far_0)))), (.i 0), (.s ([] : List UInt8)), (.s ([] : List UInt8)), (.b b_0), (.i i_0), (.i i_1), (.i i_2), (.i i_3), (.i i_4), (.i (i64 (172801 + (i64 far_0)))), (.i i_6), (.n 0), (.l [])]) fun r_107 =>
                     onI r_107 fun i_221 ds_249 =>
                     onI ds_249 fun i_222 ds_250 =>
                     bif (decide (i_220 = 2)) then (bif (decide (i_222 = 2)) then (Option.bind (F_law22_works []) fun r_108 =>
                       onB r_108 fun b_18 ds_251 =>
                       some [(.b b_18)]) else
                      (some [(.b false)])) else
                     (some [(.b false)])))))))))))) else
          (Option.bind (F_until_Nominal [(.b true), (.i 0), (.i 0), (.i 0), (.i 0), (.i 0), (.i 0), (.i 0), (.i 0)]) fun r_109 =>
           onI r_109 fun i_223 ds_252 =>
           onI ds_252 fun i_224 ds_253 =>
           Option.bind (F_until_Instant [(.i 0), (.i 0), (.i 0), (.s ([] : List UInt8)), (.s ([] : List UInt8)), (.b true), (.i 0), (.i 0), (.i 0), (.i 0), (.i 0), (.i 0), (.i 0), (.n 0), (.l [])]) fun r_110 =>
           onI r_110 fun i_225 ds_254 =>
           onI ds_254 fun i_226 ds_255 =>
           Option.bind (F_until_Check [(.b true), (.i 0), (.i 0), (.i 0), (.i 0), (.i 0), (.i 0), (.i 0), (.i 0)]) fun r_111 =>
           onI r_111 fun i_227 ds_256 =>
           bif (!decide (i_227 = 3)) then (some [(.b false)]) else
           (bif (!decide (i_223 = 0)) then (some [(.b false)]) else
            (bif (!decide (i_224 = 3)) then (some [(.b false)]) else
             (bif (!decide (i_225 = 0)) then (some [(.b false)]) else
              (bif (!decide (i_226 = 3)) then (some [(.b false)]) else
               (Option.bind (F_until_Check [(.b true), (.i 0), (.i 0), (.i 0), (.i 0), (.i 0), (.i 0), (.i 0), (.i (i64 (1 + (i64 far_0))))]) fun r_112 =>
                onI r_112 fun i_228 ds_257 =>
                bif (!decide (i_228 = 2)) then (some [(.b false)]) else
                (Option.bind (F_until_Check [(.b true), (.i 0), (.i 0), (.i 0), (.i 0), (.i 0), (.i 0), (.i 0), (.i (i64 ((-10801) - (i64 far_0))))]) fun r_113 =>
                 onI r_113 fun i_229 ds_258 =>
                 bif (!decide (i_229 = 2)) then (some [(.b false)]) else
                 (Option.bind (F__law22_Draft__Made [(.i d_0), (.i d_1), (.i d_2), (.i d_3), (.i d_4), (.i d_5), (.i d_6), (.i 0)]) fun r_114 =>
                  onB r_114 fun b_19 ds_259 =>
                  onI ds_259 fun i_230 ds_260 =>
                  onI ds_260 fun i_231 ds_261 =>
                  onI ds_261 fun i_232 ds_262 =>
                  onI ds_262 fun i_233 ds_263 =>
                  onI ds_263 fun i_234 ds_264 =>
                  onI ds_264 fun i_235 ds_265 =>
                  onI ds_265 fun i_236 ds_266 =>
                  Option.bind (F_until_Instant [(.i (i64 (604800 + (i64 far_0)))), (.i 0), (.i 0), (.s ([] : List UInt8)), (.s ([] : List UInt8)), (.b b_19), (.i i_230), (.i i_231), (.i i_232), (.i i_233), (.i i_234), (.i i_235), (.i i_236), (.n 0), (.l [])]) fun r_115 =>
                  onI r_115 fun i_237 ds_267 =>
                  onI ds_267 fun i_238 ds_268 =>
                  bif (!decide (i_238 = 3)) then (some [(.b false)]) else
                  (Option.bind (F_until_Instant [(.i (i64 ((-604800) - (i64 far_0)))), (.i 0), (.i 0), (.s ([] : List UInt8)), (.s ([] : List UInt8)), (.b true), (.i 0), (.i 0), (.i 0), (.i 0), (.i 0), (.i 0), (.i 0), (.n 0), (.l [])]) fun r_116 =>
                   onI r_116 fun i_239 ds_269 =>
                   onI ds_269 fun i_240 ds_270 =>
                   bif (!decide (i_240 = 3)) then (some [(.b false)]) else
                   (Option.bind (F_until_Instant [(.i 0), (.i 1), (.i (i64 (604800 + (i64 far_0)))), (.s ([] : List UInt8)), (.s ([] : List UInt8)), (.b b_19), (.i i_230), (.i i_231), (.i i_232), (.i i_233), (.i i_234), (.i i_235), (.i i_236), (.n 0), (.l [])]) fun r_117 =>
                    onI r_117 fun i_241 ds_271 =>
                    onI ds_271 fun i_242 ds_272 =>
                    bif (!decide (i_242 = 3)) then (some [(.b false)]) else
                    (Option.bind (F_until_Instant [(.i (-1152921504606846976)), (.i (i64 (3 + (i64 far_0)))), (.i 0), (.s ([] : List UInt8)), (.s ([] : List UInt8)), (.b b_19), (.i i_230), (.i i_231), (.i i_232), (.i i_233), (.i i_234), (.i i_235), (.i i_236), (.n 0), (.l [])]) fun r_118 =>
                     onI r_118 fun i_243 ds_273 =>
                     onI ds_273 fun i_244 ds_274 =>
                     Option.bind (F_until_Instant [(.i 0), (.i (i64 ((-1) - (i64 far_0)))), (.i 0), (.s ([] : List UInt8)), (.s ([] : List UInt8)), (.b true), (.i 0), (.i 0), (.i 0), (.i 0), (.i 0), (.i 0), (.i 0), (.n 0), (.l [])]) fun r_119 =>
                     onI r_119 fun i_245 ds_275 =>
                     onI ds_275 fun i_246 ds_276 =>
                     bif (decide (i_244 = 2)) then (bif (decide (i_246 = 2)) then (Option.bind (F_law22_works []) fun r_120 =>
                       onB r_120 fun b_20 ds_277 =>
                       some [(.b b_20)]) else
                      (some [(.b false)])) else
                     (some [(.b false)]))))))))))))))))))))
end Go.Proofs.YtcohbcdhcmajiaaDoor
