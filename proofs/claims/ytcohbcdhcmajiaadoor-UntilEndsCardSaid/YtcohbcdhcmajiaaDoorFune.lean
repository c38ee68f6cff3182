/-
  The functions of plain data that the laws of this group reach, as the program has them.
-/
import Derived.Test.YtcohbcdhcmajiaaDoorAx33
import Derived.Test.YtcohbcdhcmajiaaDoorAx36
import Derived.Test.YtcohbcdhcmajiaaDoorAx37
import Derived.Test.YtcohbcdhcmajiaaDoorAx39
import Derived.Test.YtcohbcdhcmajiaaDoorAx40
import Derived.Test.YtcohbcdhcmajiaaDoorHBuilder
namespace Go.Proofs.YtcohbcdhcmajiaaDoor
open Go.Ax
set_option linter.all false
set_option maxRecDepth 100000
noncomputable def F_civil_Leap : List Dat → Option (List Dat) := fun ds_0 =>
  onI ds_0 fun y_0 ds_1 =>
  Option.bind (bif (decide ((Int.tmod y_0 4) = 0)) then (bif (!decide ((Int.tmod y_0 100) = 0)) then (some true) else
    (bif (decide ((Int.tmod y_0 400) = 0)) then (some true) else
     (some false))) else
   (some false)) fun b_0 =>
  some [(.b b_0)]
noncomputable def F_civil_Len : List Dat → Option (List Dat) := fun ds_0 =>
  onI ds_0 fun y_0 ds_1 =>
  onI ds_1 fun m_0 ds_2 =>
  Option.bind (bif (decide (m_0 < 1)) then (some true) else
   (bif (decide (12 < m_0)) then (some true) else
    (some false))) fun b_0 =>
  bif b_0 then (some [(.i 0)]) else
  (bif (decide ((0 ≤ m_0) ∧ (m_0 < 13))) then (Option.bind (asI .i64 ([(Ax.AV.int .i64 (Ax.I.lit 0)), (Ax.AV.int .i64 (Ax.I.lit 31)), (Ax.AV.int .i64 (Ax.I.lit 59)), (Ax.AV.int .i64 (Ax.I.lit 90)), (Ax.AV.int .i64 (Ax.I.lit 120)), (Ax.AV.int .i64 (Ax.I.lit 151)), (Ax.AV.int .i64 (Ax.I.lit 181)), (Ax.AV.int .i64 (Ax.I.lit 212)), (Ax.AV.int .i64 (Ax.I.lit 243)), (Ax.AV.int .i64 (Ax.I.lit 273)), (Ax.AV.int .i64 (Ax.I.lit 304)), (Ax.AV.int .i64 (Ax.I.lit 334)), (Ax.AV.int .i64 (Ax.I.lit 365))])[(m_0).toNat]?) fun x_0 =>
   bif (decide ((0 ≤ (i64 (m_0 - 1))) ∧ ((i64 (m_0 - 1)) < 13))) then (Option.bind (asI .i64 ([(Ax.AV.int .i64 (Ax.I.lit 0)), (Ax.AV.int .i64 (Ax.I.lit 31)), (Ax.AV.int .i64 (Ax.I.lit 59)), (Ax.AV.int .i64 (Ax.I.lit 90)), (Ax.AV.int .i64 (Ax.I.lit 120)), (Ax.AV.int .i64 (Ax.I.lit 151)), (Ax.AV.int .i64 (Ax.I.lit 181)), (Ax.AV.int .i64 (Ax.I.lit 212)), (Ax.AV.int .i64 (Ax.I.lit 243)), (Ax.AV.int .i64 (Ax.I.lit 273)), (Ax.AV.int .i64 (Ax.I.lit 304)), (Ax.AV.int .i64 (Ax.I.lit 334)), (Ax.AV.int .i64 (Ax.I.lit 365))])[((i64 (m_0 - 1))).toNat]?) fun x_1 =>
   bif (decide (m_0 = 2)) then (Option.bind (F_civil_Leap [(.i y_0)]) fun r_0 =>
    onB r_0 fun b_1 ds_3 =>
    bif b_1 then (some [(.i (i64 ((i64 (x_0 - x_1)) + 1)))]) else
    (some [(.i (i64 (x_0 - x_1)))])) else
   (some [(.i (i64 (x_0 - x_1)))])) else none) else none)
noncomputable def F_civil_floor : List Dat → Option (List Dat) := fun ds_0 =>
  onI ds_0 fun a_0 ds_1 =>
  onI ds_1 fun b_0 ds_2 =>
  bif (b_0 != 0) then (bif (b_0 != 0) then (bif (decide ((Int.tmod a_0 b_0) < 0)) then (some [(.i (i64 ((i64 (Int.tdiv a_0 b_0)) - 1)))]) else
  (some [(.i (i64 (Int.tdiv a_0 b_0)))])) else none) else none
noncomputable def F_civil_Days : List Dat → Option (List Dat) := fun ds_0 =>
  onI ds_0 fun y_0 ds_1 =>
  onI ds_1 fun m_0 ds_2 =>
  onI ds_2 fun d_0 ds_3 =>
  bif (decide (y_0 < (-2000000000))) then (some [(.i 0), (.i 3)]) else
  (bif (decide (2000000000 < y_0)) then (some [(.i 0), (.i 3)]) else
   (bif (decide (d_0 < 1)) then (some [(.i 0), (.i 3)]) else
    (Option.bind (F_civil_Len [(.i y_0), (.i m_0)]) fun r_0 =>
     onI r_0 fun i_0 ds_4 =>
     bif (decide (i_0 < d_0)) then (some [(.i 0), (.i 3)]) else
     (Option.bind (F_civil_floor [(.i (i64 (y_0 - 1))), (.i 4)]) fun r_1 =>
      onI r_1 fun i_1 ds_5 =>
      Option.bind (F_civil_floor [(.i (i64 (y_0 - 1))), (.i 100)]) fun r_2 =>
      onI r_2 fun i_2 ds_6 =>
      Option.bind (F_civil_floor [(.i (i64 (y_0 - 1))), (.i 400)]) fun r_3 =>
      onI r_3 fun i_3 ds_7 =>
      bif (decide ((0 ≤ (i64 (m_0 - 1))) ∧ ((i64 (m_0 - 1)) < 13))) then (Option.bind (asI .i64 ([(Ax.AV.int .i64 (Ax.I.lit 0)), (Ax.AV.int .i64 (Ax.I.lit 31)), (Ax.AV.int .i64 (Ax.I.lit 59)), (Ax.AV.int .i64 (Ax.I.lit 90)), (Ax.AV.int .i64 (Ax.I.lit 120)), (Ax.AV.int .i64 (Ax.I.lit 151)), (Ax.AV.int .i64 (Ax.I.lit 181)), (Ax.AV.int .i64 (Ax.I.lit 212)), (Ax.AV.int .i64 (Ax.I.lit 243)), (Ax.AV.int .i64 (Ax.I.lit 273)), (Ax.AV.int .i64 (Ax.I.lit 304)), (Ax.AV.int .i64 (Ax.I.lit 334)), (Ax.AV.int .i64 (Ax.I.lit 365))])[((i64 (m_0 - 1))).toNat]?) fun x_0 =>
      bif (decide (2 < m_0)) then (Option.bind (F_civil_Leap [(.i y_0)]) fun r_4 =>
       onB r_4 fun b_0 ds_8 =>
       bif b_0 then (some [(.i (i64 ((i64 ((i64 ((i64 ((i64 ((i64 ((i64 ((i64 (365 * y_0)) + i_1)) - i_2)) + i_3)) + 1)) + (i64 ((i64 (x_0 + d_0)) - 1)))) + 1)) + (-719528)))), (.i 0)]) else
       (some [(.i (i64 ((i64 ((i64 ((i64 ((i64 ((i64 ((i64 (365 * y_0)) + i_1)) - i_2)) + i_3)) + 1)) + (i64 ((i64 (x_0 + d_0)) - 1)))) + (-719528)))), (.i 0)])) else
      (some [(.i (i64 ((i64 ((i64 ((i64 ((i64 ((i64 ((i64 (365 * y_0)) + i_1)) - i_2)) + i_3)) + 1)) + (i64 ((i64 (x_0 + d_0)) - 1)))) + (-719528)))), (.i 0)])) else none))))
noncomputable def F_dayform_dayOf : List Dat → Option (List Dat) := fun ds_0 =>
  onI ds_0 fun d_0 ds_1 =>
  onI ds_1 fun d_1 ds_2 =>
  onI ds_2 fun d_2 ds_3 =>
  onI ds_3 fun first_0 ds_4 =>
  some [(.i (i64 ((i64 (first_0 + d_2)) - 1)))]
noncomputable def F_civil_Weekday : List Dat → Option (List Dat) := fun ds_0 =>
  onI ds_0 fun days_0 ds_1 =>
  some [(.i (Int.tmod (i64 ((i64 ((Int.tmod days_0 7) + 7)) + 4)) 7))]
noncomputable def F_dayform_back : List Dat → Option (List Dat) := fun ds_0 =>
  onI ds_0 fun week_0 ds_1 =>
  onI ds_1 fun day_0 ds_2 =>
  Option.bind (F_civil_Weekday [(.i day_0)]) fun r_0 =>
  onI r_0 fun i_0 ds_3 =>
  some [(.i (Int.tmod (i64 ((i64 (i_0 - week_0)) + 7)) 7))]
noncomputable def F_dayform_kinds : List Dat → Option (List Dat) := fun ds_0 =>
  some [(.b false), (.b false), (.b false), (.b true), (.b true), (.b false), (.b true), (.b true), (.b true), (.b true)]
noncomputable def F_dayform_On : List Dat → Option (List Dat) := fun ds_0 =>
  onI ds_0 fun y_0 ds_1 =>
  onI ds_1 fun m_0 ds_2 =>
  onI ds_2 fun d_0 ds_3 =>
  onI ds_3 fun d_1 ds_4 =>
  onI ds_4 fun d_2 ds_5 =>
  Option.bind (F_civil_Days [(.i y_0), (.i m_0), (.i 1)]) fun r_0 =>
  onI r_0 fun i_0 ds_6 =>
  onI ds_6 fun i_1 ds_7 =>
  bif (!decide (i_1 = 0)) then (some [(.i 0), (.i 3)]) else
  (Option.bind (bif (decide (d_0 < 1)) then (some true) else
    (bif (decide (4 < d_0)) then (some true) else
     (some false))) fun b_0 =>
   bif b_0 then (some [(.i 0), (.i 2)]) else
   (Option.bind (F_dayform_kinds []) fun r_1 =>
    onB r_1 fun b_1 ds_8 =>
    onB ds_8 fun b_2 ds_9 =>
    onB ds_9 fun b_3 ds_10 =>
    onB ds_10 fun b_4 ds_11 =>
    onB ds_11 fun b_5 ds_12 =>
    onB ds_12 fun b_6 ds_13 =>
    onB ds_13 fun b_7 ds_14 =>
    onB ds_14 fun b_8 ds_15 =>
    onB ds_15 fun b_9 ds_16 =>
    onB ds_16 fun b_10 ds_17 =>
    bif (decide ((0 ≤ d_0) ∧ (d_0 < 5))) then (bif (decide (d_0 = 4)) then (Option.bind (bif b_9 then (bif (decide (d_1 < 0)) then (some true) else
       (bif (decide (6 < d_1)) then (some true) else
        (bif (!b_9) then (bif (!decide (d_1 = 0)) then (some true) else
          (some false)) else
         (some false)))) else
      (bif (!b_9) then (bif (!decide (d_1 = 0)) then (some true) else
        (some false)) else
       (some false))) fun b_11 =>
     bif b_11 then (some [(.i 0), (.i 2)]) else
     (Option.bind (bif b_10 then (bif (decide (d_2 < 1)) then (some true) else
        (bif (decide (31 < d_2)) then (some true) else
         (bif (!b_10) then (bif (!decide (d_2 = 0)) then (some true) else
           (some false)) else
          (some false)))) else
       (bif (!b_10) then (bif (!decide (d_2 = 0)) then (some true) else
         (some false)) else
        (some false))) fun b_12 =>
      bif b_12 then (some [(.i 0), (.i 2)]) else
      (Option.bind (F_civil_Len [(.i y_0), (.i m_0)]) fun r_2 =>
       onI r_2 fun i_2 ds_18 =>
       bif (decide (i_2 < d_2)) then (some [(.i 0), (.i 4)]) else
       (Option.bind (F_dayform_dayOf [(.i d_0), (.i d_1), (.i d_2), (.i i_0)]) fun r_3 =>
        onI r_3 fun i_3 ds_19 =>
        Option.bind (F_dayform_back [(.i d_1), (.i i_3)]) fun r_4 =>
        onI r_4 fun i_4 ds_20 =>
        some [(.i (i64 (i_3 - i_4))), (.i 0)])))) else
    (bif (decide (d_0 = 3)) then (Option.bind (bif b_7 then (bif (decide (d_1 < 0)) then (some true) else
        (bif (decide (6 < d_1)) then (some true) else
         (bif (!b_7) then (bif (!decide (d_1 = 0)) then (some true) else
           (some false)) else
          (some false)))) else
       (bif (!b_7) then (bif (!decide (d_1 = 0)) then (some true) else
         (some false)) else
        (some false))) fun b_13 =>
      bif b_13 then (some [(.i 0), (.i 2)]) else
      (Option.bind (bif b_8 then (bif (decide (d_2 < 1)) then (some true) else
         (bif (decide (31 < d_2)) then (some true) else
          (bif (!b_8) then (bif (!decide (d_2 = 0)) then (some true) else
            (some false)) else
           (some false)))) else
        (bif (!b_8) then (bif (!decide (d_2 = 0)) then (some true) else
          (some false)) else
         (some false))) fun b_14 =>
       bif b_14 then (some [(.i 0), (.i 2)]) else
       (Option.bind (F_civil_Len [(.i y_0), (.i m_0)]) fun r_5 =>
        onI r_5 fun i_5 ds_21 =>
        bif (decide (i_5 < d_2)) then (some [(.i 0), (.i 4)]) else
        (Option.bind (F_dayform_dayOf [(.i d_0), (.i d_1), (.i d_2), (.i i_0)]) fun r_6 =>
         onI r_6 fun i_6 ds_22 =>
         Option.bind (F_dayform_back [(.i d_1), (.i (i64 (i_6 + 6)))]) fun r_7 =>
         onI r_7 fun i_7 ds_23 =>
         some [(.i (i64 ((i64 (i_6 + 6)) - i_7))), (.i 0)])))) else
     (bif (decide (d_0 = 2)) then (Option.bind (bif b_5 then (bif (decide (d_1 < 0)) then (some true) else
         (bif (decide (6 < d_1)) then (some true) else
          (bif (!b_5) then (bif (!decide (d_1 = 0)) then (some true) else
            (some false)) else
           (some false)))) else
        (bif (!b_5) then (bif (!decide (d_1 = 0)) then (some true) else
          (some false)) else
         (some false))) fun b_15 =>
       bif b_15 then (some [(.i 0), (.i 2)]) else
       (Option.bind (bif b_6 then (bif (decide (d_2 < 1)) then (some true) else
          (bif (decide (31 < d_2)) then (some true) else
           (bif (!b_6) then (bif (!decide (d_2 = 0)) then (some true) else
             (some false)) else
            (some false)))) else
         (bif (!b_6) then (bif (!decide (d_2 = 0)) then (some true) else
           (some false)) else
          (some false))) fun b_16 =>
        bif b_16 then (some [(.i 0), (.i 2)]) else
        (Option.bind (F_civil_Len [(.i y_0), (.i m_0)]) fun r_8 =>
         onI r_8 fun i_8 ds_24 =>
         bif (decide (i_8 < d_2)) then (some [(.i 0), (.i 4)]) else
         (Option.bind (F_dayform_back [(.i d_1), (.i (i64 ((i64 (i_0 + i_8)) - 1)))]) fun r_9 =>
          onI r_9 fun i_9 ds_25 =>
          some [(.i (i64 ((i64 ((i64 (i_0 + i_8)) - 1)) - i_9))), (.i 0)])))) else
      (bif (decide (d_0 = 1)) then (Option.bind (bif b_3 then (bif (decide (d_1 < 0)) then (some true) else
          (bif (decide (6 < d_1)) then (some true) else
           (bif (!b_3) then (bif (!decide (d_1 = 0)) then (some true) else
             (some false)) else
            (some false)))) else
         (bif (!b_3) then (bif (!decide (d_1 = 0)) then (some true) else
           (some false)) else
          (some false))) fun b_17 =>
        bif b_17 then (some [(.i 0), (.i 2)]) else
        (Option.bind (bif b_4 then (bif (decide (d_2 < 1)) then (some true) else
           (bif (decide (31 < d_2)) then (some true) else
            (bif (!b_4) then (bif (!decide (d_2 = 0)) then (some true) else
              (some false)) else
             (some false)))) else
          (bif (!b_4) then (bif (!decide (d_2 = 0)) then (some true) else
            (some false)) else
           (some false))) fun b_18 =>
         bif b_18 then (some [(.i 0), (.i 2)]) else
         (Option.bind (F_civil_Len [(.i y_0), (.i m_0)]) fun r_10 =>
          onI r_10 fun i_10 ds_26 =>
          bif (decide (i_10 < d_2)) then (some [(.i 0), (.i 4)]) else
          (Option.bind (F_dayform_dayOf [(.i d_0), (.i d_1), (.i d_2), (.i i_0)]) fun r_11 =>
           onI r_11 fun i_11 ds_27 =>
           some [(.i i_11), (.i 0)])))) else
       (bif (decide (d_0 = 0)) then (Option.bind (bif b_1 then (bif (decide (d_1 < 0)) then (some true) else
           (bif (decide (6 < d_1)) then (some true) else
            (bif (!b_1) then (bif (!decide (d_1 = 0)) then (some true) else
              (some false)) else
             (some false)))) else
          (bif (!b_1) then (bif (!decide (d_1 = 0)) then (some true) else
            (some false)) else
           (some false))) fun b_19 =>
         bif b_19 then (some [(.i 0), (.i 2)]) else
         (Option.bind (bif b_2 then (bif (decide (d_2 < 1)) then (some true) else
            (bif (decide (31 < d_2)) then (some true) else
             (bif (!b_2) then (bif (!decide (d_2 = 0)) then (some true) else
               (some false)) else
              (some false)))) else
           (bif (!b_2) then (bif (!decide (d_2 = 0)) then (some true) else
             (some false)) else
            (some false))) fun b_20 =>
          bif b_20 then (some [(.i 0), (.i 2)]) else
          (Option.bind (F_civil_Len [(.i y_0), (.i m_0)]) fun r_12 =>
           onI r_12 fun i_12 ds_28 =>
           bif (decide (i_12 < d_2)) then (some [(.i 0), (.i 4)]) else
           (none)))) else
        (none)))))) else none))
noncomputable def F_number_Named : List Dat → Option (List Dat) := fun ds_0 =>
  onI ds_0 fun y_0 ds_1 =>
  Option.bind (bif (decide (1850 ≤ y_0)) then (bif (decide (y_0 ≤ 2149)) then (some true) else
    (some false)) else
   (some false)) fun b_0 =>
  some [(.b b_0)]
noncomputable def F_clock_Check : List Dat → Option (List Dat) := fun ds_0 =>
  onI ds_0 fun c_0 ds_1 =>
  onI ds_1 fun c_1 ds_2 =>
  Option.bind (bif (decide (c_0 < (-604799))) then (some true) else
   (bif (decide (604799 < c_0)) then (some true) else
    (bif (decide (c_1 < 0)) then (some true) else
     (bif (decide (2 < c_1)) then (some true) else
      (some false))))) fun b_0 =>
  bif b_0 then (some [(.i 2)]) else
  (some [(.i 0)])
noncomputable def F_until_nominal : List Dat → Option (List Dat) := fun ds_0 =>
  onB ds_0 fun u_0 ds_1 =>
  onI ds_1 fun u_1 ds_2 =>
  onI ds_2 fun u_2 ds_3 =>
  onI ds_3 fun u_3 ds_4 =>
  onI ds_4 fun u_4 ds_5 =>
  onI ds_5 fun u_5 ds_6 =>
  onI ds_6 fun u_6 ds_7 =>
  onI ds_7 fun u_7 ds_8 =>
  onI ds_8 fun least_0 ds_9 =>
  Option.bind (F_dayform_On [(.i u_1), (.i u_2), (.i u_3), (.i u_4), (.i u_5)]) fun r_0 =>
  onI r_0 fun i_0 ds_10 =>
  onI ds_10 fun i_1 ds_11 =>
  bif (!decide (i_1 = 0)) then (some [(.i 0), (.b false)]) else
  (Option.bind (F_number_Named [(.i u_1)]) fun r_1 =>
   onB r_1 fun b_0 ds_12 =>
   bif (!b_0) then (some [(.i 0), (.b false)]) else
   (Option.bind (F_clock_Check [(.i u_6), (.i u_7)]) fun r_2 =>
    onI r_2 fun i_2 ds_13 =>
    bif (!decide (i_2 = 0)) then (some [(.i 0), (.b false)]) else
    (bif (decide (u_7 = 1)) then (bif (decide ((-86400) ≤ (i64 (u_6 + least_0)))) then (bif (decide ((i64 (u_6 + least_0)) ≤ 172800)) then (some [(.i (i64 ((i64 (86400 * i_0)) + (i64 (u_6 + least_0))))), (.b true)]) else
       (some [(.i (i64 ((i64 (86400 * i_0)) + (i64 (u_6 + least_0))))), (.b false)])) else
      (some [(.i (i64 ((i64 (86400 * i_0)) + (i64 (u_6 + least_0))))), (.b false)])) else
     (bif (decide ((-86400) ≤ u_6)) then (bif (decide (u_6 ≤ 172800)) then (some [(.i (i64 ((i64 (86400 * i_0)) + u_6))), (.b true)]) else
       (some [(.i (i64 ((i64 (86400 * i_0)) + u_6))), (.b false)])) else
      (some [(.i (i64 ((i64 (86400 * i_0)) + u_6))), (.b false)])))))
noncomputable def F_until_Nominal : List Dat → Option (List Dat) := fun ds_0 =>
  onB ds_0 fun u_0 ds_1 =>
  onI ds_1 fun u_1 ds_2 =>
  onI ds_2 fun u_2 ds_3 =>
  onI ds_3 fun u_3 ds_4 =>
  onI ds_4 fun u_4 ds_5 =>
  onI ds_5 fun u_5 ds_6 =>
  onI ds_6 fun u_6 ds_7 =>
  onI ds_7 fun u_7 ds_8 =>
  onI ds_8 fun least_0 ds_9 =>
  Option.bind (bif (decide (least_0 < (-10800))) then (some true) else
   (bif (decide (0 < least_0)) then (some true) else
    (some false))) fun b_0 =>
  bif b_0 then (some [(.i 0), (.i 2)]) else
  (bif (!u_0) then (some [(.i 0), (.i 4)]) else
   (Option.bind (F_until_nominal [(.b u_0), (.i u_1), (.i u_2), (.i u_3), (.i u_4), (.i u_5), (.i u_6), (.i u_7), (.i least_0)]) fun r_0 =>
    onI r_0 fun i_0 ds_10 =>
    onB ds_10 fun b_1 ds_11 =>
    bif (!b_1) then (some [(.i 0), (.i 3)]) else
    (some [(.i i_0), (.i 0)])))
noncomputable def F_ref02_in : List Dat → Option (List Dat) := fun ds_0 =>
  onI ds_0 fun n_0 ds_1 =>
  onI ds_1 fun least_0 ds_2 =>
  onI ds_2 fun most_0 ds_3 =>
  Option.bind (bif (decide (least_0 ≤ n_0)) then (bif (decide (n_0 ≤ most_0)) then (some true) else
    (some false)) else
   (some false)) fun b_0 =>
  some [(.b b_0)]
noncomputable def F_ref02_Check : List Dat → Option (List Dat) := fun ds_0 =>
  onI ds_0 fun d_0 ds_1 =>
  onI ds_1 fun d_1 ds_2 =>
  onI ds_2 fun d_2 ds_3 =>
  Option.bind (F_ref02_in [(.i d_1), (.i 0), (.i 6)]) fun r_0 =>
  onB r_0 fun b_0 ds_4 =>
  Option.bind (F_ref02_in [(.i d_2), (.i 1), (.i 31)]) fun r_1 =>
  onB r_1 fun b_1 ds_5 =>
  Option.bind (bif (decide (d_0 = 1)) then (bif (decide (d_1 = 0)) then (bif b_1 then (some true) else
     (bif (decide (d_0 = 2)) then (bif b_0 then (bif (decide (d_2 = 0)) then (some true) else
        (bif (decide (d_0 = 3)) then (bif b_0 then (some b_1) else
          (some false)) else
         (bif (decide (d_0 = 4)) then (bif b_0 then (some b_1) else
           (some false)) else
          (some false)))) else
       (bif (decide (d_0 = 3)) then (bif b_0 then (some b_1) else
         (some false)) else
        (bif (decide (d_0 = 4)) then (bif b_0 then (some b_1) else
          (some false)) else
         (some false)))) else
      (bif (decide (d_0 = 3)) then (bif b_0 then (some b_1) else
        (some false)) else
       (bif (decide (d_0 = 4)) then (bif b_0 then (some b_1) else
         (some false)) else
        (some false))))) else
    (bif (decide (d_0 = 2)) then (bif b_0 then (bif (decide (d_2 = 0)) then (some true) else
       (bif (decide (d_0 = 3)) then (bif b_0 then (some b_1) else
         (some false)) else
        (bif (decide (d_0 = 4)) then (bif b_0 then (some b_1) else
          (some false)) else
         (some false)))) else
      (bif (decide (d_0 = 3)) then (bif b_0 then (some b_1) else
        (some false)) else
       (bif (decide (d_0 = 4)) then (bif b_0 then (some b_1) else
         (some false)) else
        (some false)))) else
     (bif (decide (d_0 = 3)) then (bif b_0 then (some b_1) else
       (some false)) else
      (bif (decide (d_0 = 4)) then (bif b_0 then (some b_1) else
        (some false)) else
       (some false))))) else
   (bif (decide (d_0 = 2)) then (bif b_0 then (bif (decide (d_2 = 0)) then (some true) else
      (bif (decide (d_0 = 3)) then (bif b_0 then (some b_1) else
        (some false)) else
       (bif (decide (d_0 = 4)) then (bif b_0 then (some b_1) else
         (some false)) else
        (some false)))) else
     (bif (decide (d_0 = 3)) then (bif b_0 then (some b_1) else
       (some false)) else
      (bif (decide (d_0 = 4)) then (bif b_0 then (some b_1) else
        (some false)) else
       (some false)))) else
    (bif (decide (d_0 = 3)) then (bif b_0 then (some b_1) else
      (some false)) else
     (bif (decide (d_0 = 4)) then (bif b_0 then (some b_1) else
       (some false)) else
      (some false))))) fun b_2 =>
  bif b_2 then (some [(.i 0)]) else
  (some [(.i 2)])
noncomputable def F_ref01_Leap : List Dat → Option (List Dat) := fun ds_0 =>
  onI ds_0 fun y_0 ds_1 =>
  Option.bind (bif (decide ((Int.tmod y_0 4) = 0)) then (bif (!decide ((Int.tmod y_0 100) = 0)) then (some true) else
    (bif (decide ((Int.tmod y_0 400) = 0)) then (some true) else
     (some false))) else
   (bif (decide ((Int.tmod y_0 400) = 0)) then (some true) else
    (some false))) fun b_0 =>
  some [(.b b_0)]
noncomputable def F_ref01_Len : List Dat → Option (List Dat) := fun ds_0 =>
  onI ds_0 fun y_0 ds_1 =>
  onI ds_1 fun m_0 ds_2 =>
  bif (decide (m_0 = 1)) then (some [(.i 31)]) else
  (bif (decide (m_0 = 3)) then (some [(.i 31)]) else
   (bif (decide (m_0 = 5)) then (some [(.i 31)]) else
    (bif (decide (m_0 = 7)) then (some [(.i 31)]) else
     (bif (decide (m_0 = 8)) then (some [(.i 31)]) else
      (bif (decide (m_0 = 10)) then (some [(.i 31)]) else
       (Option.bind (bif (decide (m_0 = 12)) then (some true) else
         (some false)) fun b_0 =>
        bif b_0 then (some [(.i 31)]) else
        (bif (decide (m_0 = 4)) then (some [(.i 30)]) else
         (bif (decide (m_0 = 6)) then (some [(.i 30)]) else
          (bif (decide (m_0 = 9)) then (some [(.i 30)]) else
           (Option.bind (bif (decide (m_0 = 11)) then (some true) else
             (some false)) fun b_1 =>
            bif b_1 then (some [(.i 30)]) else
            (bif (decide (m_0 = 2)) then (Option.bind (F_ref01_Leap [(.i y_0)]) fun r_0 =>
              onB r_0 fun b_2 ds_3 =>
              bif b_2 then (some [(.i 29)]) else
              (some [(.i 28)])) else
             (some [(.i 0)]))))))))))))
noncomputable def F_ref01_in : List Dat → Option (List Dat) := fun ds_0 =>
  onI ds_0 fun y_0 ds_1 =>
  Option.bind (bif (decide ((-2000000000) ≤ y_0)) then (bif (decide (y_0 ≤ 2000000000)) then (some true) else
    (some false)) else
   (some false)) fun b_0 =>
  some [(.b b_0)]
noncomputable def F_ref01_floor : List Dat → Option (List Dat) := fun ds_0 =>
  onI ds_0 fun a_0 ds_1 =>
  onI ds_1 fun b_0 ds_2 =>
  bif (b_0 != 0) then (bif (b_0 != 0) then (bif (decide ((Int.tmod a_0 b_0) < 0)) then (some [(.i (i64 ((i64 (Int.tdiv a_0 b_0)) - 1)))]) else
  (some [(.i (i64 (Int.tdiv a_0 b_0)))])) else none) else none
noncomputable def F_ref01_size : List Dat → Option (List Dat) := fun ds_0 =>
  onI ds_0 fun y_0 ds_1 =>
  Option.bind (F_ref01_Leap [(.i y_0)]) fun r_0 =>
  onB r_0 fun b_0 ds_2 =>
  bif b_0 then (some [(.i 366)]) else
  (some [(.i 365)])
noncomputable def F_ref01_first_L0 : List Dat → Option (List Dat ⊕ List Dat) := fun ds_3 =>
  onI ds_3 fun y_1 ds_4 =>
  onI ds_4 fun days_0 ds_5 =>
  onI ds_5 fun i_1 ds_6 =>
  bif (decide (i_1 < y_1)) then (Option.bind (F_ref01_size [(.i i_1)]) fun r_1 =>
   onI r_1 fun i_2 ds_7 =>
   some (.inl [(.i y_1), (.i (i64 (days_0 + i_2))), (.i (i64 (i_1 + 1)))])) else
  (Option.map .inr (some [(.i days_0)]))
noncomputable def F_ref01_first : List Dat → Option (List Dat) := fun ds_0 =>
  onI ds_0 fun y_0 ds_1 =>
  Option.bind (F_ref01_floor [(.i y_0), (.i 400)]) fun r_0 =>
  onI r_0 fun i_0 ds_2 =>
  iter F_ref01_first_L0 [(.i y_0), (.i (i64 ((i64 (i_0 * 146097)) - 719528))), (.i (i64 (i_0 * 400)))]
noncomputable def F_ref01_Days_L0 : List Dat → Option (List Dat ⊕ List Dat) := fun ds_7 =>
  onI ds_7 fun y_1 ds_8 =>
  onI ds_8 fun m_1 ds_9 =>
  onI ds_9 fun d_1 ds_10 =>
  onI ds_10 fun days_0 ds_11 =>
  onI ds_11 fun i_2 ds_12 =>
  bif (decide (i_2 < m_1)) then (Option.bind (F_ref01_Len [(.i y_1), (.i i_2)]) fun r_3 =>
   onI r_3 fun i_3 ds_13 =>
   some (.inl [(.i y_1), (.i m_1), (.i d_1), (.i (i64 (days_0 + i_3))), (.i (i64 (i_2 + 1)))])) else
  (Option.map .inr (some [(.i (i64 ((i64 (days_0 + d_1)) - 1))), (.i 0)]))
noncomputable def F_ref01_Days : List Dat → Option (List Dat) := fun ds_0 =>
  onI ds_0 fun y_0 ds_1 =>
  onI ds_1 fun m_0 ds_2 =>
  onI ds_2 fun d_0 ds_3 =>
  Option.bind (F_ref01_in [(.i y_0)]) fun r_0 =>
  onB r_0 fun b_0 ds_4 =>
  bif (!b_0) then (some [(.i 0), (.i 3)]) else
  (bif (decide (d_0 < 1)) then (some [(.i 0), (.i 3)]) else
   (Option.bind (F_ref01_Len [(.i y_0), (.i m_0)]) fun r_1 =>
    onI r_1 fun i_0 ds_5 =>
    bif (decide (i_0 < d_0)) then (some [(.i 0), (.i 3)]) else
    (Option.bind (F_ref01_first [(.i y_0)]) fun r_2 =>
     onI r_2 fun i_1 ds_6 =>
     iter F_ref01_Days_L0 [(.i y_0), (.i m_0), (.i d_0), (.i i_1), (.i 1)])))
noncomputable def F_ref01_Weekday : List Dat → Option (List Dat) := fun ds_0 =>
  onI ds_0 fun days_0 ds_1 =>
  some [(.i (Int.tmod (i64 ((Int.tmod days_0 7) + 11)) 7))]
noncomputable def F_ref02_On_L0 : List Dat → Option (List Dat ⊕ List Dat) := fun ds_11 =>
  onI ds_11 fun x_0 ds_12 =>
  onI ds_12 fun c_0 ds_13 =>
  onI ds_13 fun c_1 ds_14 =>
  onI ds_14 fun c_2 ds_15 =>
  Option.bind (F_ref01_Weekday [(.i x_0)]) fun r_4 =>
  onI r_4 fun i_4 ds_16 =>
  bif (!decide (i_4 = c_1)) then (some (.inl [(.i (i64 (x_0 + 1))), (.i c_0), (.i c_1), (.i c_2)])) else
  (Option.map .inr (some [(.i x_0), (.i 0)]))
noncomputable def F_ref02_On_L1 : List Dat → Option (List Dat ⊕ List Dat) := fun ds_18 =>
  onI ds_18 fun x_1 ds_19 =>
  onI ds_19 fun c_3 ds_20 =>
  onI ds_20 fun c_4 ds_21 =>
  onI ds_21 fun c_5 ds_22 =>
  Option.bind (F_ref01_Weekday [(.i x_1)]) fun r_6 =>
  onI r_6 fun i_6 ds_23 =>
  bif (!decide (i_6 = c_4)) then (some (.inl [(.i (i64 (x_1 - 1))), (.i c_3), (.i c_4), (.i c_5)])) else
  (Option.map .inr (some [(.i x_1), (.i 0)]))
noncomputable def F_ref02_On_L2 : List Dat → Option (List Dat ⊕ List Dat) := fun ds_24 =>
  onI ds_24 fun i_7 ds_25 =>
  onI ds_25 fun i_8 ds_26 =>
  onI ds_26 fun i_9 ds_27 =>
  onI ds_27 fun i_10 ds_28 =>
  Option.bind (F_ref01_Weekday [(.i i_7)]) fun r_7 =>
  onI r_7 fun i_11 ds_29 =>
  bif (!decide (i_11 = i_9)) then (some (.inl [(.i (i64 (i_7 - 1))), (.i i_8), (.i i_9), (.i i_10)])) else
  (Option.map .inr (some [(.i i_7), (.i 0)]))
noncomputable def F_ref02_On : List Dat → Option (List Dat) := fun ds_0 =>
  onI ds_0 fun y_0 ds_1 =>
  onI ds_1 fun m_0 ds_2 =>
  onI ds_2 fun d_0 ds_3 =>
  onI ds_3 fun d_1 ds_4 =>
  onI ds_4 fun d_2 ds_5 =>
  Option.bind (F_ref02_in [(.i m_0), (.i 1), (.i 12)]) fun r_0 =>
  onB r_0 fun b_0 ds_6 =>
  bif (!b_0) then (some [(.i 0), (.i 3)]) else
  (bif (decide (y_0 < (-2000000000))) then (some [(.i 0), (.i 3)]) else
   (bif (decide (2000000000 < y_0)) then (some [(.i 0), (.i 3)]) else
    (Option.bind (F_ref02_Check [(.i d_0), (.i d_1), (.i d_2)]) fun r_1 =>
     onI r_1 fun i_0 ds_7 =>
     bif (!decide (i_0 = 0)) then (some [(.i 0), (.i 2)]) else
     (Option.bind (F_ref01_Len [(.i y_0), (.i m_0)]) fun r_2 =>
      onI r_2 fun i_1 ds_8 =>
      bif (decide (i_1 < d_2)) then (some [(.i 0), (.i 4)]) else
      (Option.bind (F_ref01_Days [(.i y_0), (.i m_0), (.i 1)]) fun r_3 =>
       onI r_3 fun i_2 ds_9 =>
       onI ds_9 fun i_3 ds_10 =>
       bif (decide (d_0 = 1)) then (some [(.i (i64 ((i64 (i_2 + d_2)) - 1))), (.i 0)]) else
       (bif (decide (d_0 = 3)) then (iter F_ref02_On_L0 [(.i (i64 ((i64 (i_2 + d_2)) - 1))), (.i d_0), (.i d_1), (.i d_2)]) else
        (bif (decide (d_0 = 2)) then (Option.bind (F_ref01_Len [(.i y_0), (.i m_0)]) fun r_5 =>
          onI r_5 fun i_5 ds_17 =>
          iter F_ref02_On_L1 [(.i (i64 ((i64 (i_2 + i_5)) - 1))), (.i d_0), (.i d_1), (.i d_2)]) else
         (iter F_ref02_On_L2 [(.i (i64 ((i64 (i_2 + d_2)) - 1))), (.i d_0), (.i d_1), (.i d_2)]))))))))
noncomputable def F_ref22_Check : List Dat → Option (List Dat) := fun ds_0 =>
  onB ds_0 fun u_0 ds_1 =>
  onI ds_1 fun u_1 ds_2 =>
  onI ds_2 fun u_2 ds_3 =>
  onI ds_3 fun u_3 ds_4 =>
  onI ds_4 fun u_4 ds_5 =>
  onI ds_5 fun u_5 ds_6 =>
  onI ds_6 fun u_6 ds_7 =>
  onI ds_7 fun u_7 ds_8 =>
  onI ds_8 fun least_0 ds_9 =>
  Option.bind (bif (decide (least_0 < (-10800))) then (some true) else
   (bif (decide (0 < least_0)) then (some true) else
    (some false))) fun b_0 =>
  bif b_0 then (some [(.i 2)]) else
  (bif (!u_0) then (some [(.i 4)]) else
   (Option.bind (bif (decide (u_1 < 1850)) then (some true) else
     (bif (decide (2149 < u_1)) then (some true) else
      (bif (decide (u_7 < 0)) then (some true) else
       (bif (decide (2 < u_7)) then (some true) else
        (some false))))) fun b_1 =>
    bif b_1 then (some [(.i 3)]) else
    (Option.bind (F_ref02_On [(.i u_1), (.i u_2), (.i u_3), (.i u_4), (.i u_5)]) fun r_0 =>
     onI r_0 fun i_0 ds_10 =>
     onI ds_10 fun i_1 ds_11 =>
     bif (!decide (i_1 = 0)) then (some [(.i 3)]) else
     (bif (decide (u_7 = 1)) then (Option.bind (bif (decide (u_6 < (i64 ((-86400) - least_0)))) then (some true) else
        (bif (decide ((i64 (172800 - least_0)) < u_6)) then (some true) else
         (some false))) fun b_2 =>
       bif b_2 then (some [(.i 3)]) else
       (some [(.i 0)])) else
      (Option.bind (bif (decide (u_6 < (-86400))) then (some true) else
        (bif (decide (172800 < u_6)) then (some true) else
         (some false))) fun b_3 =>
       bif b_3 then (some [(.i 3)]) else
       (some [(.i 0)]))))))
noncomputable def F_ref22_seconds : List Dat → Option (List Dat) := fun ds_0 =>
  onB ds_0 fun u_0 ds_1 =>
  onI ds_1 fun u_1 ds_2 =>
  onI ds_2 fun u_2 ds_3 =>
  onI ds_3 fun u_3 ds_4 =>
  onI ds_4 fun u_4 ds_5 =>
  onI ds_5 fun u_5 ds_6 =>
  onI ds_6 fun u_6 ds_7 =>
  onI ds_7 fun u_7 ds_8 =>
  Option.bind (F_ref02_On [(.i u_1), (.i u_2), (.i u_3), (.i u_4), (.i u_5)]) fun r_0 =>
  onI r_0 fun i_0 ds_9 =>
  onI ds_9 fun i_1 ds_10 =>
  some [(.i (i64 ((i64 (86400 * i_0)) + u_6)))]
noncomputable def F_ref22_Nominal : List Dat → Option (List Dat) := fun ds_0 =>
  onB ds_0 fun u_0 ds_1 =>
  onI ds_1 fun u_1 ds_2 =>
  onI ds_2 fun u_2 ds_3 =>
  onI ds_3 fun u_3 ds_4 =>
  onI ds_4 fun u_4 ds_5 =>
  onI ds_5 fun u_5 ds_6 =>
  onI ds_6 fun u_6 ds_7 =>
  onI ds_7 fun u_7 ds_8 =>
  onI ds_8 fun least_0 ds_9 =>
  Option.bind (F_ref22_Check [(.b u_0), (.i u_1), (.i u_2), (.i u_3), (.i u_4), (.i u_5), (.i u_6), (.i u_7), (.i least_0)]) fun r_0 =>
  onI r_0 fun i_0 ds_10 =>
  bif (!decide (i_0 = 0)) then (some [(.i 0), (.i i_0)]) else
  (bif (decide (u_7 = 1)) then (Option.bind (F_ref22_seconds [(.b u_0), (.i u_1), (.i u_2), (.i u_3), (.i u_4), (.i u_5), (.i u_6), (.i u_7)]) fun r_1 =>
    onI r_1 fun i_1 ds_11 =>
    some [(.i (i64 (i_1 + least_0))), (.i 0)]) else
   (Option.bind (F_ref22_seconds [(.b u_0), (.i u_1), (.i u_2), (.i u_3), (.i u_4), (.i u_5), (.i u_6), (.i u_7)]) fun r_2 =>
    onI r_2 fun i_2 ds_12 =>
    some [(.i i_2), (.i 0)]))
noncomputable def F_until_Check : List Dat → Option (List Dat) := fun ds_0 =>
  onB ds_0 fun u_0 ds_1 =>
  onI ds_1 fun u_1 ds_2 =>
  onI ds_2 fun u_2 ds_3 =>
  onI ds_3 fun u_3 ds_4 =>
  onI ds_4 fun u_4 ds_5 =>
  onI ds_5 fun u_5 ds_6 =>
  onI ds_6 fun u_6 ds_7 =>
  onI ds_7 fun u_7 ds_8 =>
  onI ds_8 fun least_0 ds_9 =>
  Option.bind (F_until_Nominal [(.b u_0), (.i u_1), (.i u_2), (.i u_3), (.i u_4), (.i u_5), (.i u_6), (.i u_7), (.i least_0)]) fun r_0 =>
  onI r_0 fun i_0 ds_10 =>
  onI ds_10 fun i_1 ds_11 =>
  some [(.i i_1)]
noncomputable def F_law22_end : List Dat → Option (List Dat) := fun ds_0 =>
  onI ds_0 fun y_0 ds_1 =>
  onI ds_1 fun m_0 ds_2 =>
  onI ds_2 fun d_0 ds_3 =>
  onI ds_3 fun sec_0 ds_4 =>
  onI ds_4 fun base_0 ds_5 =>
  some [(.b true), (.i y_0), (.i m_0), (.i 1), (.i 0), (.i d_0), (.i sec_0), (.i base_0)]
noncomputable def F_until_moderate : List Dat → Option (List Dat) := fun ds_0 =>
  onI ds_0 fun x_0 ds_1 =>
  Option.bind (bif (decide ((-604799) ≤ x_0)) then (bif (decide (x_0 ≤ 604799)) then (some true) else
    (some false)) else
   (some false)) fun b_0 =>
  some [(.b b_0)]
noncomputable def F_ruleset_Least_L0 : List Dat → Option (List Dat ⊕ List Dat) := fun ds_3 =>
  onI ds_3 fun least_0 ds_4 =>
  onN ds_4 fun vn_0 ds_5 =>
  onL ds_5 fun vl_0 ds_6 =>
  onI ds_6 fun v_0 ds_7 =>
  onI ds_7 fun v_1 ds_8 =>
  bif (decide (v_1 < v_0)) then (bif (decide ((0 ≤ v_1) ∧ (v_1 < ((vn_0 : Nat) : Int)))) then (Option.bind (asS ((List.drop ((v_1).toNat * 11) vl_0))[0]?) fun s_0 =>
   Option.bind (asI .i64 ((List.drop 1 (List.drop ((v_1).toNat * 11) vl_0)))[0]?) fun x_0 =>
   Option.bind (asI .i64 ((List.drop 1 (List.drop 1 (List.drop ((v_1).toNat * 11) vl_0))))[0]?) fun x_1 =>
   Option.bind (asI .i64 ((List.drop 1 (List.drop 1 (List.drop 1 (List.drop ((v_1).toNat * 11) vl_0)))))[0]?) fun x_2 =>
   Option.bind (asI .i64 ((List.drop 1 (List.drop 1 (List.drop 1 (List.drop 1 (List.drop ((v_1).toNat * 11) vl_0))))))[0]?) fun x_3 =>
   Option.bind (asI .i64 ((List.drop 1 (List.drop 1 (List.drop 1 (List.drop 1 (List.drop 1 (List.drop ((v_1).toNat * 11) vl_0)))))))[0]?) fun x_4 =>
   Option.bind (asI .i64 ((List.drop 1 (List.drop 1 (List.drop 1 (List.drop 1 (List.drop 1 (List.drop 1 (List.drop ((v_1).toNat * 11) vl_0))))))))[0]?) fun x_5 =>
   Option.bind (asI .i64 ((List.drop 1 (List.drop 1 (List.drop 1 (List.drop 1 (List.drop 1 (List.drop 1 (List.drop 1 (List.drop ((v_1).toNat * 11) vl_0)))))))))[0]?) fun x_6 =>
   Option.bind (asI .i64 ((List.drop 1 (List.drop 1 (List.drop 1 (List.drop 1 (List.drop 1 (List.drop 1 (List.drop 1 (List.drop 1 (List.drop ((v_1).toNat * 11) vl_0))))))))))[0]?) fun x_7 =>
   Option.bind (asI .i64 ((List.drop 1 (List.drop 1 (List.drop 1 (List.drop 1 (List.drop 1 (List.drop 1 (List.drop 1 (List.drop 1 (List.drop 1 (List.drop ((v_1).toNat * 11) vl_0)))))))))))[0]?) fun x_8 =>
   Option.bind (asS ((List.drop 1 (List.drop 1 (List.drop 1 (List.drop 1 (List.drop 1 (List.drop 1 (List.drop 1 (List.drop 1 (List.drop 1 (List.drop 1 (List.drop ((v_1).toNat * 11) vl_0))))))))))))[0]?) fun s_1 =>
   some (.inl [(.i (if x_8 < least_0 then x_8 else least_0)), (.n vn_0), (.l vl_0), (.i v_0), (.i (i64 (v_1 + 1)))])) else none) else
  (Option.map .inr (some [(.i least_0)]))
noncomputable def F_ruleset_Least : List Dat → Option (List Dat) := fun ds_0 =>
  onN ds_0 fun ln_0 ds_1 =>
  onL ds_1 fun ll_0 ds_2 =>
  iter F_ruleset_Least_L0 [(.i 0), (.n ln_0), (.l ll_0), (.i ((ln_0 : Nat) : Int)), (.i 0)]
noncomputable def F_until_baseSave : List Dat → Option (List Dat) := fun ds_0 =>
  onI ds_0 fun e_0 ds_1 =>
  onI ds_1 fun e_1 ds_2 =>
  onI ds_2 fun e_2 ds_3 =>
  onS ds_3 fun e_3 ds_4 =>
  onS ds_4 fun e_4 ds_5 =>
  onB ds_5 fun e_5 ds_6 =>
  onI ds_6 fun e_6 ds_7 =>
  onI ds_7 fun e_7 ds_8 =>
  onI ds_8 fun e_8 ds_9 =>
  onI ds_9 fun e_9 ds_10 =>
  onI ds_10 fun e_10 ds_11 =>
  onI ds_11 fun e_11 ds_12 =>
  onI ds_12 fun e_12 ds_13 =>
  onN ds_13 fun ln_0 ds_14 =>
  onL ds_14 fun ll_0 ds_15 =>
  bif (!decide (e_1 = 2)) then (some [(.i 0)]) else
  (Option.bind (F_ruleset_Least [(.n ln_0), (.l ll_0)]) fun r_0 =>
   onI r_0 fun i_0 ds_16 =>
   some [(.i (if (-10800) > i_0 then (-10800) else i_0))])
noncomputable def F_events_baseSave : List Dat → Option (List Dat) := fun ds_0 =>
  onN ds_0 fun ln_0 ds_1 =>
  onL ds_1 fun ll_0 ds_2 =>
  Option.bind (F_ruleset_Least [(.n ln_0), (.l ll_0)]) fun r_0 =>
  onI r_0 fun i_0 ds_3 =>
  some [(.i (if (-10800) > i_0 then (-10800) else i_0))]
noncomputable def F_civil_fromMarch : List Dat → Option (List Dat) := fun ds_0 =>
  onI ds_0 fun day_0 ds_1 =>
  Option.bind (F_civil_floor [(.i (i64 ((i64 (5 * day_0)) + 2))), (.i 153)]) fun r_0 =>
  onI r_0 fun i_0 ds_2 =>
  Option.bind (F_civil_floor [(.i (i64 ((i64 (153 * i_0)) + 2))), (.i 5)]) fun r_1 =>
  onI r_1 fun i_1 ds_3 =>
  some [(.i (i64 ((Int.tmod (i64 (i_0 + 2)) 12) + 1))), (.i (i64 ((i64 (day_0 - i_1)) + 1)))]
noncomputable def F_civil_Date : List Dat → Option (List Dat) := fun ds_0 =>
  onI ds_0 fun days_0 ds_1 =>
  Option.bind (bif (decide (days_0 < (-730485719528))) then (some true) else
   (bif (decide (730484280837 < days_0)) then (some true) else
    (some false))) fun b_0 =>
  bif b_0 then (some [(.i 0), (.i 0), (.i 0), (.i 3)]) else
  (Option.bind (F_civil_floor [(.i (i64 (days_0 - (-719468)))), (.i 146097)]) fun r_0 =>
   onI r_0 fun i_0 ds_2 =>
   Option.bind (F_civil_fromMarch [(.i (i64 ((i64 ((i64 (days_0 - (-719468))) - (i64 (i_0 * 146097)))) - (i64 ((i64 ((i64 (365 * (i64 (Int.tdiv (i64 ((i64 ((i64 ((i64 ((i64 (days_0 - (-719468))) - (i64 (i_0 * 146097)))) - (i64 (Int.tdiv (i64 ((i64 (days_0 - (-719468))) - (i64 (i_0 * 146097)))) 1460)))) + (i64 (Int.tdiv (i64 ((i64 (days_0 - (-719468))) - (i64 (i_0 * 146097)))) 36524)))) - (i64 (Int.tdiv (i64 ((i64 (days_0 - (-719468))) - (i64 (i_0 * 146097)))) 146096)))) 365)))) + (i64 (Int.tdiv (i64 (Int.tdiv (i64 ((i64 ((i64 ((i64 ((i64 (days_0 - (-719468))) - (i64 (i_0 * 146097)))) - (i64 (Int.tdiv (i64 ((i64 (days_0 - (-719468))) - (i64 (i_0 * 146097)))) 1460)))) + (i64 (Int.tdiv (i64 ((i64 (days_0 - (-719468))) - (i64 (i_0 * 146097)))) 36524)))) - (i64 (Int.tdiv (i64 ((i64 (days_0 - (-719468))) - (i64 (i_0 * 146097)))) 146096)))) 365)) 4)))) - (i64 (Int.tdiv (i64 (Int.tdiv (i64 ((i64 ((i64 ((i64 ((i64 (days_0 - (-719468))) - (i64 (i_0 * 146097)))) - (i64 (Int.tdiv (i64 ((i64 (days_0 - (-719468))) - (i64 (i_0 * 146097)))) 1460)))) + (i64 (Int.tdiv (i64 ((i64 (days_0 - (-719468))) - (i64 (i_0 * 146097)))) 36524)))) - (i64 (Int.tdiv (i64 ((i64 (days_0 - (-719468))) - (i64 (i_0 * 146097)))) 146096)))) 365)) 100)))))))]) fun r_1 =>
   onI r_1 fun i_1 ds_3 =>
   onI ds_3 fun i_2 ds_4 =>
   bif (decide (i_1 ≤ 2)) then (some [(.i (i64 ((i64 ((i64 (Int.tdiv (i64 ((i64 ((i64 ((i64 ((i64 (days_0 - (-719468))) - (i64 (i_0 * 146097)))) - (i64 (Int.tdiv (i64 ((i64 (days_0 - (-719468))) - (i64 (i_0 * 146097)))) 1460)))) + (i64 (Int.tdiv (i64 ((i64 (days_0 - (-719468))) - (i64 (i_0 * 146097)))) 36524)))) - (i64 (Int.tdiv (i64 ((i64 (days_0 - (-719468))) - (i64 (i_0 * 146097)))) 146096)))) 365)) + (i64 (i_0 * 400)))) + 1))), (.i i_1), (.i i_2), (.i 0)]) else
   (some [(.i (i64 ((i64 (Int.tdiv (i64 ((i64 ((i64 ((i64 ((i64 (days_0 - (-719468))) - (i64 (i_0 * 146097)))) - (i64 (Int.tdiv (i64 ((i64 (days_0 - (-719468))) - (i64 (i_0 * 146097)))) 1460)))) + (i64 (Int.tdiv (i64 ((i64 (days_0 - (-719468))) - (i64 (i_0 * 146097)))) 36524)))) - (i64 (Int.tdiv (i64 ((i64 (days_0 - (-719468))) - (i64 (i_0 * 146097)))) 146096)))) 365)) + (i64 (i_0 * 400))))), (.i i_1), (.i i_2), (.i 0)]))
noncomputable def F_civil_Year : List Dat → Option (List Dat) := fun ds_0 =>
  onI ds_0 fun t_0 ds_1 =>
  Option.bind (F_civil_floor [(.i t_0), (.i 86400)]) fun r_0 =>
  onI r_0 fun i_0 ds_2 =>
  Option.bind (F_civil_Date [(.i (if 730484280837 < (if (-730485719528) > i_0 then (-730485719528) else i_0) then 730484280837 else (if (-730485719528) > i_0 then (-730485719528) else i_0)))]) fun r_1 =>
  onI r_1 fun i_1 ds_3 =>
  onI ds_3 fun i_2 ds_4 =>
  onI ds_4 fun i_3 ds_5 =>
  onI ds_5 fun i_4 ds_6 =>
  some [(.i i_1)]
noncomputable def F_cmp_isNaN : List Dat → Option (List Dat) := fun ds_0 =>
  onI ds_0 fun x_0 ds_1 =>
  Option.bind (bif (!decide (x_0 = x_0)) then (some true) else
   (some false)) fun b_0 =>
  some [(.b b_0)]
noncomputable def F_cmp_Compare : List Dat → Option (List Dat) := fun ds_0 =>
  onI ds_0 fun x_0 ds_1 =>
  onI ds_1 fun y_0 ds_2 =>
  Option.bind (F_cmp_isNaN [(.i x_0)]) fun r_0 =>
  onB r_0 fun b_0 ds_3 =>
  Option.bind (F_cmp_isNaN [(.i y_0)]) fun r_1 =>
  onB r_1 fun b_1 ds_4 =>
  bif b_0 then (bif b_1 then (some [(.i 0)]) else
   (some [(.i (-1))])) else
  (bif b_1 then (some [(.i 1)]) else
   (bif (decide (x_0 < y_0)) then (some [(.i (-1))]) else
    (bif (decide (y_0 < x_0)) then (some [(.i 1)]) else
     (some [(.i 0)]))))
noncomputable def F_cmp_isNaN_2 : List Dat → Option (List Dat) := fun ds_0 =>
  onI ds_0 fun x_0 ds_1 =>
  Option.bind (bif (!decide (x_0 = x_0)) then (some true) else
   (some false)) fun b_0 =>
  some [(.b b_0)]
noncomputable def F_cmp_Compare_2 : List Dat → Option (List Dat) := fun ds_0 =>
  onI ds_0 fun x_0 ds_1 =>
  onI ds_1 fun y_0 ds_2 =>
  Option.bind (F_cmp_isNaN_2 [(.i x_0)]) fun r_0 =>
  onB r_0 fun b_0 ds_3 =>
  Option.bind (F_cmp_isNaN_2 [(.i y_0)]) fun r_1 =>
  onB r_1 fun b_1 ds_4 =>
  bif b_0 then (bif b_1 then (some [(.i 0)]) else
   (some [(.i (-1))])) else
  (bif b_1 then (some [(.i 1)]) else
   (bif (decide (x_0 < y_0)) then (some [(.i (-1))]) else
    (bif (decide (y_0 < x_0)) then (some [(.i 1)]) else
     (some [(.i 0)]))))
noncomputable def F_cmp_Or_L0 : List Dat → Option (List Dat ⊕ List Dat) := fun ds_3 =>
  onN ds_3 fun vn_0 ds_4 =>
  onL ds_4 fun vl_0 ds_5 =>
  onI ds_5 fun v_0 ds_6 =>
  onI ds_6 fun v_1 ds_7 =>
  bif (decide (v_1 < v_0)) then (bif (decide ((0 ≤ v_1) ∧ (v_1 < ((vn_0 : Nat) : Int)))) then (Option.bind (asI .i64 (vl_0)[(v_1).toNat]?) fun x_0 =>
   bif (!decide (x_0 = 0)) then (Option.map .inr (some [(.i x_0)])) else
   (some (.inl [(.n vn_0), (.l vl_0), (.i v_0), (.i (i64 (v_1 + 1)))]))) else none) else
  (Option.map .inr (some [(.i 0)]))
noncomputable def F_cmp_Or : List Dat → Option (List Dat) := fun ds_0 =>
  onN ds_0 fun valsn_0 ds_1 =>
  onL ds_1 fun valsl_0 ds_2 =>
  iter F_cmp_Or_L0 [(.n valsn_0), (.l valsl_0), (.i ((valsn_0 : Nat) : Int)), (.i 0)]
noncomputable def F_events_compare : List Dat → Option (List Dat) := fun ds_0 =>
  onI ds_0 fun a_0 ds_1 =>
  onI ds_1 fun a_1 ds_2 =>
  onI ds_2 fun a_2 ds_3 =>
  onI ds_3 fun b_0 ds_4 =>
  onI ds_4 fun b_1 ds_5 =>
  onI ds_5 fun b_2 ds_6 =>
  Option.bind (F_cmp_Compare [(.i a_2), (.i b_2)]) fun r_0 =>
  onI r_0 fun i_0 ds_7 =>
  Option.bind (F_cmp_Compare_2 [(.i a_1), (.i b_1)]) fun r_1 =>
  onI r_1 fun i_1 ds_8 =>
  Option.bind (F_cmp_Compare [(.i a_0), (.i b_0)]) fun r_2 =>
  onI r_2 fun i_2 ds_9 =>
  bif (decide (3 ≤ ([(Ax.AV.int .i64 (Ax.I.sym i_0)), (Ax.AV.int .i64 (Ax.I.sym i_1)), (Ax.AV.int .i64 (Ax.I.sym i_2))]).length)) then (Option.bind (F_cmp_Or [(.n 3), (.l [(Ax.AV.int .i64 (Ax.I.sym i_0)), (Ax.AV.int .i64 (Ax.I.sym i_1)), (Ax.AV.int .i64 (Ax.I.sym i_2))])]) fun r_3 =>
   onI r_3 fun i_3 ds_10 =>
   some [(.i i_3)]) else
  (none)
noncomputable def F_state_baseSave_L0 : List Dat → Option (List Dat ⊕ List Dat) := fun ds_3 =>
  onI ds_3 fun least_0 ds_4 =>
  onN ds_4 fun vn_0 ds_5 =>
  onL ds_5 fun vl_0 ds_6 =>
  onI ds_6 fun v_0 ds_7 =>
  onI ds_7 fun v_1 ds_8 =>
  bif (decide (v_1 < v_0)) then (bif (decide ((0 ≤ v_1) ∧ (v_1 < ((vn_0 : Nat) : Int)))) then (Option.bind (asS ((List.drop ((v_1).toNat * 11) vl_0))[0]?) fun s_0 =>
   Option.bind (asI .i64 ((List.drop 1 (List.drop ((v_1).toNat * 11) vl_0)))[0]?) fun x_0 =>
   Option.bind (asI .i64 ((List.drop 1 (List.drop 1 (List.drop ((v_1).toNat * 11) vl_0))))[0]?) fun x_1 =>
   Option.bind (asI .i64 ((List.drop 1 (List.drop 1 (List.drop 1 (List.drop ((v_1).toNat * 11) vl_0)))))[0]?) fun x_2 =>
   Option.bind (asI .i64 ((List.drop 1 (List.drop 1 (List.drop 1 (List.drop 1 (List.drop ((v_1).toNat * 11) vl_0))))))[0]?) fun x_3 =>
   Option.bind (asI .i64 ((List.drop 1 (List.drop 1 (List.drop 1 (List.drop 1 (List.drop 1 (List.drop ((v_1).toNat * 11) vl_0)))))))[0]?) fun x_4 =>
   Option.bind (asI .i64 ((List.drop 1 (List.drop 1 (List.drop 1 (List.drop 1 (List.drop 1 (List.drop 1 (List.drop ((v_1).toNat * 11) vl_0))))))))[0]?) fun x_5 =>
   Option.bind (asI .i64 ((List.drop 1 (List.drop 1 (List.drop 1 (List.drop 1 (List.drop 1 (List.drop 1 (List.drop 1 (List.drop ((v_1).toNat * 11) vl_0)))))))))[0]?) fun x_6 =>
   Option.bind (asI .i64 ((List.drop 1 (List.drop 1 (List.drop 1 (List.drop 1 (List.drop 1 (List.drop 1 (List.drop 1 (List.drop 1 (List.drop ((v_1).toNat * 11) vl_0))))))))))[0]?) fun x_7 =>
   Option.bind (asI .i64 ((List.drop 1 (List.drop 1 (List.drop 1 (List.drop 1 (List.drop 1 (List.drop 1 (List.drop 1 (List.drop 1 (List.drop 1 (List.drop ((v_1).toNat * 11) vl_0)))))))))))[0]?) fun x_8 =>
   Option.bind (asS ((List.drop 1 (List.drop 1 (List.drop 1 (List.drop 1 (List.drop 1 (List.drop 1 (List.drop 1 (List.drop 1 (List.drop 1 (List.drop 1 (List.drop ((v_1).toNat * 11) vl_0))))))))))))[0]?) fun s_1 =>
   some (.inl [(.i (if x_8 < least_0 then x_8 else least_0)), (.n vn_0), (.l vl_0), (.i v_0), (.i (i64 (v_1 + 1)))])) else none) else
  (Option.map .inr (some [(.i (if (-10800) > least_0 then (-10800) else least_0))]))
noncomputable def F_state_baseSave : List Dat → Option (List Dat) := fun ds_0 =>
  onN ds_0 fun ln_0 ds_1 =>
  onL ds_1 fun ll_0 ds_2 =>
  iter F_state_baseSave_L0 [(.i 0), (.n ln_0), (.l ll_0), (.i ((ln_0 : Nat) : Int)), (.i 0)]
noncomputable def F_state_behind : List Dat → Option (List Dat) := fun ds_0 =>
  onN ds_0 fun ln_0 ds_1 =>
  onL ds_1 fun ll_0 ds_2 =>
  onI ds_2 fun e_0 ds_3 =>
  onI ds_3 fun e_1 ds_4 =>
  onI ds_4 fun e_2 ds_5 =>
  bif (decide ((0 ≤ e_1) ∧ (e_1 < ((ln_0 : Nat) : Int)))) then (Option.bind (asI .i64 (ll_0)[(((e_1).toNat * 11) + 9)]?) fun x_0 =>
  bif (decide ((0 ≤ e_1) ∧ (e_1 < ((ln_0 : Nat) : Int)))) then (Option.bind (asS (ll_0)[(((e_1).toNat * 11) + 10)]?) fun s_0 =>
  some [(.i x_0), (.s s_0)]) else none) else none
noncomputable def F_until_saveBefore : List Dat → Option (List Dat) := fun ds_0 =>
  onI ds_0 fun e_0 ds_1 =>
  onI ds_1 fun e_1 ds_2 =>
  onI ds_2 fun e_2 ds_3 =>
  onS ds_3 fun e_3 ds_4 =>
  onS ds_4 fun e_4 ds_5 =>
  onB ds_5 fun e_5 ds_6 =>
  onI ds_6 fun e_6 ds_7 =>
  onI ds_7 fun e_7 ds_8 =>
  onI ds_8 fun e_8 ds_9 =>
  onI ds_9 fun e_9 ds_10 =>
  onI ds_10 fun e_10 ds_11 =>
  onI ds_11 fun e_11 ds_12 =>
  onI ds_12 fun e_12 ds_13 =>
  onN ds_13 fun ln_0 ds_14 =>
  onL ds_14 fun ll_0 ds_15 =>
  onI ds_15 fun nominal_0 ds_16 =>
  bif (decide (e_1 = 1)) then (some [(.i e_2)]) else
  (bif (decide (e_1 = 2)) then (Option.bind (F_events_baseSave [(.n ln_0), (.l ll_0)]) fun r_0 =>
    onI r_0 fun i_0 ds_17 =>
    Option.bind (F_civil_Year [(.i nominal_0)]) fun r_1 =>
    onI r_1 fun i_1 ds_18 =>
    none) else
   (some [(.i 0)]))
noncomputable def F_until_Instant : List Dat → Option (List Dat) := fun ds_0 =>
  onI ds_0 fun e_0 ds_1 =>
  onI ds_1 fun e_1 ds_2 =>
  onI ds_2 fun e_2 ds_3 =>
  onS ds_3 fun e_3 ds_4 =>
  onS ds_4 fun e_4 ds_5 =>
  onB ds_5 fun e_5 ds_6 =>
  onI ds_6 fun e_6 ds_7 =>
  onI ds_7 fun e_7 ds_8 =>
  onI ds_8 fun e_8 ds_9 =>
  onI ds_9 fun e_9 ds_10 =>
  onI ds_10 fun e_10 ds_11 =>
  onI ds_11 fun e_11 ds_12 =>
  onI ds_12 fun e_12 ds_13 =>
  onN ds_13 fun ln_0 ds_14 =>
  onL ds_14 fun ll_0 ds_15 =>
  Option.bind (bif (decide (e_1 < 0)) then (some true) else
   (bif (decide (2 < e_1)) then (some true) else
    (some false))) fun b_0 =>
  bif b_0 then (some [(.i 0), (.i 2)]) else
  (Option.bind (F_until_moderate [(.i e_0)]) fun r_0 =>
   onB r_0 fun b_1 ds_16 =>
   bif (!b_1) then (some [(.i 0), (.i 3)]) else
   (bif (decide (e_1 = 1)) then (Option.bind (F_until_moderate [(.i e_2)]) fun r_1 =>
     onB r_1 fun b_2 ds_17 =>
     bif (!b_2) then (some [(.i 0), (.i 3)]) else
     (Option.bind (F_until_baseSave [(.i e_0), (.i e_1), (.i e_2), (.s e_3), (.s e_4), (.b e_5), (.i e_6), (.i e_7), (.i e_8), (.i e_9), (.i e_10), (.i e_11), (.i e_12), (.n ln_0), (.l ll_0)]) fun r_2 =>
      onI r_2 fun i_0 ds_18 =>
      Option.bind (F_until_Nominal [(.b e_5), (.i e_6), (.i e_7), (.i e_8), (.i e_9), (.i e_10), (.i e_11), (.i e_12), (.i i_0)]) fun r_3 =>
      onI r_3 fun i_1 ds_19 =>
      onI ds_19 fun i_2 ds_20 =>
      bif (!decide (i_2 = 0)) then (some [(.i 0), (.i i_2)]) else
      (Option.bind (F_until_saveBefore [(.i e_0), (.i e_1), (.i e_2), (.s e_3), (.s e_4), (.b e_5), (.i e_6), (.i e_7), (.i e_8), (.i e_9), (.i e_10), (.i e_11), (.i e_12), (.n ln_0), (.l ll_0), (.i i_1)]) fun r_4 =>
       onI r_4 fun i_3 ds_21 =>
       Option.bind (F_until_moderate [(.i i_3)]) fun r_5 =>
       onB r_5 fun b_3 ds_22 =>
       bif (!b_3) then (some [(.i 0), (.i 3)]) else
       (bif (decide (e_12 = 1)) then (bif (decide (e_12 = 0)) then (some [(.i (i64 ((i64 ((i64 (i_1 - i_0)) - i_3)) - e_0))), (.i 0)]) else
         (bif (decide (e_12 = 1)) then (some [(.i (i64 ((i64 (i_1 - i_0)) - e_0))), (.i 0)]) else
          (some [(.i (i64 (i_1 - i_0))), (.i 0)]))) else
        (bif (decide (e_12 = 0)) then (some [(.i (i64 ((i64 (i_1 - i_3)) - e_0))), (.i 0)]) else
         (bif (decide (e_12 = 1)) then (some [(.i (i64 (i_1 - e_0))), (.i 0)]) else
          (some [(.i i_1), (.i 0)]))))))) else
    (Option.bind (F_until_baseSave [(.i e_0), (.i e_1), (.i e_2), (.s e_3), (.s e_4), (.b e_5), (.i e_6), (.i e_7), (.i e_8), (.i e_9), (.i e_10), (.i e_11), (.i e_12), (.n ln_0), (.l ll_0)]) fun r_6 =>
     onI r_6 fun i_4 ds_23 =>
     Option.bind (F_until_Nominal [(.b e_5), (.i e_6), (.i e_7), (.i e_8), (.i e_9), (.i e_10), (.i e_11), (.i e_12), (.i i_4)]) fun r_7 =>
     onI r_7 fun i_5 ds_24 =>
     onI ds_24 fun i_6 ds_25 =>
     bif (!decide (i_6 = 0)) then (some [(.i 0), (.i i_6)]) else
     (Option.bind (F_until_saveBefore [(.i e_0), (.i e_1), (.i e_2), (.s e_3), (.s e_4), (.b e_5), (.i e_6), (.i e_7), (.i e_8), (.i e_9), (.i e_10), (.i e_11), (.i e_12), (.n ln_0), (.l ll_0), (.i i_5)]) fun r_8 =>
      onI r_8 fun i_7 ds_26 =>
      Option.bind (F_until_moderate [(.i i_7)]) fun r_9 =>
      onB r_9 fun b_4 ds_27 =>
      bif (!b_4) then (some [(.i 0), (.i 3)]) else
      (bif (decide (e_12 = 1)) then (bif (decide (e_12 = 0)) then (some [(.i (i64 ((i64 ((i64 (i_5 - i_4)) - i_7)) - e_0))), (.i 0)]) else
        (bif (decide (e_12 = 1)) then (some [(.i (i64 ((i64 (i_5 - i_4)) - e_0))), (.i 0)]) else
         (some [(.i (i64 (i_5 - i_4))), (.i 0)]))) else
       (bif (decide (e_12 = 0)) then (some [(.i (i64 ((i64 (i_5 - i_7)) - e_0))), (.i 0)]) else
        (bif (decide (e_12 = 1)) then (some [(.i (i64 (i_5 - e_0))), (.i 0)]) else
         (some [(.i i_5), (.i 0)]))))))))
noncomputable def F_law22_ends : List Dat → Option (List Dat) := fun ds_0 =>
  onI ds_0 fun e_0 ds_1 =>
  onI ds_1 fun e_1 ds_2 =>
  onI ds_2 fun e_2 ds_3 =>
  onS ds_3 fun e_3 ds_4 =>
  onS ds_4 fun e_4 ds_5 =>
  onB ds_5 fun e_5 ds_6 =>
  onI ds_6 fun e_6 ds_7 =>
  onI ds_7 fun e_7 ds_8 =>
  onI ds_8 fun e_8 ds_9 =>
  onI ds_9 fun e_9 ds_10 =>
  onI ds_10 fun e_10 ds_11 =>
  onI ds_11 fun e_11 ds_12 =>
  onI ds_12 fun e_12 ds_13 =>
  onI ds_13 fun want_0 ds_14 =>
  Option.bind (F_until_Instant [(.i e_0), (.i e_1), (.i e_2), (.s e_3), (.s e_4), (.b e_5), (.i e_6), (.i e_7), (.i e_8), (.i e_9), (.i e_10), (.i e_11), (.i e_12), (.n 0), (.l [])]) fun r_0 =>
  onI r_0 fun i_0 ds_15 =>
  onI ds_15 fun i_1 ds_16 =>
  Option.bind (bif (decide (i_1 = 0)) then (bif (decide (i_0 = want_0)) then (some true) else
    (some false)) else
   (some false)) fun b_0 =>
  some [(.b b_0)]
noncomputable def F_law22_works : List Dat → Option (List Dat) := fun _ => some [.b true]
noncomputable def F_law22_UntilEnds : List Dat → Option (List Dat) := fun ds_0 =>
  onB ds_0 fun u_0 ds_1 =>
  onI ds_1 fun u_1 ds_2 =>
  onI ds_2 fun u_2 ds_3 =>
  onI ds_3 fun u_3 ds_4 =>
  onI ds_4 fun u_4 ds_5 =>
  onI ds_5 fun u_5 ds_6 =>
  onI ds_6 fun u_6 ds_7 =>
  onI ds_7 fun u_7 ds_8 =>
  onI ds_8 fun least_0 ds_9 =>
  Option.bind (F_until_Nominal [(.b u_0), (.i u_1), (.i u_2), (.i u_3), (.i u_4), (.i u_5), (.i u_6), (.i u_7), (.i least_0)]) fun r_0 =>
  onI r_0 fun i_0 ds_10 =>
  onI ds_10 fun i_1 ds_11 =>
  Option.bind (F_ref22_Nominal [(.b u_0), (.i u_1), (.i u_2), (.i u_3), (.i u_4), (.i u_5), (.i u_6), (.i u_7), (.i least_0)]) fun r_1 =>
  onI r_1 fun i_2 ds_12 =>
  onI ds_12 fun i_3 ds_13 =>
  Option.bind (F_until_Check [(.b u_0), (.i u_1), (.i u_2), (.i u_3), (.i u_4), (.i u_5), (.i u_6), (.i u_7), (.i least_0)]) fun r_2 =>
  onI r_2 fun i_4 ds_14 =>
  Option.bind (F_ref22_Check [(.b u_0), (.i u_1), (.i u_2), (.i u_3), (.i u_4), (.i u_5), (.i u_6), (.i u_7), (.i least_0)]) fun r_3 =>
  onI r_3 fun i_5 ds_15 =>
  bif (decide (i_4 = i_5)) then (bif (decide (i_0 = i_2)) then (bif (decide (i_1 = i_3)) then (Option.bind (F_law22_works []) fun r_4 =>
     onB r_4 fun b_0 ds_16 =>
     some [(.b b_0)]) else
    (some [(.b false)])) else
   (some [(.b false)])) else
  (some [(.b false)])
end Go.Proofs.YtcohbcdhcmajiaaDoor
