/-
  The functions of plain data that the laws of this group reach, as the program has them.
-/
import Derived.Test.YtkjlobjnboljbaaAx33
import Derived.Test.YtkjlobjnboljbaaAx36
import Derived.Test.YtkjlobjnboljbaaHCheckedSum
namespace Go.Proofs.Ytkjlobjnboljbaa
open Go.Ax
set_option linter.all false
set_option maxRecDepth 100000
noncomputable def F_checked_Add : List Dat → Option (List Dat) := fun ds_0 =>
  onI ds_0 fun a_0 ds_1 =>
  onI ds_1 fun b_0 ds_2 =>
  Option.bind (bif (decide ((i64 (a_0 + b_0)) < a_0)) then (bif (decide (b_0 < 0)) then (some false) else
    (some true)) else
   (bif (decide (b_0 < 0)) then (some true) else
    (some false))) fun b_1 =>
  bif b_1 then (some [(.i 0), (.b false)]) else
  (some [(.i (i64 (a_0 + b_0))), (.b true)])
noncomputable def F_ref03_Add : List Dat → Option (List Dat) := fun ds_0 =>
  onI ds_0 fun a_0 ds_1 =>
  onI ds_1 fun b_0 ds_2 =>
  Option.bind (bif (decide (0 < b_0)) then (bif (decide ((i64 (9223372036854775807 - b_0)) < a_0)) then (some true) else
    (bif (decide (b_0 < 0)) then (bif (decide (a_0 < (i64 ((-9223372036854775808) - b_0)))) then (some true) else
      (some false)) else
     (some false))) else
   (bif (decide (b_0 < 0)) then (bif (decide (a_0 < (i64 ((-9223372036854775808) - b_0)))) then (some true) else
     (some false)) else
    (some false))) fun b_1 =>
  bif b_1 then (some [(.i 0), (.b false)]) else
  (some [(.i (i64 (a_0 + b_0))), (.b true)])
noncomputable def F_checked_Sub : List Dat → Option (List Dat) := fun ds_0 =>
  onI ds_0 fun a_0 ds_1 =>
  onI ds_1 fun b_0 ds_2 =>
  Option.bind (bif (decide (a_0 < (i64 (a_0 - b_0)))) then (bif (decide (b_0 < 0)) then (some false) else
    (some true)) else
   (bif (decide (b_0 < 0)) then (some true) else
    (some false))) fun b_1 =>
  bif b_1 then (some [(.i 0), (.b false)]) else
  (some [(.i (i64 (a_0 - b_0))), (.b true)])
noncomputable def F_ref03_Sub : List Dat → Option (List Dat) := fun ds_0 =>
  onI ds_0 fun a_0 ds_1 =>
  onI ds_1 fun b_0 ds_2 =>
  Option.bind (bif (decide (0 < b_0)) then (bif (decide (a_0 < (i64 ((-9223372036854775808) + b_0)))) then (some true) else
    (bif (decide (b_0 < 0)) then (bif (decide ((i64 (9223372036854775807 + b_0)) < a_0)) then (some true) else
      (some false)) else
     (some false))) else
   (bif (decide (b_0 < 0)) then (bif (decide ((i64 (9223372036854775807 + b_0)) < a_0)) then (some true) else
     (some false)) else
    (some false))) fun b_1 =>
  bif b_1 then (some [(.i 0), (.b false)]) else
  (some [(.i (i64 (a_0 - b_0))), (.b true)])
noncomputable def F_checked_Mul : List Dat → Option (List Dat) := fun ds_0 =>
  onI ds_0 fun a_0 ds_1 =>
  onI ds_1 fun b_0 ds_2 =>
  Option.bind (bif (decide (a_0 = 0)) then (some true) else
   (bif (decide (b_0 = 0)) then (some true) else
    (some false))) fun b_1 =>
  bif b_1 then (some [(.i 0), (.b true)]) else
  (Option.bind (bif (b_0 != 0) then (bif (!decide ((i64 (Int.tdiv (i64 (a_0 * b_0)) b_0)) = a_0)) then (some true) else
    (bif (decide (b_0 = (-1))) then (bif (decide (a_0 = (-9223372036854775808))) then (some true) else
      (some false)) else
     (some false))) else none) fun b_2 =>
   bif b_2 then (some [(.i 0), (.b false)]) else
   (some [(.i (i64 (a_0 * b_0))), (.b true)]))
noncomputable def F_ref03_size : List Dat → Option (List Dat) := fun ds_0 =>
  onI ds_0 fun a_0 ds_1 =>
  bif (decide (0 ≤ a_0)) then (some [(.i (u64 a_0))]) else
  (some [(.i (u64 ((u64 (i64 (0 - (i64 (a_0 + 1))))) + 1)))])
noncomputable def F_math_bits_Mul64 : List Dat → Option (List Dat) := fun ds_0 =>
  onI ds_0 fun x_0 ds_1 =>
  onI ds_1 fun y_0 ds_2 =>
  some [(.i (u64 ((u64 ((u64 ((arith .shr .u64 x_0 32) * (arith .shr .u64 y_0 32))) + (arith .shr .u64 (u64 ((u64 ((arith .shr .u64 x_0 32) * (arith .and .u64 y_0 4294967295))) + (arith .shr .u64 (u64 ((arith .and .u64 x_0 4294967295) * (arith .and .u64 y_0 4294967295))) 32))) 32))) + (arith .shr .u64 (u64 ((arith .and .u64 (u64 ((u64 ((arith .shr .u64 x_0 32) * (arith .and .u64 y_0 4294967295))) + (arith .shr .u64 (u64 ((arith .and .u64 x_0 4294967295) * (arith .and .u64 y_0 4294967295))) 32))) 4294967295) + (u64 ((arith .and .u64 x_0 4294967295) * (arith .shr .u64 y_0 32))))) 32)))), (.i (u64 (x_0 * y_0)))]
noncomputable def F_ref03_Mul : List Dat → Option (List Dat) := fun ds_0 =>
  onI ds_0 fun a_0 ds_1 =>
  onI ds_1 fun b_0 ds_2 =>
  Option.bind (F_ref03_size [(.i a_0)]) fun r_0 =>
  onI r_0 fun i_0 ds_3 =>
  Option.bind (F_ref03_size [(.i b_0)]) fun r_1 =>
  onI r_1 fun i_1 ds_4 =>
  Option.bind (F_math_bits_Mul64 [(.i i_0), (.i i_1)]) fun r_2 =>
  onI r_2 fun i_2 ds_5 =>
  onI ds_5 fun i_3 ds_6 =>
  Option.bind (bif (decide (a_0 < 0)) then (bif (decide (b_0 < 0)) then (some true) else
    (some false)) else
   (bif (decide (b_0 < 0)) then (some false) else
    (some true))) fun b_1 =>
  bif b_1 then (Option.bind (bif (decide (0 < i_2)) then (some true) else
    (bif (decide (9223372036854775807 < i_3)) then (some true) else
     (some false))) fun b_2 =>
   bif b_2 then (some [(.i 0), (.b false)]) else
   (some [(.i (i64 i_3)), (.b true)])) else
  (Option.bind (bif (decide (0 < i_2)) then (some true) else
    (bif (decide (9223372036854775808 < i_3)) then (some true) else
     (some false))) fun b_3 =>
   bif b_3 then (some [(.i 0), (.b false)]) else
   (bif (decide (i_3 = 0)) then (some [(.i 0), (.b true)]) else
    (some [(.i (i64 ((i64 (0 - (i64 (u64 (i_3 - 1))))) - 1))), (.b true)])))
noncomputable def F_checked_Div : List Dat → Option (List Dat) := fun ds_0 =>
  onI ds_0 fun a_0 ds_1 =>
  onI ds_1 fun b_0 ds_2 =>
  Option.bind (bif (decide (b_0 = 0)) then (some true) else
   (bif (decide (a_0 = (-9223372036854775808))) then (bif (decide (b_0 = (-1))) then (some true) else
     (some false)) else
    (some false))) fun b_1 =>
  bif b_1 then (some [(.i 0), (.b false)]) else
  (bif (b_0 != 0) then (Option.bind (bif (b_0 != 0) then (bif (!decide ((Int.tmod a_0 b_0) = 0)) then (bif (decide (a_0 < 0)) then (bif (decide (b_0 < 0)) then (some false) else
      (some true)) else
     (bif (decide (b_0 < 0)) then (some true) else
      (some false))) else
    (some false)) else none) fun b_2 =>
   bif b_2 then (some [(.i (i64 ((i64 (Int.tdiv a_0 b_0)) - 1))), (.b true)]) else
   (some [(.i (i64 (Int.tdiv a_0 b_0))), (.b true)])) else none)
noncomputable def F_ref03_parts : List Dat → Option (List Dat) := fun ds_0 =>
  onI ds_0 fun a_0 ds_1 =>
  onI ds_1 fun b_0 ds_2 =>
  Option.bind (F_ref03_size [(.i a_0)]) fun r_0 =>
  onI r_0 fun i_0 ds_3 =>
  Option.bind (F_ref03_size [(.i b_0)]) fun r_1 =>
  onI r_1 fun i_1 ds_4 =>
  bif (i_1 != 0) then (Option.bind (F_ref03_size [(.i a_0)]) fun r_2 =>
  onI r_2 fun i_2 ds_5 =>
  Option.bind (F_ref03_size [(.i b_0)]) fun r_3 =>
  onI r_3 fun i_3 ds_6 =>
  bif (i_3 != 0) then (some [(.i (u64 (Int.tdiv i_0 i_1))), (.i (Int.tmod i_2 i_3))]) else none) else none
noncomputable def F_ref03_Div : List Dat → Option (List Dat) := fun ds_0 =>
  onI ds_0 fun a_0 ds_1 =>
  onI ds_1 fun b_0 ds_2 =>
  bif (decide (b_0 = 0)) then (some [(.i 0), (.b false)]) else
  (Option.bind (F_ref03_parts [(.i a_0), (.i b_0)]) fun r_0 =>
   onI r_0 fun i_0 ds_3 =>
   onI ds_3 fun i_1 ds_4 =>
   Option.bind (bif (decide (a_0 < 0)) then (bif (decide (b_0 < 0)) then (some true) else
     (some false)) else
    (bif (decide (b_0 < 0)) then (some false) else
     (some true))) fun b_1 =>
   bif b_1 then (bif (decide (9223372036854775807 < i_0)) then (some [(.i 0), (.b false)]) else
    (some [(.i (i64 i_0)), (.b true)])) else
   (bif (decide (0 < i_1)) then (bif (decide ((u64 (i_0 + 1)) = 0)) then (some [(.i 0), (.b true)]) else
     (some [(.i (i64 ((i64 (0 - (i64 (u64 ((u64 (i_0 + 1)) - 1))))) - 1))), (.b true)])) else
    (bif (decide (i_0 = 0)) then (some [(.i 0), (.b true)]) else
     (some [(.i (i64 ((i64 (0 - (i64 (u64 (i_0 - 1))))) - 1))), (.b true)]))))
noncomputable def F_checked_Mod : List Dat → Option (List Dat) := fun ds_0 =>
  onI ds_0 fun a_0 ds_1 =>
  onI ds_1 fun b_0 ds_2 =>
  bif (decide (b_0 = 0)) then (some [(.i 0), (.b false)]) else
  (bif (b_0 != 0) then (Option.bind (bif (!decide ((Int.tmod a_0 b_0) = 0)) then (bif (decide ((Int.tmod a_0 b_0) < 0)) then (bif (decide (b_0 < 0)) then (some false) else
      (some true)) else
     (bif (decide (b_0 < 0)) then (some true) else
      (some false))) else
    (some false)) fun b_1 =>
   bif b_1 then (some [(.i (i64 ((Int.tmod a_0 b_0) + b_0))), (.b true)]) else
   (some [(.i (Int.tmod a_0 b_0)), (.b true)])) else none)
noncomputable def F_ref03_Mod : List Dat → Option (List Dat) := fun ds_0 =>
  onI ds_0 fun a_0 ds_1 =>
  onI ds_1 fun b_0 ds_2 =>
  bif (decide (b_0 = 0)) then (some [(.i 0), (.b false)]) else
  (Option.bind (F_ref03_parts [(.i a_0), (.i b_0)]) fun r_0 =>
   onI r_0 fun i_0 ds_3 =>
   onI ds_3 fun i_1 ds_4 =>
   Option.bind (bif (decide (0 < i_1)) then (bif (decide (a_0 < 0)) then (bif (decide (b_0 < 0)) then (some false) else
      (some true)) else
     (bif (decide (b_0 < 0)) then (some true) else
      (some false))) else
    (some false)) fun b_1 =>
   bif b_1 then (Option.bind (F_ref03_size [(.i b_0)]) fun r_1 =>
    onI r_1 fun i_2 ds_5 =>
    bif (decide (b_0 < 0)) then (some [(.i (i64 (0 - (i64 (u64 (i_2 - i_1)))))), (.b true)]) else
    (some [(.i (i64 (u64 (i_2 - i_1)))), (.b true)])) else
   (bif (decide (b_0 < 0)) then (some [(.i (i64 (0 - (i64 i_1)))), (.b true)]) else
    (some [(.i (i64 i_1)), (.b true)])))
noncomputable def F_law03_is : List Dat → Option (List Dat) := fun ds_0 =>
  onI ds_0 fun x_0 ds_1 =>
  onB ds_1 fun ok_0 ds_2 =>
  onI ds_2 fun want_0 ds_3 =>
  onB ds_3 fun must_0 ds_4 =>
  Option.bind (bif (decide (x_0 = want_0)) then (some (ok_0 == must_0)) else
   (some false)) fun b_0 =>
  some [(.b b_0)]
noncomputable def F_law03_works : List Dat → Option (List Dat) := fun _ => some [.b true]
noncomputable def F_law03_CheckedTwo : List Dat → Option (List Dat) := fun ds_0 =>
  onI ds_0 fun a_0 ds_1 =>
  onI ds_1 fun b_0 ds_2 =>
  Option.bind (F_checked_Add [(.i a_0), (.i b_0)]) fun r_0 =>
  onI r_0 fun i_0 ds_3 =>
  onB ds_3 fun b_1 ds_4 =>
  Option.bind (F_ref03_Add [(.i a_0), (.i b_0)]) fun r_1 =>
  onI r_1 fun i_1 ds_5 =>
  onB ds_5 fun b_2 ds_6 =>
  Option.bind (F_law03_is [(.i i_0), (.b b_1), (.i i_1), (.b b_2)]) fun r_2 =>
  onB r_2 fun b_3 ds_7 =>
  bif (!b_3) then (some [(.b false)]) else
  (Option.bind (F_checked_Sub [(.i a_0), (.i b_0)]) fun r_3 =>
   onI r_3 fun i_2 ds_8 =>
   onB ds_8 fun b_4 ds_9 =>
   Option.bind (F_ref03_Sub [(.i a_0), (.i b_0)]) fun r_4 =>
   onI r_4 fun i_3 ds_10 =>
   onB ds_10 fun b_5 ds_11 =>
   Option.bind (F_law03_is [(.i i_2), (.b b_4), (.i i_3), (.b b_5)]) fun r_5 =>
   onB r_5 fun b_6 ds_12 =>
   bif (!b_6) then (some [(.b false)]) else
   (Option.bind (F_checked_Mul [(.i a_0), (.i b_0)]) fun r_6 =>
    onI r_6 fun i_4 ds_13 =>
    onB ds_13 fun b_7 ds_14 =>
    Option.bind (F_ref03_Mul [(.i a_0), (.i b_0)]) fun r_7 =>
    onI r_7 fun i_5 ds_15 =>
    onB ds_15 fun b_8 ds_16 =>
    Option.bind (F_law03_is [(.i i_4), (.b b_7), (.i i_5), (.b b_8)]) fun r_8 =>
    onB r_8 fun b_9 ds_17 =>
    bif (!b_9) then (some [(.b false)]) else
    (Option.bind (F_checked_Div [(.i a_0), (.i b_0)]) fun r_9 =>
     onI r_9 fun i_6 ds_18 =>
     onB ds_18 fun b_10 ds_19 =>
     Option.bind (F_ref03_Div [(.i a_0), (.i b_0)]) fun r_10 =>
     onI r_10 fun i_7 ds_20 =>
     onB ds_20 fun b_11 ds_21 =>
     Option.bind (F_law03_is [(.i i_6), (.b b_10), (.i i_7), (.b b_11)]) fun r_11 =>
     onB r_11 fun b_12 ds_22 =>
     bif (!b_12) then (some [(.b false)]) else
     (Option.bind (F_checked_Mod [(.i a_0), (.i b_0)]) fun r_12 =>
      onI r_12 fun i_8 ds_23 =>
      onB ds_23 fun b_13 ds_24 =>
      Option.bind (F_ref03_Mod [(.i a_0), (.i b_0)]) fun r_13 =>
      onI r_13 fun i_9 ds_25 =>
      onB ds_25 fun b_14 ds_26 =>
      Option.bind (F_law03_is [(.i i_8), (.b b_13), (.i i_9), (.b b_14)]) fun r_14 =>
      onB r_14 fun b_15 ds_27 =>
      bif (!b_15) then (some [(.b false)]) else
      (Option.bind (F_law03_works []) fun r_15 =>
       onB r_15 fun b_16 ds_28 =>
       some [(.b b_16)])))))
noncomputable def F_slices_Cloneint64_int64__nil : List Dat → Option (List Dat) := fun ds_0 =>
  some [(.n 0), (.l [])]
noncomputable def F_slices_Cloneint64_int64__empty : List Dat → Option (List Dat) := fun ds_0 =>
  some [(.n 0), (.l [])]
noncomputable def F_slices_Cloneint64_int64__list : List Dat → Option (List Dat) := fun ds_0 =>
  onN ds_0 fun sn_0 ds_1 =>
  onL ds_1 fun sl_0 ds_2 =>
  bif (decide ((sl_0).length = sn_0)) then (bif (decide (sn_0 ≤ 0)) then (bif (decide ((0 + sn_0) ≤ 0)) then (bif (decide ((sl_0).length = sn_0)) then (bif (decide ((0 + (sn_0 * 1)) ≤ ((Ax.write [] 0 sl_0)).length)) then (bif (List.all (List.take (sn_0 * 1) (List.drop 0 (Ax.write [] 0 sl_0))) (Ax.closedN 20)) then (some [(.n sn_0), (.l (List.take (sn_0 * 1) (List.drop 0 (Ax.write [] 0 sl_0))))]) else
    (none)) else
   (none)) else none) else none) else
  (bif (decide ((sn_0 * 8) ≤ 140737488355328)) then (bif (decide ((0 + (sn_0 * 1)) ≤ (([] ++ sl_0)).length)) then (bif (List.all (List.take (sn_0 * 1) (List.drop 0 ([] ++ sl_0))) (Ax.closedN 20)) then (some [(.n sn_0), (.l (List.take (sn_0 * 1) (List.drop 0 ([] ++ sl_0))))]) else
    (none)) else
   (none)) else none)) else none
noncomputable def F_slices_Cloneint64_int64_ : List Dat → Option (List Dat) := seq3 (.seq) F_slices_Cloneint64_int64__list
noncomputable def F_ref03_Sum_L0 : List Dat → Option (List Dat ⊕ List Dat) := fun ds_3 =>
  onN ds_3 fun ln_1 ds_4 =>
  onL ds_4 fun ll_1 ds_5 =>
  onI ds_5 fun sum_0 ds_6 =>
  onI ds_6 fun i_0 ds_7 =>
  bif (decide (i_0 < ((ln_1 : Nat) : Int))) then (bif (decide ((0 ≤ i_0) ∧ (i_0 < ((ln_1 : Nat) : Int)))) then (Option.bind (asI .i64 (ll_1)[(i_0).toNat]?) fun x_0 =>
   Option.bind (F_ref03_Add [(.i sum_0), (.i x_0)]) fun r_0 =>
   onI r_0 fun i_1 ds_8 =>
   onB ds_8 fun b_0 ds_9 =>
   bif (!b_0) then (Option.map .inr (some [(.i 0), (.b false)])) else
   (some (.inl [(.n ln_1), (.l ll_1), (.i i_1), (.i (i64 (i_0 + 1)))]))) else none) else
  (Option.map .inr (some [(.i sum_0), (.b true)]))
noncomputable def F_ref03_Sum : List Dat → Option (List Dat) := fun ds_0 =>
  onN ds_0 fun ln_0 ds_1 =>
  onL ds_1 fun ll_0 ds_2 =>
  iter F_ref03_Sum_L0 [(.n ln_0), (.l ll_0), (.i 0), (.i 0)]
noncomputable def F_slices_Equalint64_int64__L0 : List Dat → Option (List Dat ⊕ List Dat) := fun ds_5 =>
  onN ds_5 fun s1n_1 ds_6 =>
  onL ds_6 fun s1l_1 ds_7 =>
  onN ds_7 fun s2n_1 ds_8 =>
  onL ds_8 fun s2l_1 ds_9 =>
  onI ds_9 fun v_0 ds_10 =>
  onI ds_10 fun v_1 ds_11 =>
  bif (decide (v_1 < v_0)) then (bif (decide ((0 ≤ v_1) ∧ (v_1 < ((s1n_1 : Nat) : Int)))) then (Option.bind (asI .i64 (s1l_1)[(v_1).toNat]?) fun x_0 =>
   bif (decide ((0 ≤ v_1) ∧ (v_1 < ((s2n_1 : Nat) : Int)))) then (Option.bind (asI .i64 (s2l_1)[(v_1).toNat]?) fun x_1 =>
   bif (!decide (x_0 = x_1)) then (Option.map .inr (some [(.b false)])) else
   (some (.inl [(.n s1n_1), (.l s1l_1), (.n s2n_1), (.l s2l_1), (.i v_0), (.i (i64 (v_1 + 1)))]))) else none) else none) else
  (Option.map .inr (some [(.b true)]))
noncomputable def F_slices_Equalint64_int64_ : List Dat → Option (List Dat) := fun ds_0 =>
  onN ds_0 fun s1n_0 ds_1 =>
  onL ds_1 fun s1l_0 ds_2 =>
  onN ds_2 fun s2n_0 ds_3 =>
  onL ds_3 fun s2l_0 ds_4 =>
  bif (!decide (((s1n_0 : Nat) : Int) = ((s2n_0 : Nat) : Int))) then (some [(.b false)]) else
  (iter F_slices_Equalint64_int64__L0 [(.n s1n_0), (.l s1l_0), (.n s2n_0), (.l s2l_0), (.i ((s1n_0 : Nat) : Int)), (.i 0)])
noncomputable def F_law03_CheckedSums : List Dat → Option (List Dat) := fun ds_0 =>
  onN ds_0 fun ln_0 ds_1 =>
  onL ds_1 fun ll_0 ds_2 =>
  bif (decide (1000 < ((ln_0 : Nat) : Int))) then (Option.bind (F_law03_works []) fun r_0 =>
   onB r_0 fun b_0 ds_3 =>
   some [(.b b_0)]) else
  (Option.bind (F_slices_Cloneint64_int64_ [(.n ln_0), (.l ll_0)]) fun r_1 =>
   onN r_1 fun n_0 ds_4 =>
   onL ds_4 fun l_0 ds_5 =>
   Option.bind (checkedSum [(.n n_0), (.l l_0)]) fun r_2 =>
   onI r_2 fun i_0 ds_6 =>
   onB ds_6 fun b_1 ds_7 =>
   Option.bind (F_ref03_Sum [(.n ln_0), (.l ll_0)]) fun r_3 =>
   onI r_3 fun i_1 ds_8 =>
   onB ds_8 fun b_2 ds_9 =>
   Option.bind (F_law03_is [(.i i_0), (.b b_1), (.i i_1), (.b b_2)]) fun r_4 =>
   onB r_4 fun b_3 ds_10 =>
   bif b_3 then (Option.bind (F_slices_Equalint64_int64_ [(.n n_0), (.l l_0), (.n ln_0), (.l ll_0)]) fun r_5 =>
    onB r_5 fun b_4 ds_11 =>
    bif b_4 then (Option.bind (F_law03_works []) fun r_6 =>
     onB r_6 fun b_5 ds_12 =>
     some [(.b b_5)]) else
    (some [(.b false)])) else
   (some [(.b false)]))
noncomputable def F_law03_CheckedBack : List Dat → Option (List Dat) := fun ds_0 =>
  onI ds_0 fun a_0 ds_1 =>
  onI ds_1 fun b_0 ds_2 =>
  Option.bind (F_checked_Add [(.i a_0), (.i b_0)]) fun r_0 =>
  onI r_0 fun i_0 ds_3 =>
  onB ds_3 fun b_1 ds_4 =>
  bif b_1 then (Option.bind (F_checked_Sub [(.i i_0), (.i b_0)]) fun r_1 =>
   onI r_1 fun i_1 ds_5 =>
   onB ds_5 fun b_2 ds_6 =>
   Option.bind (F_checked_Sub [(.i i_0), (.i a_0)]) fun r_2 =>
   onI r_2 fun i_2 ds_7 =>
   onB ds_7 fun b_3 ds_8 =>
   Option.bind (F_law03_is [(.i i_1), (.b b_2), (.i a_0), (.b true)]) fun r_3 =>
   onB r_3 fun b_4 ds_9 =>
   bif (!b_4) then (some [(.b false)]) else
   (Option.bind (F_law03_is [(.i i_2), (.b b_3), (.i b_0), (.b true)]) fun r_4 =>
    onB r_4 fun b_5 ds_10 =>
    bif (!b_5) then (some [(.b false)]) else
    (Option.bind (F_checked_Sub [(.i a_0), (.i b_0)]) fun r_5 =>
     onI r_5 fun i_3 ds_11 =>
     onB ds_11 fun b_6 ds_12 =>
     bif b_6 then (Option.bind (F_checked_Add [(.i i_3), (.i b_0)]) fun r_6 =>
      onI r_6 fun i_4 ds_13 =>
      onB ds_13 fun b_7 ds_14 =>
      Option.bind (F_law03_is [(.i i_4), (.b b_7), (.i a_0), (.b true)]) fun r_7 =>
      onB r_7 fun b_8 ds_15 =>
      bif (!b_8) then (some [(.b false)]) else
      (Option.bind (F_checked_Mul [(.i a_0), (.i b_0)]) fun r_8 =>
       onI r_8 fun i_5 ds_16 =>
       onB ds_16 fun b_9 ds_17 =>
       Option.bind (bif b_9 then (bif (!decide (b_0 = 0)) then (some true) else
         (some false)) else
        (some false)) fun b_10 =>
       bif b_10 then (Option.bind (F_checked_Div [(.i i_5), (.i b_0)]) fun r_9 =>
        onI r_9 fun i_6 ds_18 =>
        onB ds_18 fun b_11 ds_19 =>
        Option.bind (F_checked_Mod [(.i i_5), (.i b_0)]) fun r_10 =>
        onI r_10 fun i_7 ds_20 =>
        onB ds_20 fun b_12 ds_21 =>
        Option.bind (F_law03_is [(.i i_6), (.b b_11), (.i a_0), (.b true)]) fun r_11 =>
        onB r_11 fun b_13 ds_22 =>
        bif (!b_13) then (some [(.b false)]) else
        (Option.bind (F_law03_is [(.i i_7), (.b b_12), (.i 0), (.b true)]) fun r_12 =>
         onB r_12 fun b_14 ds_23 =>
         bif (!b_14) then (some [(.b false)]) else
         (Option.bind (F_checked_Div [(.i a_0), (.i b_0)]) fun r_13 =>
          onI r_13 fun i_8 ds_24 =>
          onB ds_24 fun b_15 ds_25 =>
          Option.bind (F_checked_Mod [(.i a_0), (.i b_0)]) fun r_14 =>
          onI r_14 fun i_9 ds_26 =>
          onB ds_26 fun b_16 ds_27 =>
          Option.bind (bif b_16 then (bif (decide (0 < b_0)) then (bif (decide (i_9 < 0)) then (some true) else
             (bif (decide (b_0 ≤ i_9)) then (some true) else
              (bif (decide (b_0 < 0)) then (bif (decide (0 < i_9)) then (some true) else
                (bif (decide (i_9 ≤ b_0)) then (some true) else
                 (some false))) else
               (some false)))) else
            (bif (decide (b_0 < 0)) then (bif (decide (0 < i_9)) then (some true) else
              (bif (decide (i_9 ≤ b_0)) then (some true) else
               (some false))) else
             (some false))) else
           (some false)) fun b_17 =>
          bif b_17 then (some [(.b false)]) else
          (Option.bind (F_checked_Mul [(.i i_8), (.i b_0)]) fun r_15 =>
           onI r_15 fun i_10 ds_28 =>
           onB ds_28 fun b_18 ds_29 =>
           Option.bind (bif b_15 then (some b_18) else
            (some false)) fun b_19 =>
           bif b_19 then (Option.bind (F_checked_Add [(.i i_10), (.i i_9)]) fun r_16 =>
            onI r_16 fun i_11 ds_30 =>
            onB ds_30 fun b_20 ds_31 =>
            Option.bind (F_law03_is [(.i i_11), (.b b_20), (.i a_0), (.b true)]) fun r_17 =>
            onB r_17 fun b_21 ds_32 =>
            bif (!b_21) then (some [(.b false)]) else
            (Option.bind (F_law03_works []) fun r_18 =>
             onB r_18 fun b_22 ds_33 =>
             some [(.b b_22)])) else
           (Option.bind (F_law03_works []) fun r_19 =>
            onB r_19 fun b_23 ds_34 =>
            some [(.b b_23)]))))) else
       (Option.bind (F_checked_Div [(.i a_0), (.i b_0)]) fun r_20 =>
        onI r_20 fun i_12 ds_35 =>
        onB ds_35 fun b_24 ds_36 =>
        Option.bind (F_checked_Mod [(.i a_0), (.i b_0)]) fun r_21 =>
        onI r_21 fun i_13 ds_37 =>
        onB ds_37 fun b_25 ds_38 =>
        Option.bind (bif b_25 then (bif (decide (0 < b_0)) then (bif (decide (i_13 < 0)) then (some true) else
           (bif (decide (b_0 ≤ i_13)) then (some true) else
            (bif (decide (b_0 < 0)) then (bif (decide (0 < i_13)) then (some true) else
              (bif (decide (i_13 ≤ b_0)) then (some true) else
               (some false))) else
             (some false)))) else
          (bif (decide (b_0 < 0)) then (bif (decide (0 < i_13)) then (some true) else
            (bif (decide (i_13 ≤ b_0)) then (some true) else
             (some false))) else
           (some false))) else
         (some false)) fun b_26 =>
        bif b_26 then (some [(.b false)]) else
        (Option.bind (F_checked_Mul [(.i i_12), (.i b_0)]) fun r_22 =>
         onI r_22 fun i_14 ds_39 =>
         onB ds_39 fun b_27 ds_40 =>
         Option.bind (bif b_24 then (some b_27) else
          (some false)) fun b_28 =>
         bif b_28 then (Option.bind (F_checked_Add [(.i i_14), (.i i_13)]) fun r_23 =>
          onI r_23 fun i_15 ds_41 =>
          onB ds_41 fun b_29 ds_42 =>
          Option.bind (F_law03_is [(.i i_15), (.b b_29), (.i a_0), (.b true)]) fun r_24 =>
          onB r_24 fun b_30 ds_43 =>
          bif (!b_30) then (some [(.b false)]) else
          (Option.bind (F_law03_works []) fun r_25 =>
           onB r_25 fun b_31 ds_44 =>
           some [(.b b_31)])) else
         (Option.bind (F_law03_works []) fun r_26 =>
          onB r_26 fun b_32 ds_45 =>
          some [(.b b_32)]))))) else
     (Option.bind (F_checked_Mul [(.i a_0), (.i b_0)]) fun r_27 =>
      onI r_27 fun i_16 ds_46 =>
      onB ds_46 fun b_33 ds_47 =>
      Option.bind (bif b_33 then (bif (!decide (b_0 = 0)) then (some true) else
        (some false)) else
       (some false)) fun b_34 =>
      bif b_34 then (Option.bind (F_checked_Div [(.i i_16), (.i b_0)]) fun r_28 =>
       onI r_28 fun i_17 ds_48 =>
       onB ds_48 fun b_35 ds_49 =>
       Option.bind (F_checked_Mod [(.i i_16), (.i b_0)]) fun r_29 =>
       onI r_29 fun i_18 ds_50 =>
       onB ds_50 fun b_36 ds_51 =>
       Option.bind (F_law03_is [(.i i_17), (.b b_35), (.i a_0), (.b true)]) fun r_30 =>
       onB r_30 fun b_37 ds_52 =>
       bif (!b_37) then (some [(.b false)]) else
       (Option.bind (F_law03_is [(.i i_18), (.b b_36), (.i 0), (.b true)]) fun r_31 =>
        onB r_31 fun b_38 ds_53 =>
        bif (!b_38) then (some [(.b false)]) else
        (Option.bind (F_checked_Div [(.i a_0), (.i b_0)]) fun r_32 =>
         onI r_32 fun i_19 ds_54 =>
         onB ds_54 fun b_39 ds_55 =>
         Option.bind (F_checked_Mod [(.i a_0), (.i b_0)]) fun r_33 =>
         onI r_33 fun i_20 ds_56 =>
         onB ds_56 fun b_40 ds_57 =>
         Option.bind (bif b_40 then (bif (decide (0 < b_0)) then (bif (decide (i_20 < 0)) then (some true) else
            (bif (decide (b_0 ≤ i_20)) then (some true) else
             (bif (decide (b_0 < 0)) then (bif (decide (0 < i_20)) then (some true) else
               (bif (decide (i_20 ≤ b_0)) then (some true) else
                (some false))) else
              (some false)))) else
           (bif (decide (b_0 < 0)) then (bif (decide (0 < i_20)) then (some true) else
             (bif (decide (i_20 ≤ b_0)) then (some true) else
              (some false))) else
            (some false))) else
          (some false)) fun b_41 =>
         bif b_41 then (some [(.b false)]) else
         (Option.bind (F_checked_Mul [(.i i_19), (.i b_0)]) fun r_34 =>
          onI r_34 fun i_21 ds_58 =>
          onB ds_58 fun b_42 ds_59 =>
          Option.bind (bif b_39 then (some b_42) else
           (some false)) fun b_43 =>
          bif b_43 then (Option.bind (F_checked_Add [(.i i_21), (.i i_20)]) fun r_35 =>
           onI r_35 fun i_22 ds_60 =>
           onB ds_60 fun b_44 ds_61 =>
           Option.bind (F_law03_is [(.i i_22), (.b b_44), (.i a_0), (.b true)]) fun r_36 =>
           onB r_36 fun b_45 ds_62 =>
           bif (!b_45) then (some [(.b false)]) else
           (Option.bind (F_law03_works []) fun r_37 =>
            onB r_37 fun b_46 ds_63 =>
            some [(.b b_46)])) else
          (Option.bind (F_law03_works []) fun r_38 =>
           onB r_38 fun b_47 ds_64 =>
           some [(.b b_47)]))))) else
      (Option.bind (F_checked_Div [(.i a_0), (.i b_0)]) fun r_39 =>
       onI r_39 fun i_23 ds_65 =>
       onB ds_65 fun b_48 ds_66 =>
       Option.bind (F_checked_Mod [(.i a_0), (.i b_0)]) fun r_40 =>
       onI r_40 fun i_24 ds_67 =>
       onB ds_67 fun b_49 ds_68 =>
       Option.bind (bif b_49 then (bif (decide (0 < b_0)) then (bif (decide (i_24 < 0)) then (some true) else
          (bif (decide (b_0 ≤ i_24)) then (some true) else
           (bif (decide (b_0 < 0)) then (bif (decide (0 < i_24)) then (some true) else
             (bif (decide (i_24 ≤ b_0)) then (some true) else
              (some false))) else
            (some false)))) else
         (bif (decide (b_0 < 0)) then (bif (decide (0 < i_24)) then (some true) else
           (bif (decide (i_24 ≤ b_0)) then (some true) else
            (some false))) else
          (some false))) else
        (some false)) fun b_50 =>
       bif b_50 then (some [(.b false)]) else
       (Option.bind (F_checked_Mul [(.i i_23), (.i b_0)]) fun r_41 =>
        onI r_41 fun i_25 ds_69 =>
        onB ds_69 fun b_51 ds_70 =>
        Option.bind (bif b_48 then (some b_51) else
         (some false)) fun b_52 =>
        bif b_52 then (Option.bind (F_checked_Add [(.i i_25), (.i i_24)]) fun r_42 =>
         onI r_42 fun i_26 ds_71 =>
         onB ds_71 fun b_53 ds_72 =>
         Option.bind (F_law03_is [(.i i_26), (.b b_53), (.i a_0), (.b true)]) fun r_43 =>
         onB r_43 fun b_54 ds_73 =>
         bif (!b_54) then (some [(.b false)]) else
         (Option.bind (F_law03_works []) fun r_44 =>
          onB r_44 fun b_55 ds_74 =>
          some [(.b b_55)])) else
        (Option.bind (F_law03_works []) fun r_45 =>
         onB r_45 fun b_56 ds_75 =>
         some [(.b b_56)]))))))) else
  (Option.bind (F_checked_Sub [(.i a_0), (.i b_0)]) fun r_46 =>
   onI r_46 fun i_27 ds_76 =>
   onB ds_76 fun b_57 ds_77 =>
   bif b_57 then (Option.bind (F_checked_Add [(.i i_27), (.i b_0)]) fun r_47 =>
    onI r_47 fun i_28 ds_78 =>
    onB ds_78 fun b_58 ds_79 =>
    Option.bind (F_law03_is [(.i i_28), (.b b_58), (.i a_0), (.b true)]) fun r_48 =>
    onB r_48 fun b_59 ds_80 =>
    bif (!b_59) then (some [(.b false)]) else
    (Option.bind (F_checked_Mul [(.i a_0), (.i b_0)]) fun r_49 =>
     onI r_49 fun i_29 ds_81 =>
     onB ds_81 fun b_60 ds_82 =>
     Option.bind (bif b_60 then (bif (!decide (b_0 = 0)) then (some true) else
       (some false)) else
      (some false)) fun b_61 =>
     bif b_61 then (Option.bind (F_checked_Div [(.i i_29), (.i b_0)]) fun r_50 =>
      onI r_50 fun i_30 ds_83 =>
      onB ds_83 fun b_62 ds_84 =>
      Option.bind (F_checked_Mod [(.i i_29), (.i b_0)]) fun r_51 =>
      onI r_51 fun i_31 ds_85 =>
      onB ds_85 fun b_63 ds_86 =>
      Option.bind (F_law03_is [(.i i_30), (.b b_62), (.i a_0), (.b true)]) fun r_52 =>
      onB r_52 fun b_64 ds_87 =>
      bif (!b_64) then (some [(.b false)]) else
      (Option.bind (F_law03_is [(.i i_31), (.b b_63), (.i 0), (.b true)]) fun r_53 =>
       onB r_53 fun b_65 ds_88 =>
       bif (!b_65) then (some [(.b false)]) else
       (Option.bind (F_checked_Div [(.i a_0), (.i b_0)]) fun r_54 =>
        onI r_54 fun i_32 ds_89 =>
        onB ds_89 fun b_66 ds_90 =>
        Option.bind (F_checked_Mod [(.i a_0), (.i b_0)]) fun r_55 =>
        onI r_55 fun i_33 ds_91 =>
        onB ds_91 fun b_67 ds_92 =>
        Option.bind (bif b_67 then (bif (decide (0 < b_0)) then (bif (decide (i_33 < 0)) then (some true) else
           (bif (decide (b_0 ≤ i_33)) then (some true) else
            (bif (decide (b_0 < 0)) then (bif (decide (0 < i_33)) then (some true) else
              (bif (decide (i_33 ≤ b_0)) then (some true) else
               (some false))) else
             (some false)))) else
          (bif (decide (b_0 < 0)) then (bif (decide (0 < i_33)) then (some true) else
            (bif (decide (i_33 ≤ b_0)) then (some true) else
             (some false))) else
           (some false))) else
         (some false)) fun b_68 =>
        bif b_68 then (some [(.b false)]) else
        (Option.bind (F_checked_Mul [(.i i_32), (.i b_0)]) fun r_56 =>
         onI r_56 fun i_34 ds_93 =>
         onB ds_93 fun b_69 ds_94 =>
         Option.bind (bif b_66 then (some b_69) else
          (some false)) fun b_70 =>
         bif b_70 then (Option.bind (F_checked_Add [(.i i_34), (.i i_33)]) fun r_57 =>
          onI r_57 fun i_35 ds_95 =>
          onB ds_95 fun b_71 ds_96 =>
          Option.bind (F_law03_is [(.i i_35), (.b b_71), (.i a_0), (.b true)]) fun r_58 =>
          onB r_58 fun b_72 ds_97 =>
          bif (!b_72) then (some [(.b false)]) else
          (Option.bind (F_law03_works []) fun r_59 =>
           onB r_59 fun b_73 ds_98 =>
           some [(.b b_73)])) else
         (Option.bind (F_law03_works []) fun r_60 =>
          onB r_60 fun b_74 ds_99 =>
          some [(.b b_74)]))))) else
     (Option.bind (F_checked_Div [(.i a_0), (.i b_0)]) fun r_61 =>
      onI r_61 fun i_36 ds_100 =>
      onB ds_100 fun b_75 ds_101 =>
      Option.bind (F_checked_Mod [(.i a_0), (.i b_0)]) fun r_62 =>
      onI r_62 fun i_37 ds_102 =>
      onB ds_102 fun b_76 ds_103 =>
      Option.bind (bif b_76 then (bif (decide (0 < b_0)) then (bif (decide (i_37 < 0)) then (some true) else
         (bif (decide (b_0 ≤ i_37)) then (some true) else
          (bif (decide (b_0 < 0)) then (bif (decide (0 < i_37)) then (some true) else
            (bif (decide (i_37 ≤ b_0)) then (some true) else
             (some false))) else
           (some false)))) else
        (bif (decide (b_0 < 0)) then (bif (decide (0 < i_37)) then (some true) else
          (bif (decide (i_37 ≤ b_0)) then (some true) else
           (some false))) else
         (some false))) else
       (some false)) fun b_77 =>
      bif b_77 then (some [(.b false)]) else
      (Option.bind (F_checked_Mul [(.i i_36), (.i b_0)]) fun r_63 =>
       onI r_63 fun i_38 ds_104 =>
       onB ds_104 fun b_78 ds_105 =>
       Option.bind (bif b_75 then (some b_78) else
        (some false)) fun b_79 =>
       bif b_79 then (Option.bind (F_checked_Add [(.i i_38), (.i i_37)]) fun r_64 =>
        onI r_64 fun i_39 ds_106 =>
        onB ds_106 fun b_80 ds_107 =>
        Option.bind (F_law03_is [(.i i_39), (.b b_80), (.i a_0), (.b true)]) fun r_65 =>
        onB r_65 fun b_81 ds_108 =>
        bif (!b_81) then (some [(.b false)]) else
        (Option.bind (F_law03_works []) fun r_66 =>
         onB r_66 fun b_82 ds_109 =>
         some [(.b b_82)])) else
       (Option.bind (F_law03_works []) fun r_67 =>
        onB r_67 fun b_83 ds_110 =>
        some [(.b b_83)]))))) else
   (Option.bind (F_checked_Mul [(.i a_0), (.i b_0)]) fun r_68 =>
    onI r_68 fun i_40 ds_111 =>
    onB ds_111 fun b_84 ds_112 =>
    Option.bind (bif b_84 then (bif (!decide (b_0 = 0)) then (some true) else
      (some false)) else
     (some false)) fun b_85 =>
    bif b_85 then (Option.bind (F_checked_Div [(.i i_40), (.i b_0)]) fun r_69 =>
     onI r_69 fun i_41 ds_113 =>
     onB ds_113 fun b_86 ds_114 =>
     Option.bind (F_checked_Mod [(.i i_40), (.i b_0)]) fun r_70 =>
     onI r_70 fun i_42 ds_115 =>
     onB ds_115 fun b_87 ds_116 =>
     Option.bind (F_law03_is [(.i i_41), (.b b_86), (.i a_0), (.b true)]) fun r_71 =>
     onB r_71 fun b_88 ds_117 =>
     bif (!b_88) then (some [(.b false)]) else
     (Option.bind (F_law03_is [(.i i_42), (.b b_87), (.i 0), (.b true)]) fun r_72 =>
      onB r_72 fun b_89 ds_118 =>
      bif (!b_89) then (some [(.b false)]) else
      (Option.bind (F_checked_Div [(.i a_0), (.i b_0)]) fun r_73 =>
       onI r_73 fun i_43 ds_119 =>
       onB ds_119 fun b_90 ds_120 =>
       Option.bind (F_checked_Mod [(.i a_0), (.i b_0)]) fun r_74 =>
       onI r_74 fun i_44 ds_121 =>
       onB ds_121 fun b_91 ds_122 =>
       Option.bind (bif b_91 then (bif (decide (0 < b_0)) then (bif (decide (i_44 < 0)) then (some true) else
          (bif (decide (b_0 ≤ i_44)) then (some true) else
           (bif (decide (b_0 < 0)) then (bif (decide (0 < i_44)) then (some true) else
             (bif (decide (i_44 ≤ b_0)) then (some true) else
              (some false))) else
            (some false)))) else
         (bif (decide (b_0 < 0)) then (bif (decide (0 < i_44)) then (some true) else
           (bif (decide (i_44 ≤ b_0)) then (some true) else
            (some false))) else
          (some false))) else
        (some false)) fun b_92 =>
       bif b_92 then (some [(.b false)]) else
       (Option.bind (F_checked_Mul [(.i i_43), (.i b_0)]) fun r_75 =>
        onI r_75 fun i_45 ds_123 =>
        onB ds_123 fun b_93 ds_124 =>
        Option.bind (bif b_90 then (some b_93) else
         (some false)) fun b_94 =>
        bif b_94 then (Option.bind (F_checked_Add [(.i i_45), (.i i_44)]) fun r_76 =>
         onI r_76 fun i_46 ds_125 =>
         onB ds_125 fun b_95 ds_126 =>
         Option.bind (F_law03_is [(.i i_46), (.b b_95), (.i a_0), (.b true)]) fun r_77 =>
         onB r_77 fun b_96 ds_127 =>
         bif (!b_96) then (some [(.b false)]) else
         (Option.bind (F_law03_works []) fun r_78 =>
          onB r_78 fun b_97 ds_128 =>
          some [(.b b_97)])) else
        (Option.bind (F_law03_works []) fun r_79 =>
         onB r_79 fun b_98 ds_129 =>
         some [(.b b_98)]))))) else
    (Option.bind (F_checked_Div [(.i a_0), (.i b_0)]) fun r_80 =>
     onI r_80 fun i_47 ds_130 =>
     onB ds_130 fun b_99 ds_131 =>
     Option.bind (F_checked_Mod [(.i a_0), (.i b_0)]) fun r_81 =>
     onI r_81 fun i_48 ds_132 =>
     onB ds_132 fun b_100 ds_133 =>
     Option.bind (bif b_100 then (bif (decide (0 < b_0)) then (bif (decide (i_48 < 0)) then (some true) else
        (bif (decide (b_0 ≤ i_48)) then (some true) else
         (bif (decide (b_0 < 0)) then (bif (decide (0 < i_48)) then (some true) else
           (bif (decide (i_48 ≤ b_0)) then (some true) else
            (some false))) else
          (some false)))) else
       (bif (decide (b_0 < 0)) then (bif (decide (0 < i_48)) then (some true) else
         (bif (decide (i_48 ≤ b_0)) then (some true) else
          (some false))) else
        (some false))) else
      (some false)) fun b_101 =>
     bif b_101 then (some [(.b false)]) else
     (Option.bind (F_checked_Mul [(.i i_47), (.i b_0)]) fun r_82 =>
      onI r_82 fun i_49 ds_134 =>
      onB ds_134 fun b_102 ds_135 =>
      Option.bind (bif b_99 then (some b_102) else
       (some false)) fun b_103 =>
      bif b_103 then (Option.bind (F_checked_Add [(.i i_49), (.i i_48)]) fun r_83 =>
       onI r_83 fun i_50 ds_136 =>
       onB ds_136 fun b_104 ds_137 =>
       Option.bind (F_law03_is [(.i i_50), (.b b_104), (.i a_0), (.b true)]) fun r_84 =>
       onB r_84 fun b_105 ds_138 =>
       bif (!b_105) then (some [(.b false)]) else
       (Option.bind (F_law03_works []) fun r_85 =>
        onB r_85 fun b_106 ds_139 =>
        some [(.b b_106)])) else
      (Option.bind (F_law03_works []) fun r_86 =>
       onB r_86 fun b_107 ds_140 =>
       some [(.b b_107)])))))
noncomputable def F_law03_CheckedJust : List Dat → Option (List Dat) := fun ds_0 =>
  onI ds_0 fun a_0 ds_1 =>
  onI ds_1 fun b_0 ds_2 =>
  Option.bind (bif (decide (0 ≤ a_0)) then (bif (decide (0 ≤ b_0)) then (some true) else
    (some false)) else
   (some false)) fun b_1 =>
  bif b_1 then (Option.bind (bif (decide ((u64 ((u64 a_0) + (u64 b_0))) ≤ 9223372036854775807)) then (some true) else
    (some false)) fun b_2 =>
   Option.bind (bif (decide (a_0 < 0)) then (bif (decide (b_0 < 0)) then (some true) else
     (some false)) else
    (some false)) fun b_3 =>
   bif b_3 then (Option.bind (bif (decide ((u64 ((u64 (i64 (0 - (i64 (a_0 + 1))))) + (u64 (i64 (0 - (i64 (b_0 + 1))))))) ≤ 9223372036854775806)) then (some true) else
     (some false)) fun b_4 =>
    Option.bind (F_checked_Add [(.i a_0), (.i b_0)]) fun r_0 =>
    onI r_0 fun i_0 ds_3 =>
    onB ds_3 fun b_5 ds_4 =>
    Option.bind (F_checked_Add [(.i b_0), (.i a_0)]) fun r_1 =>
    onI r_1 fun i_1 ds_5 =>
    onB ds_5 fun b_6 ds_6 =>
    Option.bind (F_checked_Mul [(.i a_0), (.i b_0)]) fun r_2 =>
    onI r_2 fun i_2 ds_7 =>
    onB ds_7 fun b_7 ds_8 =>
    Option.bind (F_checked_Mul [(.i b_0), (.i a_0)]) fun r_3 =>
    onI r_3 fun i_3 ds_9 =>
    onB ds_9 fun b_8 ds_10 =>
    bif (!(b_5 == b_4)) then (some [(.b false)]) else
    (Option.bind (F_law03_is [(.i i_0), (.b b_5), (.i i_1), (.b b_6)]) fun r_4 =>
     onB r_4 fun b_9 ds_11 =>
     bif (!b_9) then (some [(.b false)]) else
     (Option.bind (F_law03_is [(.i i_2), (.b b_7), (.i i_3), (.b b_8)]) fun r_5 =>
      onB r_5 fun b_10 ds_12 =>
      bif (!b_10) then (some [(.b false)]) else
      (bif b_5 then (bif (!decide (i_0 = (i64 (a_0 + b_0)))) then (some [(.b false)]) else
        (bif (!b_5) then (bif (!decide (i_0 = 0)) then (some [(.b false)]) else
          (bif (!decide (b_0 = (-9223372036854775808))) then (Option.bind (F_checked_Sub [(.i a_0), (.i b_0)]) fun r_6 =>
            onI r_6 fun i_4 ds_13 =>
            onB ds_13 fun b_11 ds_14 =>
            Option.bind (F_checked_Add [(.i a_0), (.i (i64 (0 - b_0)))]) fun r_7 =>
            onI r_7 fun i_5 ds_15 =>
            onB ds_15 fun b_12 ds_16 =>
            Option.bind (F_law03_is [(.i i_4), (.b b_11), (.i i_5), (.b b_12)]) fun r_8 =>
            onB r_8 fun b_13 ds_17 =>
            bif (!b_13) then (some [(.b false)]) else
            (Option.bind (F_checked_Div [(.i a_0), (.i b_0)]) fun r_9 =>
             onI r_9 fun i_6 ds_18 =>
             onB ds_18 fun b_14 ds_19 =>
             Option.bind (F_checked_Mod [(.i a_0), (.i b_0)]) fun r_10 =>
             onI r_10 fun i_7 ds_20 =>
             onB ds_20 fun b_15 ds_21 =>
             bif (!decide (b_0 = 0)) then (bif (!decide (b_0 = (-1))) then (bif (b_14 == true) then (bif (!decide (b_0 = 0)) then (bif (b_15 == true) then (Option.bind (F_law03_works []) fun r_11 =>
                  onB r_11 fun b_16 ds_22 =>
                  some [(.b b_16)]) else
                 (some [(.b false)])) else
                (bif (b_15 == false) then (Option.bind (F_law03_works []) fun r_12 =>
                  onB r_12 fun b_17 ds_23 =>
                  some [(.b b_17)]) else
                 (some [(.b false)]))) else
               (some [(.b false)])) else
              (bif (!decide (a_0 = (-9223372036854775808))) then (bif (b_14 == true) then (bif (!decide (b_0 = 0)) then (bif (b_15 == true) then (Option.bind (F_law03_works []) fun r_13 =>
                   onB r_13 fun b_18 ds_24 =>
                   some [(.b b_18)]) else
                  (some [(.b false)])) else
                 (bif (b_15 == false) then (Option.bind (F_law03_works []) fun r_14 =>
                   onB r_14 fun b_19 ds_25 =>
                   some [(.b b_19)]) else
                  (some [(.b false)]))) else
                (some [(.b false)])) else
               (bif (b_14 == false) then (bif (!decide (b_0 = 0)) then (bif (b_15 == true) then (Option.bind (F_law03_works []) fun r_15 =>
                   onB r_15 fun b_20 ds_26 =>
                   some [(.b b_20)]) else
                  (some [(.b false)])) else
                 (bif (b_15 == false) then (Option.bind (F_law03_works []) fun r_16 =>
                   onB r_16 fun b_21 ds_27 =>
                   some [(.b b_21)]) else
                  (some [(.b false)]))) else
                (some [(.b false)])))) else
             (bif (b_14 == false) then (bif (!decide (b_0 = 0)) then (bif (b_15 == true) then (Option.bind (F_law03_works []) fun r_17 =>
                 onB r_17 fun b_22 ds_28 =>
                 some [(.b b_22)]) else
                (some [(.b false)])) else
               (bif (b_15 == false) then (Option.bind (F_law03_works []) fun r_18 =>
                 onB r_18 fun b_23 ds_29 =>
                 some [(.b b_23)]) else
                (some [(.b false)]))) else
              (some [(.b false)])))) else
           (Option.bind (F_checked_Div [(.i a_0), (.i b_0)]) fun r_19 =>
            onI r_19 fun i_8 ds_30 =>
            onB ds_30 fun b_24 ds_31 =>
            Option.bind (F_checked_Mod [(.i a_0), (.i b_0)]) fun r_20 =>
            onI r_20 fun i_9 ds_32 =>
            onB ds_32 fun b_25 ds_33 =>
            bif (!decide (b_0 = 0)) then (bif (!decide (b_0 = (-1))) then (bif (b_24 == true) then (bif (!decide (b_0 = 0)) then (bif (b_25 == true) then (Option.bind (F_law03_works []) fun r_21 =>
                 onB r_21 fun b_26 ds_34 =>
                 some [(.b b_26)]) else
                (some [(.b false)])) else
               (bif (b_25 == false) then (Option.bind (F_law03_works []) fun r_22 =>
                 onB r_22 fun b_27 ds_35 =>
                 some [(.b b_27)]) else
                (some [(.b false)]))) else
              (some [(.b false)])) else
             (bif (!decide (a_0 = (-9223372036854775808))) then (bif (b_24 == true) then (bif (!decide (b_0 = 0)) then (bif (b_25 == true) then (Option.bind (F_law03_works []) fun r_23 =>
                  onB r_23 fun b_28 ds_36 =>
                  some [(.b b_28)]) else
                 (some [(.b false)])) else
                (bif (b_25 == false) then (Option.bind (F_law03_works []) fun r_24 =>
                  onB r_24 fun b_29 ds_37 =>
                  some [(.b b_29)]) else
                 (some [(.b false)]))) else
               (some [(.b false)])) else
              (bif (b_24 == false) then (bif (!decide (b_0 = 0)) then (bif (b_25 == true) then (Option.bind (F_law03_works []) fun r_25 =>
                  onB r_25 fun b_30 ds_38 =>
                  some [(.b b_30)]) else
                 (some [(.b false)])) else
                (bif (b_25 == false) then (Option.bind (F_law03_works []) fun r_26 =>
                  onB r_26 fun b_31 ds_39 =>
                  some [(.b b_31)]) else
                 (some [(.b false)]))) else
               (some [(.b false)])))) else
            (bif (b_24 == false) then (bif (!decide (b_0 = 0)) then (bif (b_25 == true) then (Option.bind (F_law03_works []) fun r_27 =>
                onB r_27 fun b_32 ds_40 =>
                some [(.b b_32)]) else
               (some [(.b false)])) else
              (bif (b_25 == false) then (Option.bind (F_law03_works []) fun r_28 =>
                onB r_28 fun b_33 ds_41 =>
                some [(.b b_33)]) else
               (some [(.b false)]))) else
             (some [(.b false)]))))) else
         (bif (!decide (b_0 = (-9223372036854775808))) then (Option.bind (F_checked_Sub [(.i a_0), (.i b_0)]) fun r_29 =>
           onI r_29 fun i_10 ds_42 =>
           onB ds_42 fun b_34 ds_43 =>
           Option.bind (F_checked_Add [(.i a_0), (.i (i64 (0 - b_0)))]) fun r_30 =>
           onI r_30 fun i_11 ds_44 =>
           onB ds_44 fun b_35 ds_45 =>
           Option.bind (F_law03_is [(.i i_10), (.b b_34), (.i i_11), (.b b_35)]) fun r_31 =>
           onB r_31 fun b_36 ds_46 =>
           bif (!b_36) then (some [(.b false)]) else
           (Option.bind (F_checked_Div [(.i a_0), (.i b_0)]) fun r_32 =>
            onI r_32 fun i_12 ds_47 =>
            onB ds_47 fun b_37 ds_48 =>
            Option.bind (F_checked_Mod [(.i a_0), (.i b_0)]) fun r_33 =>
            onI r_33 fun i_13 ds_49 =>
            onB ds_49 fun b_38 ds_50 =>
            bif (!decide (b_0 = 0)) then (bif (!decide (b_0 = (-1))) then (bif (b_37 == true) then (bif (!decide (b_0 = 0)) then (bif (b_38 == true) then (Option.bind (F_law03_works []) fun r_34 =>
                 onB r_34 fun b_39 ds_51 =>
                 some [(.b b_39)]) else
                (some [(.b false)])) else
               (bif (b_38 == false) then (Option.bind (F_law03_works []) fun r_35 =>
                 onB r_35 fun b_40 ds_52 =>
                 some [(.b b_40)]) else
                (some [(.b false)]))) else
              (some [(.b false)])) else
             (bif (!decide (a_0 = (-9223372036854775808))) then (bif (b_37 == true) then (bif (!decide (b_0 = 0)) then (bif (b_38 == true) then (Option.bind (F_law03_works []) fun r_36 =>
                  onB r_36 fun b_41 ds_53 =>
                  some [(.b b_41)]) else
                 (some [(.b false)])) else
                (bif (b_38 == false) then (Option.bind (F_law03_works []) fun r_37 =>
                  onB r_37 fun b_42 ds_54 =>
                  some [(.b b_42)]) else
                 (some [(.b false)]))) else
               (some [(.b false)])) else
              (bif (b_37 == false) then (bif (!decide (b_0 = 0)) then (bif (b_38 == true) then (Option.bind (F_law03_works []) fun r_38 =>
                  onB r_38 fun b_43 ds_55 =>
                  some [(.b b_43)]) else
                 (some [(.b false)])) else
                (bif (b_38 == false) then (Option.bind (F_law03_works []) fun r_39 =>
                  onB r_39 fun b_44 ds_56 =>
                  some [(.b b_44)]) else
                 (some [(.b false)]))) else
               (some [(.b false)])))) else
            (bif (b_37 == false) then (bif (!decide (b_0 = 0)) then (bif (b_38 == true) then (Option.bind (F_law03_works []) fun r_40 =>
                onB r_40 fun b_45 ds_57 =>
                some [(.b b_45)]) else
               (some [(.b false)])) else
              (bif (b_38 == false) then (Option.bind (F_law03_works []) fun r_41 =>
                onB r_41 fun b_46 ds_58 =>
                some [(.b b_46)]) else
               (some [(.b false)]))) else
             (some [(.b false)])))) else
          (Option.bind (F_checked_Div [(.i a_0), (.i b_0)]) fun r_42 =>
           onI r_42 fun i_14 ds_59 =>
           onB ds_59 fun b_47 ds_60 =>
           Option.bind (F_checked_Mod [(.i a_0), (.i b_0)]) fun r_43 =>
           onI r_43 fun i_15 ds_61 =>
           onB ds_61 fun b_48 ds_62 =>
           bif (!decide (b_0 = 0)) then (bif (!decide (b_0 = (-1))) then (bif (b_47 == true) then (bif (!decide (b_0 = 0)) then (bif (b_48 == true) then (Option.bind (F_law03_works []) fun r_44 =>
                onB r_44 fun b_49 ds_63 =>
                some [(.b b_49)]) else
               (some [(.b false)])) else
              (bif (b_48 == false) then (Option.bind (F_law03_works []) fun r_45 =>
                onB r_45 fun b_50 ds_64 =>
                some [(.b b_50)]) else
               (some [(.b false)]))) else
             (some [(.b false)])) else
            (bif (!decide (a_0 = (-9223372036854775808))) then (bif (b_47 == true) then (bif (!decide (b_0 = 0)) then (bif (b_48 == true) then (Option.bind (F_law03_works []) fun r_46 =>
                 onB r_46 fun b_51 ds_65 =>
                 some [(.b b_51)]) else
                (some [(.b false)])) else
               (bif (b_48 == false) then (Option.bind (F_law03_works []) fun r_47 =>
                 onB r_47 fun b_52 ds_66 =>
                 some [(.b b_52)]) else
                (some [(.b false)]))) else
              (some [(.b false)])) else
             (bif (b_47 == false) then (bif (!decide (b_0 = 0)) then (bif (b_48 == true) then (Option.bind (F_law03_works []) fun r_48 =>
                 onB r_48 fun b_53 ds_67 =>
                 some [(.b b_53)]) else
                (some [(.b false)])) else
               (bif (b_48 == false) then (Option.bind (F_law03_works []) fun r_49 =>
                 onB r_49 fun b_54 ds_68 =>
                 some [(.b b_54)]) else
                (some [(.b false)]))) else
              (some [(.b false)])))) else
           (bif (b_47 == false) then (bif (!decide (b_0 = 0)) then (bif (b_48 == true) then (Option.bind (F_law03_works []) fun r_50 =>
               onB r_50 fun b_55 ds_69 =>
               some [(.b b_55)]) else
              (some [(.b false)])) else
             (bif (b_48 == false) then (Option.bind (F_law03_works []) fun r_51 =>
               onB r_51 fun b_56 ds_70 =>
               some [(.b b_56)]) else
              (some [(.b false)]))) else
            (some [(.b false)])))))) else
       (bif (!b_5) then (bif (!decide (i_0 = 0)) then (some [(.b false)]) else
         (bif (!decide (b_0 = (-9223372036854775808))) then (Option.bind (F_checked_Sub [(.i a_0), (.i b_0)]) fun r_52 =>
           onI r_52 fun i_16 ds_71 =>
           onB ds_71 fun b_57 ds_72 =>
           Option.bind (F_checked_Add [(.i a_0), (.i (i64 (0 - b_0)))]) fun r_53 =>
           onI r_53 fun i_17 ds_73 =>
           onB ds_73 fun b_58 ds_74 =>
           Option.bind (F_law03_is [(.i i_16), (.b b_57), (.i i_17), (.b b_58)]) fun r_54 =>
           onB r_54 fun b_59 ds_75 =>
           bif (!b_59) then (some [(.b false)]) else
           (Option.bind (F_checked_Div [(.i a_0), (.i b_0)]) fun r_55 =>
            onI r_55 fun i_18 ds_76 =>
            onB ds_76 fun b_60 ds_77 =>
            Option.bind (F_checked_Mod [(.i a_0), (.i b_0)]) fun r_56 =>
            onI r_56 fun i_19 ds_78 =>
            onB ds_78 fun b_61 ds_79 =>
            bif (!decide (b_0 = 0)) then (bif (!decide (b_0 = (-1))) then (bif (b_60 == true) then (bif (!decide (b_0 = 0)) then (bif (b_61 == true) then (Option.bind (F_law03_works []) fun r_57 =>
                 onB r_57 fun b_62 ds_80 =>
                 some [(.b b_62)]) else
                (some [(.b false)])) else
               (bif (b_61 == false) then (Option.bind (F_law03_works []) fun r_58 =>
                 onB r_58 fun b_63 ds_81 =>
                 some [(.b b_63)]) else
                (some [(.b false)]))) else
              (some [(.b false)])) else
             (bif (!decide (a_0 = (-9223372036854775808))) then (bif (b_60 == true) then (bif (!decide (b_0 = 0)) then (bif (b_61 == true) then (Option.bind (F_law03_works []) fun r_59 =>
                  onB r_59 fun b_64 ds_82 =>
                  some [(.b b_64)]) else
                 (some [(.b false)])) else
                (bif (b_61 == false) then (Option.bind (F_law03_works []) fun r_60 =>
                  onB r_60 fun b_65 ds_83 =>
                  some [(.b b_65)]) else
                 (some [(.b false)]))) else
               (some [(.b false)])) else
              (bif (b_60 == false) then (bif (!decide (b_0 = 0)) then (bif (b_61 == true) then (Option.bind (F_law03_works []) fun r_61 =>
                  onB r_61 fun b_66 ds_84 =>
                  some [(.b b_66)]) else
                 (some [(.b false)])) else
                (bif (b_61 == false) then (Option.bind (F_law03_works []) fun r_62 =>
                  onB r_62 fun b_67 ds_85 =>
                  some [(.b b_67)]) else
                 (some [(.b false)]))) else
               (some [(.b false)])))) else
            (bif (b_60 == false) then (bif (!decide (b_0 = 0)) then (bif (b_61 == true) then (Option.bind (F_law03_works []) fun r_63 =>
                onB r_63 fun b_68 ds_86 =>
                some [(.b b_68)]) else
               (some [(.b false)])) else
              (bif (b_61 == false) then (Option.bind (F_law03_works []) fun r_64 =>
                onB r_64 fun b_69 ds_87 =>
                some [(.b b_69)]) else
               (some [(.b false)]))) else
             (some [(.b false)])))) else
          (Option.bind (F_checked_Div [(.i a_0), (.i b_0)]) fun r_65 =>
           onI r_65 fun i_20 ds_88 =>
           onB ds_88 fun b_70 ds_89 =>
           Option.bind (F_checked_Mod [(.i a_0), (.i b_0)]) fun r_66 =>
           onI r_66 fun i_21 ds_90 =>
           onB ds_90 fun b_71 ds_91 =>
           bif (!decide (b_0 = 0)) then (bif (!decide (b_0 = (-1))) then (bif (b_70 == true) then (bif (!decide (b_0 = 0)) then (bif (b_71 == true) then (Option.bind (F_law03_works []) fun r_67 =>
                onB r_67 fun b_72 ds_92 =>
                some [(.b b_72)]) else
               (some [(.b false)])) else
              (bif (b_71 == false) then (Option.bind (F_law03_works []) fun r_68 =>
                onB r_68 fun b_73 ds_93 =>
                some [(.b b_73)]) else
               (some [(.b false)]))) else
             (some [(.b false)])) else
            (bif (!decide (a_0 = (-9223372036854775808))) then (bif (b_70 == true) then (bif (!decide (b_0 = 0)) then (bif (b_71 == true) then (Option.bind (F_law03_works []) fun r_69 =>
                 onB r_69 fun b_74 ds_94 =>
                 some [(.b b_74)]) else
                (some [(.b false)])) else
               (bif (b_71 == false) then (Option.bind (F_law03_works []) fun r_70 =>
                 onB r_70 fun b_75 ds_95 =>
                 some [(.b b_75)]) else
                (some [(.b false)]))) else
              (some [(.b false)])) else
             (bif (b_70 == false) then (bif (!decide (b_0 = 0)) then (bif (b_71 == true) then (Option.bind (F_law03_works []) fun r_71 =>
                 onB r_71 fun b_76 ds_96 =>
                 some [(.b b_76)]) else
                (some [(.b false)])) else
               (bif (b_71 == false) then (Option.bind (F_law03_works []) fun r_72 =>
                 onB r_72 fun b_77 ds_97 =>
                 some [(.b b_77)]) else
                (some [(.b false)]))) else
              (some [(.b false)])))) else
           (bif (b_70 == false) then (bif (!decide (b_0 = 0)) then (bif (b_71 == true) then (Option.bind (F_law03_works []) fun r_73 =>
               onB r_73 fun b_78 ds_98 =>
               some [(.b b_78)]) else
              (some [(.b false)])) else
             (bif (b_71 == false) then (Option.bind (F_law03_works []) fun r_74 =>
               onB r_74 fun b_79 ds_99 =>
               some [(.b b_79)]) else
              (some [(.b false)]))) else
            (some [(.b false)]))))) else
        (bif (!decide (b_0 = (-9223372036854775808))) then (Option.bind (F_checked_Sub [(.i a_0), (.i b_0)]) fun r_75 =>
          onI r_75 fun i_22 ds_100 =>
          onB ds_100 fun b_80 ds_101 =>
          Option.bind (F_checked_Add [(.i a_0), (.i (i64 (0 - b_0)))]) fun r_76 =>
          onI r_76 fun i_23 ds_102 =>
          onB ds_102 fun b_81 ds_103 =>
          Option.bind (F_law03_is [(.i i_22), (.b b_80), (.i i_23), (.b b_81)]) fun r_77 =>
          onB r_77 fun b_82 ds_104 =>
          bif (!b_82) then (some [(.b false)]) else
          (Option.bind (F_checked_Div [(.i a_0), (.i b_0)]) fun r_78 =>
           onI r_78 fun i_24 ds_105 =>
           onB ds_105 fun b_83 ds_106 =>
           Option.bind (F_checked_Mod [(.i a_0), (.i b_0)]) fun r_79 =>
           onI r_79 fun i_25 ds_107 =>
           onB ds_107 fun b_84 ds_108 =>
           bif (!decide (b_0 = 0)) then (bif (!decide (b_0 = (-1))) then (bif (b_83 == true) then (bif (!decide (b_0 = 0)) then (bif (b_84 == true) then (Option.bind (F_law03_works []) fun r_80 =>
                onB r_80 fun b_85 ds_109 =>
                some [(.b b_85)]) else
               (some [(.b false)])) else
              (bif (b_84 == false) then (Option.bind (F_law03_works []) fun r_81 =>
                onB r_81 fun b_86 ds_110 =>
                some [(.b b_86)]) else
               (some [(.b false)]))) else
             (some [(.b false)])) else
            (bif (!decide (a_0 = (-9223372036854775808))) then (bif (b_83 == true) then (bif (!decide (b_0 = 0)) then (bif (b_84 == true) then (Option.bind (F_law03_works []) fun r_82 =>
                 onB r_82 fun b_87 ds_111 =>
                 some [(.b b_87)]) else
                (some [(.b false)])) else
               (bif (b_84 == false) then (Option.bind (F_law03_works []) fun r_83 =>
                 onB r_83 fun b_88 ds_112 =>
                 some [(.b b_88)]) else
                (some [(.b false)]))) else
              (some [(.b false)])) else
             (bif (b_83 == false) then (bif (!decide (b_0 = 0)) then (bif (b_84 == true) then (Option.bind (F_law03_works []) fun r_84 =>
                 onB r_84 fun b_89 ds_113 =>
                 some [(.b b_89)]) else
                (some [(.b false)])) else
               (bif (b_84 == false) then (Option.bind (F_law03_works []) fun r_85 =>
                 onB r_85 fun b_90 ds_114 =>
                 some [(.b b_90)]) else
                (some [(.b false)]))) else
              (some [(.b false)])))) else
           (bif (b_83 == false) then (bif (!decide (b_0 = 0)) then (bif (b_84 == true) then (Option.bind (F_law03_works []) fun r_86 =>
               onB r_86 fun b_91 ds_115 =>
               some [(.b b_91)]) else
              (some [(.b false)])) else
             (bif (b_84 == false) then (Option.bind (F_law03_works []) fun r_87 =>
               onB r_87 fun b_92 ds_116 =>
               some [(.b b_92)]) else
              (some [(.b false)]))) else
            (some [(.b false)])))) else
         (Option.bind (F_checked_Div [(.i a_0), (.i b_0)]) fun r_88 =>
          onI r_88 fun i_26 ds_117 =>
          onB ds_117 fun b_93 ds_118 =>
          Option.bind (F_checked_Mod [(.i a_0), (.i b_0)]) fun r_89 =>
          onI r_89 fun i_27 ds_119 =>
          onB ds_119 fun b_94 ds_120 =>
          bif (!decide (b_0 = 0)) then (bif (!decide (b_0 = (-1))) then (bif (b_93 == true) then (bif (!decide (b_0 = 0)) then (bif (b_94 == true) then (Option.bind (F_law03_works []) fun r_90 =>
               onB r_90 fun b_95 ds_121 =>
               some [(.b b_95)]) else
              (some [(.b false)])) else
             (bif (b_94 == false) then (Option.bind (F_law03_works []) fun r_91 =>
               onB r_91 fun b_96 ds_122 =>
               some [(.b b_96)]) else
              (some [(.b false)]))) else
            (some [(.b false)])) else
           (bif (!decide (a_0 = (-9223372036854775808))) then (bif (b_93 == true) then (bif (!decide (b_0 = 0)) then (bif (b_94 == true) then (Option.bind (F_law03_works []) fun r_92 =>
                onB r_92 fun b_97 ds_123 =>
                some [(.b b_97)]) else
               (some [(.b false)])) else
              (bif (b_94 == false) then (Option.bind (F_law03_works []) fun r_93 =>
                onB r_93 fun b_98 ds_124 =>
                some [(.b b_98)]) else
               (some [(.b false)]))) else
             (some [(.b false)])) else
            (bif (b_93 == false) then (bif (!decide (b_0 = 0)) then (bif (b_94 == true) then (Option.bind (F_law03_works []) fun r_94 =>
                onB r_94 fun b_99 ds_125 =>
                some [(.b b_99)]) else
               (some [(.b false)])) else
              (bif (b_94 == false) then (Option.bind (F_law03_works []) fun r_95 =>
                onB r_95 fun b_100 ds_126 =>
                some [(.b b_100)]) else
               (some [(.b false)]))) else
             (some [(.b false)])))) else
          (bif (b_93 == false) then (bif (!decide (b_0 = 0)) then (bif (b_94 == true) then (Option.bind (F_law03_works []) fun r_96 =>
              onB r_96 fun b_101 ds_127 =>
              some [(.b b_101)]) else
             (some [(.b false)])) else
            (bif (b_94 == false) then (Option.bind (F_law03_works []) fun r_97 =>
              onB r_97 fun b_102 ds_128 =>
              some [(.b b_102)]) else
             (some [(.b false)]))) else
           (some [(.b false)]))))))))) else
   (Option.bind (F_checked_Add [(.i a_0), (.i b_0)]) fun r_98 =>
    onI r_98 fun i_28 ds_129 =>
    onB ds_129 fun b_103 ds_130 =>
    Option.bind (F_checked_Add [(.i b_0), (.i a_0)]) fun r_99 =>
    onI r_99 fun i_29 ds_131 =>
    onB ds_131 fun b_104 ds_132 =>
    Option.bind (F_checked_Mul [(.i a_0), (.i b_0)]) fun r_100 =>
    onI r_100 fun i_30 ds_133 =>
    onB ds_133 fun b_105 ds_134 =>
    Option.bind (F_checked_Mul [(.i b_0), (.i a_0)]) fun r_101 =>
    onI r_101 fun i_31 ds_135 =>
    onB ds_135 fun b_106 ds_136 =>
    bif (!(b_103 == b_2)) then (some [(.b false)]) else
    (Option.bind (F_law03_is [(.i i_28), (.b b_103), (.i i_29), (.b b_104)]) fun r_102 =>
     onB r_102 fun b_107 ds_137 =>
     bif (!b_107) then (some [(.b false)]) else
     (Option.bind (F_law03_is [(.i i_30), (.b b_105), (.i i_31), (.b b_106)]) fun r_103 =>
      onB r_103 fun b_108 ds_138 =>
      bif (!b_108) then (some [(.b false)]) else
      (bif b_103 then (bif (!decide (i_28 = (i64 (a_0 + b_0)))) then (some [(.b false)]) else
        (bif (!b_103) then (bif (!decide (i_28 = 0)) then (some [(.b false)]) else
          (bif (!decide (b_0 = (-9223372036854775808))) then (Option.bind (F_checked_Sub [(.i a_0), (.i b_0)]) fun r_104 =>
            onI r_104 fun i_32 ds_139 =>
            onB ds_139 fun b_109 ds_140 =>
            Option.bind (F_checked_Add [(.i a_0), (.i (i64 (0 - b_0)))]) fun r_105 =>
            onI r_105 fun i_33 ds_141 =>
            onB ds_141 fun b_110 ds_142 =>
            Option.bind (F_law03_is [(.i i_32), (.b b_109), (.i i_33), (.b b_110)]) fun r_106 =>
            onB r_106 fun b_111 ds_143 =>
            bif (!b_111) then (some [(.b false)]) else
            (Option.bind (F_checked_Div [(.i a_0), (.i b_0)]) fun r_107 =>
             onI r_107 fun i_34 ds_144 =>
             onB ds_144 fun b_112 ds_145 =>
             Option.bind (F_checked_Mod [(.i a_0), (.i b_0)]) fun r_108 =>
             onI r_108 fun i_35 ds_146 =>
             onB ds_146 fun b_113 ds_147 =>
             bif (!decide (b_0 = 0)) then (bif (!decide (b_0 = (-1))) then (bif (b_112 == true) then (bif (!decide (b_0 = 0)) then (bif (b_113 == true) then (Option.bind (F_law03_works []) fun r_109 =>
                  onB r_109 fun b_114 ds_148 =>
                  some [(.b b_114)]) else
                 (some [(.b false)])) else
                (bif (b_113 == false) then (Option.bind (F_law03_works []) fun r_110 =>
                  onB r_110 fun b_115 ds_149 =>
                  some [(.b b_115)]) else
                 (some [(.b false)]))) else
               (some [(.b false)])) else
              (bif (!decide (a_0 = (-9223372036854775808))) then (bif (b_112 == true) then (bif (!decide (b_0 = 0)) then (bif (b_113 == true) then (Option.bind (F_law03_works []) fun r_111 =>
                   onB r_111 fun b_116 ds_150 =>
                   some [(.b b_116)]) else
                  (some [(.b false)])) else
                 (bif (b_113 == false) then (Option.bind (F_law03_works []) fun r_112 =>
                   onB r_112 fun b_117 ds_151 =>
                   some [(.b b_117)]) else
                  (some [(.b false)]))) else
                (some [(.b false)])) else
               (bif (b_112 == false) then (bif (!decide (b_0 = 0)) then (bif (b_113 == true) then (Option.bind (F_law03_works []) fun r_113 =>
                   onB r_113 fun b_118 ds_152 =>
                   some [(.b b_118)]) else
                  (some [(.b false)])) else
                 (bif (b_113 == false) then (Option.bind (F_law03_works []) fun r_114 =>
                   onB r_114 fun b_119 ds_153 =>
                   some [(.b b_119)]) else
                  (some [(.b false)]))) else
                (some [(.b false)])))) else
             (bif (b_112 == false) then (bif (!decide (b_0 = 0)) then (bif (b_113 == true) then (Option.bind (F_law03_works []) fun r_115 =>
                 onB r_115 fun b_120 ds_154 =>
                 some [(.b b_120)]) else
                (some [(.b false)])) else
               (bif (b_113 == false) then (Option.bind (F_law03_works []) fun r_116 =>
                 onB r_116 fun b_121 ds_155 =>
                 some [(.b b_121)]) else
                (some [(.b false)]))) else
              (some [(.b false)])))) else
           (Option.bind (F_checked_Div [(.i a_0), (.i b_0)]) fun r_117 =>
            onI r_117 fun i_36 ds_156 =>
            onB ds_156 fun b_122 ds_157 =>
            Option.bind (F_checked_Mod [(.i a_0), (.i b_0)]) fun r_118 =>
            onI r_118 fun i_37 ds_158 =>
            onB ds_158 fun b_123 ds_159 =>
            bif (!decide (b_0 = 0)) then (bif (!decide (b_0 = (-1))) then (bif (b_122 == true) then (bif (!decide (b_0 = 0)) then (bif (b_123 == true) then (Option.bind (F_law03_works []) fun r_119 =>
                 onB r_119 fun b_124 ds_160 =>
                 some [(.b b_124)]) else
                (some [(.b false)])) else
               (bif (b_123 == false) then (Option.bind (F_law03_works []) fun r_120 =>
                 onB r_120 fun b_125 ds_161 =>
                 some [(.b b_125)]) else
                (some [(.b false)]))) else
              (some [(.b false)])) else
             (bif (!decide (a_0 = (-9223372036854775808))) then (bif (b_122 == true) then (bif (!decide (b_0 = 0)) then (bif (b_123 == true) then (Option.bind (F_law03_works []) fun r_121 =>
                  onB r_121 fun b_126 ds_162 =>
                  some [(.b b_126)]) else
                 (some [(.b false)])) else
                (bif (b_123 == false) then (Option.bind (F_law03_works []) fun r_122 =>
                  onB r_122 fun b_127 ds_163 =>
                  some [(.b b_127)]) else
                 (some [(.b false)]))) else
               (some [(.b false)])) else
              (bif (b_122 == false) then (bif (!decide (b_0 = 0)) then (bif (b_123 == true) then (Option.bind (F_law03_works []) fun r_123 =>
                  onB r_123 fun b_128 ds_164 =>
                  some [(.b b_128)]) else
                 (some [(.b false)])) else
                (bif (b_123 == false) then (Option.bind (F_law03_works []) fun r_124 =>
                  onB r_124 fun b_129 ds_165 =>
                  some [(.b b_129)]) else
                 (some [(.b false)]))) else
               (some [(.b false)])))) else
            (bif (b_122 == false) then (bif (!decide (b_0 = 0)) then (bif (b_123 == true) then (Option.bind (F_law03_works []) fun r_125 =>
                onB r_125 fun b_130 ds_166 =>
                some [(.b b_130)]) else
               (some [(.b false)])) else
              (bif (b_123 == false) then (Option.bind (F_law03_works []) fun r_126 =>
                onB r_126 fun b_131 ds_167 =>
                some [(.b b_131)]) else
               (some [(.b false)]))) else
             (some [(.b false)]))))) else
         (bif (!decide (b_0 = (-9223372036854775808))) then (Option.bind (F_checked_Sub [(.i a_0), (.i b_0)]) fun r_127 =>
           onI r_127 fun i_38 ds_168 =>
           onB ds_168 fun b_132 ds_169 =>
           Option.bind (F_checked_Add [(.i a_0), (.i (i64 (0 - b_0)))]) fun r_128 =>
           onI r_128 fun i_39 ds_170 =>
           onB ds_170 fun b_133 ds_171 =>
           Option.bind (F_law03_is [(.i i_38), (.b b_132), (.i i_39), (.b b_133)]) fun r_129 =>
           onB r_129 fun b_134 ds_172 =>
           bif (!b_134) then (some [(.b false)]) else
           (Option.bind (F_checked_Div [(.i a_0), (.i b_0)]) fun r_130 =>
            onI r_130 fun i_40 ds_173 =>
            onB ds_173 fun b_135 ds_174 =>
            Option.bind (F_checked_Mod [(.i a_0), (.i b_0)]) fun r_131 =>
            onI r_131 fun i_41 ds_175 =>
            onB ds_175 fun b_136 ds_176 =>
            bif (!decide (b_0 = 0)) then (bif (!decide (b_0 = (-1))) then (bif (b_135 == true) then (bif (!decide (b_0 = 0)) then (bif (b_136 == true) then (Option.bind (F_law03_works []) fun r_132 =>
                 onB r_132 fun b_137 ds_177 =>
                 some [(.b b_137)]) else
                (some [(.b false)])) else
               (bif (b_136 == false) then (Option.bind (F_law03_works []) fun r_133 =>
                 onB r_133 fun b_138 ds_178 =>
                 some [(.b b_138)]) else
                (some [(.b false)]))) else
              (some [(.b false)])) else
             (bif (!decide (a_0 = (-9223372036854775808))) then (bif (b_135 == true) then (bif (!decide (b_0 = 0)) then (bif (b_136 == true) then (Option.bind (F_law03_works []) fun r_134 =>
                  onB r_134 fun b_139 ds_179 =>
                  some [(.b b_139)]) else
                 (some [(.b false)])) else
                (bif (b_136 == false) then (Option.bind (F_law03_works []) fun r_135 =>
                  onB r_135 fun b_140 ds_180 =>
                  some [(.b b_140)]) else
                 (some [(.b false)]))) else
               (some [(.b false)])) else
              (bif (b_135 == false) then (bif (!decide (b_0 = 0)) then (bif (b_136 == true) then (Option.bind (F_law03_works []) fun r_136 =>
                  onB r_136 fun b_141 ds_181 =>
                  some [(.b b_141)]) else
                 (some [(.b false)])) else
                (bif (b_136 == false) then (Option.bind (F_law03_works []) fun r_137 =>
                  onB r_137 fun b_142 ds_182 =>
                  some [(.b b_142)]) else
                 (some [(.b false)]))) else
               (some [(.b false)])))) else
            (bif (b_135 == false) then (bif (!decide (b_0 = 0)) then (bif (b_136 == true) then (Option.bind (F_law03_works []) fun r_138 =>
                onB r_138 fun b_143 ds_183 =>
                some [(.b b_143)]) else
               (some [(.b false)])) else
              (bif (b_136 == false) then (Option.bind (F_law03_works []) fun r_139 =>
                onB r_139 fun b_144 ds_184 =>
                some [(.b b_144)]) else
               (some [(.b false)]))) else
             (some [(.b false)])))) else
          (Option.bind (F_checked_Div [(.i a_0), (.i b_0)]) fun r_140 =>
           onI r_140 fun i_42 ds_185 =>
           onB ds_185 fun b_145 ds_186 =>
           Option.bind (F_checked_Mod [(.i a_0), (.i b_0)]) fun r_141 =>
           onI r_141 fun i_43 ds_187 =>
           onB ds_187 fun b_146 ds_188 =>
           bif (!decide (b_0 = 0)) then (bif (!decide (b_0 = (-1))) then (bif (b_145 == true) then (bif (!decide (b_0 = 0)) then (bif (b_146 == true) then (Option.bind (F_law03_works []) fun r_142 =>
                onB r_142 fun b_147 ds_189 =>
                some [(.b b_147)]) else
               (some [(.b false)])) else
              (bif (b_146 == false) then (Option.bind (F_law03_works []) fun r_143 =>
                onB r_143 fun b_148 ds_190 =>
                some [(.b b_148)]) else
               (some [(.b false)]))) else
             (some [(.b false)])) else
            (bif (!decide (a_0 = (-9223372036854775808))) then (bif (b_145 == true) then (bif (!decide (b_0 = 0)) then (bif (b_146 == true) then (Option.bind (F_law03_works []) fun r_144 =>
                 onB r_144 fun b_149 ds_191 =>
                 some [(.b b_149)]) else
                (some [(.b false)])) else
               (bif (b_146 == false) then (Option.bind (F_law03_works []) fun r_145 =>
                 onB r_145 fun b_150 ds_192 =>
                 some [(.b b_150)]) else
                (some [(.b false)]))) else
              (some [(.b false)])) else
             (bif (b_145 == false) then (bif (!decide (b_0 = 0)) then (bif (b_146 == true) then (Option.bind (F_law03_works []) fun r_146 =>
                 onB r_146 fun b_151 ds_193 =>
                 some [(.b b_151)]) else
                (some [(.b false)])) else
               (bif (b_146 == false) then (Option.bind (F_law03_works []) fun r_147 =>
                 onB r_147 fun b_152 ds_194 =>
                 some [(.b b_152)]) else
                (some [(.b false)]))) else
              (some [(.b false)])))) else
           (bif (b_145 == false) then (bif (!decide (b_0 = 0)) then (bif (b_146 == true) then (Option.bind (F_law03_works []) fun r_148 =>
               onB r_148 fun b_153 ds_195 =>
               some [(.b b_153)]) else
              (some [(.b false)])) else
             (bif (b_146 == false) then (Option.bind (F_law03_works []) fun r_149 =>
               onB r_149 fun b_154 ds_196 =>
               some [(.b b_154)]) else
              (some [(.b false)]))) else
            (some [(.b false)])))))) else
       (bif (!b_103) then (bif (!decide (i_28 = 0)) then (some [(.b false)]) else
         (bif (!decide (b_0 = (-9223372036854775808))) then (Option.bind (F_checked_Sub [(.i a_0), (.i b_0)]) fun r_150 =>
           onI r_150 fun i_44 ds_197 =>
           onB ds_197 fun b_155 ds_198 =>
           Option.bind (F_checked_Add [(.i a_0), (.i (i64 (0 - b_0)))]) fun r_151 =>
           onI r_151 fun i_45 ds_199 =>
           onB ds_199 fun b_156 ds_200 =>
           Option.bind (F_law03_is [(.i i_44), (.b b_155), (.i i_45), (.b b_156)]) fun r_152 =>
           onB r_152 fun b_157 ds_201 =>
           bif (!b_157) then (some [(.b false)]) else
           (Option.bind (F_checked_Div [(.i a_0), (.i b_0)]) fun r_153 =>
            onI r_153 fun i_46 ds_202 =>
            onB ds_202 fun b_158 ds_203 =>
            Option.bind (F_checked_Mod [(.i a_0), (.i b_0)]) fun r_154 =>
            onI r_154 fun i_47 ds_204 =>
            onB ds_204 fun b_159 ds_205 =>
            bif (!decide (b_0 = 0)) then (bif (!decide (b_0 = (-1))) then (bif (b_158 == true) then (bif (!decide (b_0 = 0)) then (bif (b_159 == true) then (Option.bind (F_law03_works []) fun r_155 =>
                 onB r_155 fun b_160 ds_206 =>
                 some [(.b b_160)]) else
                (some [(.b false)])) else
               (bif (b_159 == false) then (Option.bind (F_law03_works []) fun r_156 =>
                 onB r_156 fun b_161 ds_207 =>
                 some [(.b b_161)]) else
                (some [(.b false)]))) else
              (some [(.b false)])) else
             (bif (!decide (a_0 = (-9223372036854775808))) then (bif (b_158 == true) then (bif (!decide (b_0 = 0)) then (bif (b_159 == true) then (Option.bind (F_law03_works []) fun r_157 =>
                  onB r_157 fun b_162 ds_208 =>
                  some [(.b b_162)]) else
                 (some [(.b false)])) else
                (bif (b_159 == false) then (Option.bind (F_law03_works []) fun r_158 =>
                  onB r_158 fun b_163 ds_209 =>
                  some [(.b b_163)]) else
                 (some [(.b false)]))) else
               (some [(.b false)])) else
              (bif (b_158 == false) then (bif (!decide (b_0 = 0)) then (bif (b_159 == true) then (Option.bind (F_law03_works []) fun r_159 =>
                  onB r_159 fun b_164 ds_210 =>
                  some [(.b b_164)]) else
                 (some [(.b false)])) else
                (bif (b_159 == false) then (Option.bind (F_law03_works []) fun r_160 =>
                  onB r_160 fun b_165 ds_211 =>
                  some [(.b b_165)]) else
                 (some [(.b false)]))) else
               (some [(.b false)])))) else
            (bif (b_158 == false) then (bif (!decide (b_0 = 0)) then (bif (b_159 == true) then (Option.bind (F_law03_works []) fun r_161 =>
                onB r_161 fun b_166 ds_212 =>
                some [(.b b_166)]) else
               (some [(.b false)])) else
              (bif (b_159 == false) then (Option.bind (F_law03_works []) fun r_162 =>
                onB r_162 fun b_167 ds_213 =>
                some [(.b b_167)]) else
               (some [(.b false)]))) else
             (some [(.b false)])))) else
          (Option.bind (F_checked_Div [(.i a_0), (.i b_0)]) fun r_163 =>
           onI r_163 fun i_48 ds_214 =>
           onB ds_214 fun b_168 ds_215 =>
           Option.bind (F_checked_Mod [(.i a_0), (.i b_0)]) fun r_164 =>
           onI r_164 fun i_49 ds_216 =>
           onB ds_216 fun b_169 ds_217 =>
           bif (!decide (b_0 = 0)) then (bif (!decide (b_0 = (-1))) then (bif (b_168 == true) then (bif (!decide (b_0 = 0)) then (bif (b_169 == true) then (Option.bind (F_law03_works []) fun r_165 =>
                onB r_165 fun b_170 ds_218 =>
                some [(.b b_170)]) else
               (some [(.b false)])) else
              (bif (b_169 == false) then (Option.bind (F_law03_works []) fun r_166 =>
                onB r_166 fun b_171 ds_219 =>
                some [(.b b_171)]) else
               (some [(.b false)]))) else
             (some [(.b false)])) else
            (bif (!decide (a_0 = (-9223372036854775808))) then (bif (b_168 == true) then (bif (!decide (b_0 = 0)) then (bif (b_169 == true) then (Option.bind (F_law03_works []) fun r_167 =>
                 onB r_167 fun b_172 ds_220 =>
                 some [(.b b_172)]) else
                (some [(.b false)])) else
               (bif (b_169 == false) then (Option.bind (F_law03_works []) fun r_168 =>
                 onB r_168 fun b_173 ds_221 =>
                 some [(.b b_173)]) else
                (some [(.b false)]))) else
              (some [(.b false)])) else
             (bif (b_168 == false) then (bif (!decide (b_0 = 0)) then (bif (b_169 == true) then (Option.bind (F_law03_works []) fun r_169 =>
                 onB r_169 fun b_174 ds_222 =>
                 some [(.b b_174)]) else
                (some [(.b false)])) else
               (bif (b_169 == false) then (Option.bind (F_law03_works []) fun r_170 =>
                 onB r_170 fun b_175 ds_223 =>
                 some [(.b b_175)]) else
                (some [(.b false)]))) else
              (some [(.b false)])))) else
           (bif (b_168 == false) then (bif (!decide (b_0 = 0)) then (bif (b_169 == true) then (Option.bind (F_law03_works []) fun r_171 =>
               onB r_171 fun b_176 ds_224 =>
               some [(.b b_176)]) else
              (some [(.b false)])) else
             (bif (b_169 == false) then (Option.bind (F_law03_works []) fun r_172 =>
               onB r_172 fun b_177 ds_225 =>
               some [(.b b_177)]) else
              (some [(.b false)]))) else
            (some [(.b false)]))))) else
        (bif (!decide (b_0 = (-9223372036854775808))) then (Option.bind (F_checked_Sub [(.i a_0), (.i b_0)]) fun r_173 =>
          onI r_173 fun i_50 ds_226 =>
          onB ds_226 fun b_178 ds_227 =>
          Option.bind (F_checked_Add [(.i a_0), (.i (i64 (0 - b_0)))]) fun r_174 =>
          onI r_174 fun i_51 ds_228 =>
          onB ds_228 fun b_179 ds_229 =>
          Option.bind (F_law03_is [(.i i_50), (.b b_178), (.i i_51), (.b b_179)]) fun r_175 =>
          onB r_175 fun b_180 ds_230 =>
          bif (!b_180) then (some [(.b false)]) else
          (Option.bind (F_checked_Div [(.i a_0), (.i b_0)]) fun r_176 =>
           onI r_176 fun i_52 ds_231 =>
           onB ds_231 fun b_181 ds_232 =>
           Option.bind (F_checked_Mod [(.i a_0), (.i b_0)]) fun r_177 =>
           onI r_177 fun i_53 ds_233 =>
           onB ds_233 fun b_182 ds_234 =>
           bif (!decide (b_0 = 0)) then (bif (!decide (b_0 = (-1))) then (bif (b_181 == true) then (bif (!decide (b_0 = 0)) then (bif (b_182 == true) then (Option.bind (F_law03_works []) fun r_178 =>
                onB r_178 fun b_183 ds_235 =>
                some [(.b b_183)]) else
               (some [(.b false)])) else
              (bif (b_182 == false) then (Option.bind (F_law03_works []) fun r_179 =>
                onB r_179 fun b_184 ds_236 =>
                some [(.b b_184)]) else
               (some [(.b false)]))) else
             (some [(.b false)])) else
            (bif (!decide (a_0 = (-9223372036854775808))) then (bif (b_181 == true) then (bif (!decide (b_0 = 0)) then (bif (b_182 == true) then (Option.bind (F_law03_works []) fun r_180 =>
                 onB r_180 fun b_185 ds_237 =>
                 some [(.b b_185)]) else
                (some [(.b false)])) else
               (bif (b_182 == false) then (Option.bind (F_law03_works []) fun r_181 =>
                 onB r_181 fun b_186 ds_238 =>
                 some [(.b b_186)]) else
                (some [(.b false)]))) else
              (some [(.b false)])) else
             (bif (b_181 == false) then (bif (!decide (b_0 = 0)) then (bif (b_182 == true) then (Option.bind (F_law03_works []) fun r_182 =>
                 onB r_182 fun b_187 ds_239 =>
                 some [(.b b_187)]) else
                (some [(.b false)])) else
               (bif (b_182 == false) then (Option.bind (F_law03_works []) fun r_183 =>
                 onB r_183 fun b_188 ds_240 =>
                 some [(.b b_188)]) else
                (some [(.b false)]))) else
              (some [(.b false)])))) else
           (bif (b_181 == false) then (bif (!decide (b_0 = 0)) then (bif (b_182 == true) then (Option.bind (F_law03_works []) fun r_184 =>
               onB r_184 fun b_189 ds_241 =>
               some [(.b b_189)]) else
              (some [(.b false)])) else
             (bif (b_182 == false) then (Option.bind (F_law03_works []) fun r_185 =>
               onB r_185 fun b_190 ds_242 =>
               some [(.b b_190)]) else
              (some [(.b false)]))) else
            (some [(.b false)])))) else
         (Option.bind (F_checked_Div [(.i a_0), (.i b_0)]) fun r_186 =>
          onI r_186 fun i_54 ds_243 =>
          onB ds_243 fun b_191 ds_244 =>
          Option.bind (F_checked_Mod [(.i a_0), (.i b_0)]) fun r_187 =>
          onI r_187 fun i_55 ds_245 =>
          onB ds_245 fun b_192 ds_246 =>
          bif (!decide (b_0 = 0)) then (bif (!decide (b_0 = (-1))) then (bif (b_191 == true) then (bif (!decide (b_0 = 0)) then (bif (b_192 == true) then (Option.bind (F_law03_works []) fun r_188 =>
               onB r_188 fun b_193 ds_247 =>
               some [(.b b_193)]) else
              (some [(.b false)])) else
             (bif (b_192 == false) then (Option.bind (F_law03_works []) fun r_189 =>
               onB r_189 fun b_194 ds_248 =>
               some [(.b b_194)]) else
              (some [(.b false)]))) else
            (some [(.b false)])) else
           (bif (!decide (a_0 = (-9223372036854775808))) then (bif (b_191 == true) then (bif (!decide (b_0 = 0)) then (bif (b_192 == true) then (Option.bind (F_law03_works []) fun r_190 =>
                onB r_190 fun b_195 ds_249 =>
                some [(.b b_195)]) else
               (some [(.b false)])) else
              (bif (b_192 == false) then (Option.bind (F_law03_works []) fun r_191 =>
                onB r_191 fun b_196 ds_250 =>
                some [(.b b_196)]) else
               (some [(.b false)]))) else
             (some [(.b false)])) else
            (bif (b_191 == false) then (bif (!decide (b_0 = 0)) then (bif (b_192 == true) then (Option.bind (F_law03_works []) fun r_192 =>
                onB r_192 fun b_197 ds_251 =>
                some [(.b b_197)]) else
               (some [(.b false)])) else
              (bif (b_192 == false) then (Option.bind (F_law03_works []) fun r_193 =>
                onB r_193 fun b_198 ds_252 =>
                some [(.b b_198)]) else
               (some [(.b false)]))) else
             (some [(.b false)])))) else
          (bif (b_191 == false) then (bif (!decide (b_0 = 0)) then (bif (b_192 == true) then (Option.bind (F_law03_works []) fun r_194 =>
              onB r_194 fun b_199 ds_253 =>
              some [(.b b_199)]) else
             (some [(.b false)])) else
            (bif (b_192 == false) then (Option.bind (F_law03_works []) fun r_195 =>
              onB r_195 fun b_200 ds_254 =>
              some [(.b b_200)]) else
             (some [(.b false)]))) else
           (some [(.b false)])))))))))) else
  (Option.bind (bif (decide (a_0 < 0)) then (bif (decide (b_0 < 0)) then (some true) else
     (some false)) else
    (some false)) fun b_201 =>
   bif b_201 then (Option.bind (bif (decide ((u64 ((u64 (i64 (0 - (i64 (a_0 + 1))))) + (u64 (i64 (0 - (i64 (b_0 + 1))))))) ≤ 9223372036854775806)) then (some true) else
     (some false)) fun b_202 =>
    Option.bind (F_checked_Add [(.i a_0), (.i b_0)]) fun r_196 =>
    onI r_196 fun i_56 ds_255 =>
    onB ds_255 fun b_203 ds_256 =>
    Option.bind (F_checked_Add [(.i b_0), (.i a_0)]) fun r_197 =>
    onI r_197 fun i_57 ds_257 =>
    onB ds_257 fun b_204 ds_258 =>
    Option.bind (F_checked_Mul [(.i a_0), (.i b_0)]) fun r_198 =>
    onI r_198 fun i_58 ds_259 =>
    onB ds_259 fun b_205 ds_260 =>
    Option.bind (F_checked_Mul [(.i b_0), (.i a_0)]) fun r_199 =>
    onI r_199 fun i_59 ds_261 =>
    onB ds_261 fun b_206 ds_262 =>
    bif (!(b_203 == b_202)) then (some [(.b false)]) else
    (Option.bind (F_law03_is [(.i i_56), (.b b_203), (.i i_57), (.b b_204)]) fun r_200 =>
     onB r_200 fun b_207 ds_263 =>
     bif (!b_207) then (some [(.b false)]) else
     (Option.bind (F_law03_is [(.i i_58), (.b b_205), (.i i_59), (.b b_206)]) fun r_201 =>
      onB r_201 fun b_208 ds_264 =>
      bif (!b_208) then (some [(.b false)]) else
      (bif b_203 then (bif (!decide (i_56 = (i64 (a_0 + b_0)))) then (some [(.b false)]) else
        (bif (!b_203) then (bif (!decide (i_56 = 0)) then (some [(.b false)]) else
          (bif (!decide (b_0 = (-9223372036854775808))) then (Option.bind (F_checked_Sub [(.i a_0), (.i b_0)]) fun r_202 =>
            onI r_202 fun i_60 ds_265 =>
            onB ds_265 fun b_209 ds_266 =>
            Option.bind (F_checked_Add [(.i a_0), (.i (i64 (0 - b_0)))]) fun r_203 =>
            onI r_203 fun i_61 ds_267 =>
            onB ds_267 fun b_210 ds_268 =>
            Option.bind (F_law03_is [(.i i_60), (.b b_209), (.i i_61), (.b b_210)]) fun r_204 =>
            onB r_204 fun b_211 ds_269 =>
            bif (!b_211) then (some [(.b false)]) else
            (Option.bind (F_checked_Div [(.i a_0), (.i b_0)]) fun r_205 =>
             onI r_205 fun i_62 ds_270 =>
             onB ds_270 fun b_212 ds_271 =>
             Option.bind (F_checked_Mod [(.i a_0), (.i b_0)]) fun r_206 =>
             onI r_206 fun i_63 ds_272 =>
             onB ds_272 fun b_213 ds_273 =>
             bif (!decide (b_0 = 0)) then (bif (!decide (b_0 = (-1))) then (bif (b_212 == true) then (bif (!decide (b_0 = 0)) then (bif (b_213 == true) then (Option.bind (F_law03_works []) fun r_207 =>
                  onB r_207 fun b_214 ds_274 =>
                  some [(.b b_214)]) else
                 (some [(.b false)])) else
                (bif (b_213 == false) then (Option.bind (F_law03_works []) fun r_208 =>
                  onB r_208 fun b_215 ds_275 =>
                  some [(.b b_215)]) else
                 (some [(.b false)]))) else
               (some [(.b false)])) else
              (bif (!decide (a_0 = (-9223372036854775808))) then (bif (b_212 == true) then (bif (!decide (b_0 = 0)) then (bif (b_213 == true) then (Option.bind (F_law03_works []) fun r_209 =>
                   onB r_209 fun b_216 ds_276 =>
                   some [(.b b_216)]) else
                  (some [(.b false)])) else
                 (bif (b_213 == false) then (Option.bind (F_law03_works []) fun r_210 =>
                   onB r_210 fun b_217 ds_277 =>
                   some [(.b b_217)]) else
                  (some [(.b false)]))) else
                (some [(.b false)])) else
               (bif (b_212 == false) then (bif (!decide (b_0 = 0)) then (bif (b_213 == true) then (Option.bind (F_law03_works []) fun r_211 =>
                   onB r_211 fun b_218 ds_278 =>
                   some [(.b b_218)]) else
                  (some [(.b false)])) else
                 (bif (b_213 == false) then (Option.bind (F_law03_works []) fun r_212 =>
                   onB r_212 fun b_219 ds_279 =>
                   some [(.b b_219)]) else
                  (some [(.b false)]))) else
                (some [(.b false)])))) else
             (bif (b_212 == false) then (bif (!decide (b_0 = 0)) then (bif (b_213 == true) then (Option.bind (F_law03_works []) fun r_213 =>
                 onB r_213 fun b_220 ds_280 =>
                 some [(.b b_220)]) else
                (some [(.b false)])) else
               (bif (b_213 == false) then (Option.bind (F_law03_works []) fun r_214 =>
                 onB r_214 fun b_221 ds_281 =>
                 some [(.b b_221)]) else
                (some [(.b false)]))) else
              (some [(.b false)])))) else
           (Option.bind (F_checked_Div [(.i a_0), (.i b_0)]) fun r_215 =>
            onI r_215 fun i_64 ds_282 =>
            onB ds_282 fun b_222 ds_283 =>
            Option.bind (F_checked_Mod [(.i a_0), (.i b_0)]) fun r_216 =>
            onI r_216 fun i_65 ds_284 =>
            onB ds_284 fun b_223 ds_285 =>
            bif (!decide (b_0 = 0)) then (bif (!decide (b_0 = (-1))) then (bif (b_222 == true) then (bif (!decide (b_0 = 0)) then (bif (b_223 == true) then (Option.bind (F_law03_works []) fun r_217 =>
                 onB r_217 fun b_224 ds_286 =>
                 some [(.b b_224)]) else
                (some [(.b false)])) else
               (bif (b_223 == false) then (Option.bind (F_law03_works []) fun r_218 =>
                 onB r_218 fun b_225 ds_287 =>
                 some [(.b b_225)]) else
                (some [(.b false)]))) else
              (some [(.b false)])) else
             (bif (!decide (a_0 = (-9223372036854775808))) then (bif (b_222 == true) then (bif (!decide (b_0 = 0)) then (bif (b_223 == true) then (Option.bind (F_law03_works []) fun r_219 =>
                  onB r_219 fun b_226 ds_288 =>
                  some [(.b b_226)]) else
                 (some [(.b false)])) else
                (bif (b_223 == false) then (Option.bind (F_law03_works []) fun r_220 =>
                  onB r_220 fun b_227 ds_289 =>
                  some [(.b b_227)]) else
                 (some [(.b false)]))) else
               (some [(.b false)])) else
              (bif (b_222 == false) then (bif (!decide (b_0 = 0)) then (bif (b_223 == true) then (Option.bind (F_law03_works []) fun r_221 =>
                  onB r_221 fun b_228 ds_290 =>
                  some [(.b b_228)]) else
                 (some [(.b false)])) else
                (bif (b_223 == false) then (Option.bind (F_law03_works []) fun r_222 =>
                  onB r_222 fun b_229 ds_291 =>
                  some [(.b b_229)]) else
                 (some [(.b false)]))) else
               (some [(.b false)])))) else
            (bif (b_222 == false) then (bif (!decide (b_0 = 0)) then (bif (b_223 == true) then (Option.bind (F_law03_works []) fun r_223 =>
                onB r_223 fun b_230 ds_292 =>
                some [(.b b_230)]) else
               (some [(.b false)])) else
              (bif (b_223 == false) then (Option.bind (F_law03_works []) fun r_224 =>
                onB r_224 fun b_231 ds_293 =>
                some [(.b b_231)]) else
               (some [(.b false)]))) else
             (some [(.b false)]))))) else
         (bif (!decide (b_0 = (-9223372036854775808))) then (Option.bind (F_checked_Sub [(.i a_0), (.i b_0)]) fun r_225 =>
           onI r_225 fun i_66 ds_294 =>
           onB ds_294 fun b_232 ds_295 =>
           Option.bind (F_checked_Add [(.i a_0), (.i (i64 (0 - b_0)))]) fun r_226 =>
           onI r_226 fun i_67 ds_296 =>
           onB ds_296 fun b_233 ds_297 =>
           Option.bind (F_law03_is [(.i i_66), (.b b_232), (.i i_67), (.b b_233)]) fun r_227 =>
           onB r_227 fun b_234 ds_298 =>
           bif (!b_234) then (some [(.b false)]) else
           (Option.bind (F_checked_Div [(.i a_0), (.i b_0)]) fun r_228 =>
            onI r_228 fun i_68 ds_299 =>
            onB ds_299 fun b_235 ds_300 =>
            Option.bind (F_checked_Mod [(.i a_0), (.i b_0)]) fun r_229 =>
            onI r_229 fun i_69 ds_301 =>
            onB ds_301 fun b_236 ds_302 =>
            bif (!decide (b_0 = 0)) then (bif (!decide (b_0 = (-1))) then (bif (b_235 == true) then (bif (!decide (b_0 = 0)) then (bif (b_236 == true) then (Option.bind (F_law03_works []) fun r_230 =>
                 onB r_230 fun b_237 ds_303 =>
                 some [(.b b_237)]) else
                (some [(.b false)])) else
               (bif (b_236 == false) then (Option.bind (F_law03_works []) fun r_231 =>
                 onB r_231 fun b_238 ds_304 =>
                 some [(.b b_238)]) else
                (some [(.b false)]))) else
              (some [(.b false)])) else
             (bif (!decide (a_0 = (-9223372036854775808))) then (bif (b_235 == true) then (bif (!decide (b_0 = 0)) then (bif (b_236 == true) then (Option.bind (F_law03_works []) fun r_232 =>
                  onB r_232 fun b_239 ds_305 =>
                  some [(.b b_239)]) else
                 (some [(.b false)])) else
                (bif (b_236 == false) then (Option.bind (F_law03_works []) fun r_233 =>
                  onB r_233 fun b_240 ds_306 =>
                  some [(.b b_240)]) else
                 (some [(.b false)]))) else
               (some [(.b false)])) else
              (bif (b_235 == false) then (bif (!decide (b_0 = 0)) then (bif (b_236 == true) then (Option.bind (F_law03_works []) fun r_234 =>
                  onB r_234 fun b_241 ds_307 =>
                  some [(.b b_241)]) else
                 (some [(.b false)])) else
                (bif (b_236 == false) then (Option.bind (F_law03_works []) fun r_235 =>
                  onB r_235 fun b_242 ds_308 =>
                  some [(.b b_242)]) else
                 (some [(.b false)]))) else
               (some [(.b false)])))) else
            (bif (b_235 == false) then (bif (!decide (b_0 = 0)) then (bif (b_236 == true) then (Option.bind (F_law03_works []) fun r_236 =>
                onB r_236 fun b_243 ds_309 =>
                some [(.b b_243)]) else
               (some [(.b false)])) else
              (bif (b_236 == false) then (Option.bind (F_law03_works []) fun r_237 =>
                onB r_237 fun b_244 ds_310 =>
                some [(.b b_244)]) else
               (some [(.b false)]))) else
             (some [(.b false)])))) else
          (Option.bind (F_checked_Div [(.i a_0), (.i b_0)]) fun r_238 =>
           onI r_238 fun i_70 ds_311 =>
           onB ds_311 fun b_245 ds_312 =>
           Option.bind (F_checked_Mod [(.i a_0), (.i b_0)]) fun r_239 =>
           onI r_239 fun i_71 ds_313 =>
           onB ds_313 fun b_246 ds_314 =>
           bif (!decide (b_0 = 0)) then (bif (!decide (b_0 = (-1))) then (bif (b_245 == true) then (bif (!decide (b_0 = 0)) then (bif (b_246 == true) then (Option.bind (F_law03_works []) fun r_240 =>
                onB r_240 fun b_247 ds_315 =>
                some [(.b b_247)]) else
               (some [(.b false)])) else
              (bif (b_246 == false) then (Option.bind (F_law03_works []) fun r_241 =>
                onB r_241 fun b_248 ds_316 =>
                some [(.b b_248)]) else
               (some [(.b false)]))) else
             (some [(.b false)])) else
            (bif (!decide (a_0 = (-9223372036854775808))) then (bif (b_245 == true) then (bif (!decide (b_0 = 0)) then (bif (b_246 == true) then (Option.bind (F_law03_works []) fun r_242 =>
                 onB r_242 fun b_249 ds_317 =>
                 some [(.b b_249)]) else
                (some [(.b false)])) else
               (bif (b_246 == false) then (Option.bind (F_law03_works []) fun r_243 =>
                 onB r_243 fun b_250 ds_318 =>
                 some [(.b b_250)]) else
                (some [(.b false)]))) else
              (some [(.b false)])) else
             (bif (b_245 == false) then (bif (!decide (b_0 = 0)) then (bif (b_246 == true) then (Option.bind (F_law03_works []) fun r_244 =>
                 onB r_244 fun b_251 ds_319 =>
                 some [(.b b_251)]) else
                (some [(.b false)])) else
               (bif (b_246 == false) then (Option.bind (F_law03_works []) fun r_245 =>
                 onB r_245 fun b_252 ds_320 =>
                 some [(.b b_252)]) else
                (some [(.b false)]))) else
              (some [(.b false)])))) else
           (bif (b_245 == false) then (bif (!decide (b_0 = 0)) then (bif (b_246 == true) then (Option.bind (F_law03_works []) fun r_246 =>
               onB r_246 fun b_253 ds_321 =>
               some [(.b b_253)]) else
              (some [(.b false)])) else
             (bif (b_246 == false) then (Option.bind (F_law03_works []) fun r_247 =>
               onB r_247 fun b_254 ds_322 =>
               some [(.b b_254)]) else
              (some [(.b false)]))) else
            (some [(.b false)])))))) else
       (bif (!b_203) then (bif (!decide (i_56 = 0)) then (some [(.b false)]) else
         (bif (!decide (b_0 = (-9223372036854775808))) then (Option.bind (F_checked_Sub [(.i a_0), (.i b_0)]) fun r_248 =>
           onI r_248 fun i_72 ds_323 =>
           onB ds_323 fun b_255 ds_324 =>
           Option.bind (F_checked_Add [(.i a_0), (.i (i64 (0 - b_0)))]) fun r_249 =>
           onI r_249 fun i_73 ds_325 =>
           onB ds_325 fun b_256 ds_326 =>
           Option.bind (F_law03_is [(.i i_72), (.b b_255), (.i i_73), (.b b_256)]) fun r_250 =>
           onB r_250 fun b_257 ds_327 =>
           bif (!b_257) then (some [(.b false)]) else
           (Option.bind (F_checked_Div [(.i a_0), (.i b_0)]) fun r_251 =>
            onI r_251 fun i_74 ds_328 =>
            onB ds_328 fun b_258 ds_329 =>
            Option.bind (F_checked_Mod [(.i a_0), (.i b_0)]) fun r_252 =>
            onI r_252 fun i_75 ds_330 =>
            onB ds_330 fun b_259 ds_331 =>
            bif (!decide (b_0 = 0)) then (bif (!decide (b_0 = (-1))) then (bif (b_258 == true) then (bif (!decide (b_0 = 0)) then (bif (b_259 == true) then (Option.bind (F_law03_works []) fun r_253 =>
                 onB r_253 fun b_260 ds_332 =>
                 some [(.b b_260)]) else
                (some [(.b false)])) else
               (bif (b_259 == false) then (Option.bind (F_law03_works []) fun r_254 =>
                 onB r_254 fun b_261 ds_333 =>
                 some [(.b b_261)]) else
                (some [(.b false)]))) else
              (some [(.b false)])) else
             (bif (!decide (a_0 = (-9223372036854775808))) then (bif (b_258 == true) then (bif (!decide (b_0 = 0)) then (bif (b_259 == true) then (Option.bind (F_law03_works []) fun r_255 =>
                  onB r_255 fun b_262 ds_334 =>
                  some [(.b b_262)]) else
                 (some [(.b false)])) else
                (bif (b_259 == false) then (Option.bind (F_law03_works []) fun r_256 =>
                  onB r_256 fun b_263 ds_335 =>
                  some [(.b b_263)]) else
                 (some [(.b false)]))) else
               (some [(.b false)])) else
              (bif (b_258 == false) then (bif (!decide (b_0 = 0)) then (bif (b_259 == true) then (Option.bind (F_law03_works []) fun r_257 =>
                  onB r_257 fun b_264 ds_336 =>
                  some [(.b b_264)]) else
                 (some [(.b false)])) else
                (bif (b_259 == false) then (Option.bind (F_law03_works []) fun r_258 =>
                  onB r_258 fun b_265 ds_337 =>
                  some [(.b b_265)]) else
                 (some [(.b false)]))) else
               (some [(.b false)])))) else
            (bif (b_258 == false) then (bif (!decide (b_0 = 0)) then (bif (b_259 == true) then (Option.bind (F_law03_works []) fun r_259 =>
                onB r_259 fun b_266 ds_338 =>
                some [(.b b_266)]) else
               (some [(.b false)])) else
              (bif (b_259 == false) then (Option.bind (F_law03_works []) fun r_260 =>
                onB r_260 fun b_267 ds_339 =>
                some [(.b b_267)]) else
               (some [(.b false)]))) else
             (some [(.b false)])))) else
          (Option.bind (F_checked_Div [(.i a_0), (.i b_0)]) fun r_261 =>
           onI r_261 fun i_76 ds_340 =>
           onB ds_340 fun b_268 ds_341 =>
           Option.bind (F_checked_Mod [(.i a_0), (.i b_0)]) fun r_262 =>
           onI r_262 fun i_77 ds_342 =>
           onB ds_342 fun b_269 ds_343 =>
           bif (!decide (b_0 = 0)) then (bif (!decide (b_0 = (-1))) then (bif (b_268 == true) then (bif (!decide (b_0 = 0)) then (bif (b_269 == true) then (Option.bind (F_law03_works []) fun r_263 =>
                onB r_263 fun b_270 ds_344 =>
                some [(.b b_270)]) else
               (some [(.b false)])) else
              (bif (b_269 == false) then (Option.bind (F_law03_works []) fun r_264 =>
                onB r_264 fun b_271 ds_345 =>
                some [(.b b_271)]) else
               (some [(.b false)]))) else
             (some [(.b false)])) else
            (bif (!decide (a_0 = (-9223372036854775808))) then (bif (b_268 == true) then (bif (!decide (b_0 = 0)) then (bif (b_269 == true) then (Option.bind (F_law03_works []) fun r_265 =>
                 onB r_265 fun b_272 ds_346 =>
                 some [(.b b_272)]) else
                (some [(.b false)])) else
               (bif (b_269 == false) then (Option.bind (F_law03_works []) fun r_266 =>
                 onB r_266 fun b_273 ds_347 =>
                 some [(.b b_273)]) else
                (some [(.b false)]))) else
              (some [(.b false)])) else
             (bif (b_268 == false) then (bif (!decide (b_0 = 0)) then (bif (b_269 == true) then (Option.bind (F_law03_works []) fun r_267 =>
                 onB r_267 fun b_274 ds_348 =>
                 some [(.b b_274)]) else
                (some [(.b false)])) else
               (bif (b_269 == false) then (Option.bind (F_law03_works []) fun r_268 =>
                 onB r_268 fun b_275 ds_349 =>
                 some [(.b b_275)]) else
                (some [(.b false)]))) else
              (some [(.b false)])))) else
           (bif (b_268 == false) then (bif (!decide (b_0 = 0)) then (bif (b_269 == true) then (Option.bind (F_law03_works []) fun r_269 =>
               onB r_269 fun b_276 ds_350 =>
               some [(.b b_276)]) else
              (some [(.b false)])) else
             (bif (b_269 == false) then (Option.bind (F_law03_works []) fun r_270 =>
               onB r_270 fun b_277 ds_351 =>
               some [(.b b_277)]) else
              (some [(.b false)]))) else
            (some [(.b false)]))))) else
        (bif (!decide (b_0 = (-9223372036854775808))) then (Option.bind (F_checked_Sub [(.i a_0), (.i b_0)]) fun r_271 =>
          onI r_271 fun i_78 ds_352 =>
          onB ds_352 fun b_278 ds_353 =>
          Option.bind (F_checked_Add [(.i a_0), (.i (i64 (0 - b_0)))]) fun r_272 =>
          onI r_272 fun i_79 ds_354 =>
          onB ds_354 fun b_279 ds_355 =>
          Option.bind (F_law03_is [(.i i_78), (.b b_278), (.i i_79), (.b b_279)]) fun r_273 =>
          onB r_273 fun b_280 ds_356 =>
          bif (!b_280) then (some [(.b false)]) else
          (Option.bind (F_checked_Div [(.i a_0), (.i b_0)]) fun r_274 =>
           onI r_274 fun i_80 ds_357 =>
           onB ds_357 fun b_281 ds_358 =>
           Option.bind (F_checked_Mod [(.i a_0), (.i b_0)]) fun r_275 =>
           onI r_275 fun i_81 ds_359 =>
           onB ds_359 fun b_282 ds_360 =>
           bif (!decide (b_0 = 0)) then (bif (!decide (b_0 = (-1))) then (bif (b_281 == true) then (bif (!decide (b_0 = 0)) then (bif (b_282 == true) then (Option.bind (F_law03_works []) fun r_276 =>
                onB r_276 fun b_283 ds_361 =>
                some [(.b b_283)]) else
               (some [(.b false)])) else
              (bif (b_282 == false) then (Option.bind (F_law03_works []) fun r_277 =>
                onB r_277 fun b_284 ds_362 =>
                some [(.b b_284)]) else
               (some [(.b false)]))) else
             (some [(.b false)])) else
            (bif (!decide (a_0 = (-9223372036854775808))) then (bif (b_281 == true) then (bif (!decide (b_0 = 0)) then (bif (b_282 == true) then (Option.bind (F_law03_works []) fun r_278 =>
                 onB r_278 fun b_285 ds_363 =>
                 some [(.b b_285)]) else
                (some [(.b false)])) else
               (bif (b_282 == false) then (Option.bind (F_law03_works []) fun r_279 =>
                 onB r_279 fun b_286 ds_364 =>
                 some [(.b b_286)]) else
                (some [(.b false)]))) else
              (some [(.b false)])) else
             (bif (b_281 == false) then (bif (!decide (b_0 = 0)) then (bif (b_282 == true) then (Option.bind (F_law03_works []) fun r_280 =>
                 onB r_280 fun b_287 ds_365 =>
                 some [(.b b_287)]) else
                (some [(.b false)])) else
               (bif (b_282 == false) then (Option.bind (F_law03_works []) fun r_281 =>
                 onB r_281 fun b_288 ds_366 =>
                 some [(.b b_288)]) else
                (some [(.b false)]))) else
              (some [(.b false)])))) else
           (bif (b_281 == false) then (bif (!decide (b_0 = 0)) then (bif (b_282 == true) then (Option.bind (F_law03_works []) fun r_282 =>
               onB r_282 fun b_289 ds_367 =>
               some [(.b b_289)]) else
              (some [(.b false)])) else
             (bif (b_282 == false) then (Option.bind (F_law03_works []) fun r_283 =>
               onB r_283 fun b_290 ds_368 =>
               some [(.b b_290)]) else
              (some [(.b false)]))) else
            (some [(.b false)])))) else
         (Option.bind (F_checked_Div [(.i a_0), (.i b_0)]) fun r_284 =>
          onI r_284 fun i_82 ds_369 =>
          onB ds_369 fun b_291 ds_370 =>
          Option.bind (F_checked_Mod [(.i a_0), (.i b_0)]) fun r_285 =>
          onI r_285 fun i_83 ds_371 =>
          onB ds_371 fun b_292 ds_372 =>
          bif (!decide (b_0 = 0)) then (bif (!decide (b_0 = (-1))) then (bif (b_291 == true) then (bif (!decide (b_0 = 0)) then (bif (b_292 == true) then (Option.bind (F_law03_works []) fun r_286 =>
               onB r_286 fun b_293 ds_373 =>
               some [(.b b_293)]) else
              (some [(.b false)])) else
             (bif (b_292 == false) then (Option.bind (F_law03_works []) fun r_287 =>
               onB r_287 fun b_294 ds_374 =>
               some [(.b b_294)]) else
              (some [(.b false)]))) else
            (some [(.b false)])) else
           (bif (!decide (a_0 = (-9223372036854775808))) then (bif (b_291 == true) then (bif (!decide (b_0 = 0)) then (bif (b_292 == true) then (Option.bind (F_law03_works []) fun r_288 =>
                onB r_288 fun b_295 ds_375 =>
                some [(.b b_295)]) else
               (some [(.b false)])) else
              (bif (b_292 == false) then (Option.bind (F_law03_works []) fun r_289 =>
                onB r_289 fun b_296 ds_376 =>
                some [(.b b_296)]) else
               (some [(.b false)]))) else
             (some [(.b false)])) else
            (bif (b_291 == false) then (bif (!decide (b_0 = 0)) then (bif (b_292 == true) then (Option.bind (F_law03_works []) fun r_290 =>
                onB r_290 fun b_297 ds_377 =>
                some [(.b b_297)]) else
               (some [(.b false)])) else
              (bif (b_292 == false) then (Option.bind (F_law03_works []) fun r_291 =>
                onB r_291 fun b_298 ds_378 =>
                some [(.b b_298)]) else
               (some [(.b false)]))) else
             (some [(.b false)])))) else
          (bif (b_291 == false) then (bif (!decide (b_0 = 0)) then (bif (b_292 == true) then (Option.bind (F_law03_works []) fun r_292 =>
              onB r_292 fun b_299 ds_379 =>
              some [(.b b_299)]) else
             (some [(.b false)])) else
            (bif (b_292 == false) then (Option.bind (F_law03_works []) fun r_293 =>
              onB r_293 fun b_300 ds_380 =>
              some [(.b b_300)]) else
             (some [(.b false)]))) else
           (some [(.b false)]))))))))) else
   (Option.bind (F_checked_Add [(.i a_0), (.i b_0)]) fun r_294 =>
    onI r_294 fun i_84 ds_381 =>
    onB ds_381 fun b_301 ds_382 =>
    Option.bind (F_checked_Add [(.i b_0), (.i a_0)]) fun r_295 =>
    onI r_295 fun i_85 ds_383 =>
    onB ds_383 fun b_302 ds_384 =>
    Option.bind (F_checked_Mul [(.i a_0), (.i b_0)]) fun r_296 =>
    onI r_296 fun i_86 ds_385 =>
    onB ds_385 fun b_303 ds_386 =>
    Option.bind (F_checked_Mul [(.i b_0), (.i a_0)]) fun r_297 =>
    onI r_297 fun i_87 ds_387 =>
    onB ds_387 fun b_304 ds_388 =>
    bif (!(b_301 == true)) then (some [(.b false)]) else
    (Option.bind (F_law03_is [(.i i_84), (.b b_301), (.i i_85), (.b b_302)]) fun r_298 =>
     onB r_298 fun b_305 ds_389 =>
     bif (!b_305) then (some [(.b false)]) else
     (Option.bind (F_law03_is [(.i i_86), (.b b_303), (.i i_87), (.b b_304)]) fun r_299 =>
      onB r_299 fun b_306 ds_390 =>
      bif (!b_306) then (some [(.b false)]) else
      (bif b_301 then (bif (!decide (i_84 = (i64 (a_0 + b_0)))) then (some [(.b false)]) else
        (bif (!b_301) then (bif (!decide (i_84 = 0)) then (some [(.b false)]) else
          (bif (!decide (b_0 = (-9223372036854775808))) then (Option.bind (F_checked_Sub [(.i a_0), (.i b_0)]) fun r_300 =>
            onI r_300 fun i_88 ds_391 =>
            onB ds_391 fun b_307 ds_392 =>
            Option.bind (F_checked_Add [(.i a_0), (.i (i64 (0 - b_0)))]) fun r_301 =>
            onI r_301 fun i_89 ds_393 =>
            onB ds_393 fun b_308 ds_394 =>
            Option.bind (F_law03_is [(.i i_88), (.b b_307), (.i i_89), (.b b_308)]) fun r_302 =>
            onB r_302 fun b_309 ds_395 =>
            bif (!b_309) then (some [(.b false)]) else
            (Option.bind (F_checked_Div [(.i a_0), (.i b_0)]) fun r_303 =>
             onI r_303 fun i_90 ds_396 =>
             onB ds_396 fun b_310 ds_397 =>
             Option.bind (F_checked_Mod [(.i a_0), (.i b_0)]) fun r_304 =>
             onI r_304 fun i_91 ds_398 =>
             onB ds_398 fun b_311 ds_399 =>
             bif (!decide (b_0 = 0)) then (bif (!decide (b_0 = (-1))) then (bif (b_310 == true) then (bif (!decide (b_0 = 0)) then (bif (b_311 == true) then (Option.bind (F_law03_works []) fun r_305 =>
                  onB r_305 fun b_312 ds_400 =>
                  some [(.b b_312)]) else
                 (some [(.b false)])) else
                (bif (b_311 == false) then (Option.bind (F_law03_works []) fun r_306 =>
                  onB r_306 fun b_313 ds_401 =>
                  some [(.b b_313)]) else
                 (some [(.b false)]))) else
               (some [(.b false)])) else
              (bif (!decide (a_0 = (-9223372036854775808))) then (bif (b_310 == true) then (bif (!decide (b_0 = 0)) then (bif (b_311 == true) then (Option.bind (F_law03_works []) fun r_307 =>
                   onB r_307 fun b_314 ds_402 =>
                   some [(.b b_314)]) else
                  (some [(.b false)])) else
                 (bif (b_311 == false) then (Option.bind (F_law03_works []) fun r_308 =>
                   onB r_308 fun b_315 ds_403 =>
                   some [(.b b_315)]) else
                  (some [(.b false)]))) else
                (some [(.b false)])) else
               (bif (b_310 == false) then (bif (!decide (b_0 = 0)) then (bif (b_311 == true) then (Option.bind (F_law03_works []) fun r_309 =>
                   onB r_309 fun b_316 ds_404 =>
                   some [(.b b_316)]) else
                  (some [(.b false)])) else
                 (bif (b_311 == false) then (Option.bind (F_law03_works []) fun r_310 =>
                   onB r_310 fun b_317 ds_405 =>
                   some [(.b b_317)]) else
                  (some [(.b false)]))) else
                (some [(.b false)])))) else
             (bif (b_310 == false) then (bif (!decide (b_0 = 0)) then (bif (b_311 == true) then (Option.bind (F_law03_works []) fun r_311 =>
                 onB r_311 fun b_318 ds_406 =>
                 some [(.b b_318)]) else
                (some [(.b false)])) else
               (bif (b_311 == false) then (Option.bind (F_law03_works []) fun r_312 =>
                 onB r_312 fun b_319 ds_407 =>
                 some [(.b b_319)]) else
                (some [(.b false)]))) else
              (some [(.b false)])))) else
           (Option.bind (F_checked_Div [(.i a_0), (.i b_0)]) fun r_313 =>
            onI r_313 fun i_92 ds_408 =>
            onB ds_408 fun b_320 ds_409 =>
            Option.bind (F_checked_Mod [(.i a_0), (.i b_0)]) fun r_314 =>
            onI r_314 fun i_93 ds_410 =>
            onB ds_410 fun b_321 ds_411 =>
            bif (!decide (b_0 = 0)) then (bif (!decide (b_0 = (-1))) then (bif (b_320 == true) then (bif (!decide (b_0 = 0)) then (bif (b_321 == true) then (Option.bind (F_law03_works []) fun r_315 =>
                 onB r_315 fun b_322 ds_412 =>
                 some [(.b b_322)]) else
                (some [(.b false)])) else
               (bif (b_321 == false) then (Option.bind (F_law03_works []) fun r_316 =>
                 onB r_316 fun b_323 ds_413 =>
                 some [(.b b_323)]) else
                (some [(.b false)]))) else
              (some [(.b false)])) else
             (bif (!decide (a_0 = (-9223372036854775808))) then (bif (b_320 == true) then (bif (!decide (b_0 = 0)) then (bif (b_321 == true) then (Option.bind (F_law03_works []) fun r_317 =>
                  onB r_317 fun b_324 ds_414 =>
                  some [(.b b_324)]) else
                 (some [(.b false)])) else
                (bif (b_321 == false) then (Option.bind (F_law03_works []) fun r_318 =>
                  onB r_318 fun b_325 ds_415 =>
                  some [(.b b_325)]) else
                 (some [(.b false)]))) else
               (some [(.b false)])) else
              (bif (b_320 == false) then (bif (!decide (b_0 = 0)) then (bif (b_321 == true) then (Option.bind (F_law03_works []) fun r_319 =>
                  onB r_319 fun b_326 ds_416 =>
                  some [(.b b_326)]) else
                 (some [(.b false)])) else
                (bif (b_321 == false) then (Option.bind (F_law03_works []) fun r_320 =>
                  onB r_320 fun b_327 ds_417 =>
                  some [(.b b_327)]) else
                 (some [(.b false)]))) else
               (some [(.b false)])))) else
            (bif (b_320 == false) then (bif (!decide (b_0 = 0)) then (bif (b_321 == true) then (Option.bind (F_law03_works []) fun r_321 =>
                onB r_321 fun b_328 ds_418 =>
                some [(.b b_328)]) else
               (some [(.b false)])) else
              (bif (b_321 == false) then (Option.bind (F_law03_works []) fun r_322 =>
                onB r_322 fun b_329 ds_419 =>
                some [(.b b_329)]) else
               (some [(.b false)]))) else
             (some [(.b false)]))))) else
         (bif (!decide (b_0 = (-9223372036854775808))) then (Option.bind (F_checked_Sub [(.i a_0), (.i b_0)]) fun r_323 =>
           onI r_323 fun i_94 ds_420 =>
           onB ds_420 fun b_330 ds_421 =>
           Option.bind (F_checked_Add [(.i a_0), (.i (i64 (0 - b_0)))]) fun r_324 =>
           onI r_324 fun i_95 ds_422 =>
           onB ds_422 fun b_331 ds_423 =>
           Option.bind (F_law03_is [(.i i_94), (.b b_330), (.i i_95), (.b b_331)]) fun r_325 =>
           onB r_325 fun b_332 ds_424 =>
           bif (!b_332) then (some [(.b false)]) else
           (Option.bind (F_checked_Div [(.i a_0), (.i b_0)]) fun r_326 =>
            onI r_326 fun i_96 ds_425 =>
            onB ds_425 fun b_333 ds_426 =>
            Option.bind (F_checked_Mod [(.i a_0), (.i b_0)]) fun r_327 =>
            onI r_327 fun i_97 ds_427 =>
            onB ds_427 fun b_334 ds_428 =>
            bif (!decide (b_0 = 0)) then (bif (!decide (b_0 = (-1))) then (bif (b_333 == true) then (bif (!decide (b_0 = 0)) then (bif (b_334 == true) then (Option.bind (F_law03_works []) fun r_328 =>
                 onB r_328 fun b_335 ds_429 =>
                 some [(.b b_335)]) else
                (some [(.b false)])) else
               (bif (b_334 == false) then (Option.bind (F_law03_works []) fun r_329 =>
                 onB r_329 fun b_336 ds_430 =>
                 some [(.b b_336)]) else
                (some [(.b false)]))) else
              (some [(.b false)])) else
             (bif (!decide (a_0 = (-9223372036854775808))) then (bif (b_333 == true) then (bif (!decide (b_0 = 0)) then (bif (b_334 == true) then (Option.bind (F_law03_works []) fun r_330 =>
                  onB r_330 fun b_337 ds_431 =>
                  some [(.b b_337)]) else
                 (some [(.b false)])) else
                (bif (b_334 == false) then (Option.bind (F_law03_works []) fun r_331 =>
                  onB r_331 fun b_338 ds_432 =>
                  some [(.b b_338)]) else
                 (some [(.b false)]))) else
               (some [(.b false)])) else
              (bif (b_333 == false) then (bif (!decide (b_0 = 0)) then (bif (b_334 == true) then (Option.bind (F_law03_works []) fun r_332 =>
                  onB r_332 fun b_339 ds_433 =>
                  some [(.b b_339)]) else
                 (some [(.b false)])) else
                (bif (b_334 == false) then (Option.bind (F_law03_works []) fun r_333 =>
                  onB r_333 fun b_340 ds_434 =>
                  some [(.b b_340)]) else
                 (some [(.b false)]))) else
               (some [(.b false)])))) else
            (bif (b_333 == false) then (bif (!decide (b_0 = 0)) then (bif (b_334 == true) then (Option.bind (F_law03_works []) fun r_334 =>
                onB r_334 fun b_341 ds_435 =>
                some [(.b b_341)]) else
               (some [(.b false)])) else
              (bif (b_334 == false) then (Option.bind (F_law03_works []) fun r_335 =>
                onB r_335 fun b_342 ds_436 =>
                some [(.b b_342)]) else
               (some [(.b false)]))) else
             (some [(.b false)])))) else
          (Option.bind (F_checked_Div [(.i a_0), (.i b_0)]) fun r_336 =>
           onI r_336 fun i_98 ds_437 =>
           onB ds_437 fun b_343 ds_438 =>
           Option.bind (F_checked_Mod [(.i a_0), (.i b_0)]) fun r_337 =>
           onI r_337 fun i_99 ds_439 =>
           onB ds_439 fun b_344 ds_440 =>
           bif (!decide (b_0 = 0)) then (bif (!decide (b_0 = (-1))) then (bif (b_343 == true) then (bif (!decide (b_0 = 0)) then (bif (b_344 == true) then (Option.bind (F_law03_works []) fun r_338 =>
                onB r_338 fun b_345 ds_441 =>
                some [(.b b_345)]) else
               (some [(.b false)])) else
              (bif (b_344 == false) then (Option.bind (F_law03_works []) fun r_339 =>
                onB r_339 fun b_346 ds_442 =>
                some [(.b b_346)]) else
               (some [(.b false)]))) else
             (some [(.b false)])) else
            (bif (!decide (a_0 = (-9223372036854775808))) then (bif (b_343 == true) then (bif (!decide (b_0 = 0)) then (bif (b_344 == true) then (Option.bind (F_law03_works []) fun r_340 =>
                 onB r_340 fun b_347 ds_443 =>
                 some [(.b b_347)]) else
                (some [(.b false)])) else
               (bif (b_344 == false) then (Option.bind (F_law03_works []) fun r_341 =>
                 onB r_341 fun b_348 ds_444 =>
                 some [(.b b_348)]) else
                (some [(.b false)]))) else
              (some [(.b false)])) else
             (bif (b_343 == false) then (bif (!decide (b_0 = 0)) then (bif (b_344 == true) then (Option.bind (F_law03_works []) fun r_342 =>
                 onB r_342 fun b_349 ds_445 =>
                 some [(.b b_349)]) else
                (some [(.b false)])) else
               (bif (b_344 == false) then (Option.bind (F_law03_works []) fun r_343 =>
                 onB r_343 fun b_350 ds_446 =>
                 some [(.b b_350)]) else
                (some [(.b false)]))) else
              (some [(.b false)])))) else
           (bif (b_343 == false) then (bif (!decide (b_0 = 0)) then (bif (b_344 == true) then (Option.bind (F_law03_works []) fun r_344 =>
               onB r_344 fun b_351 ds_447 =>
               some [(.b b_351)]) else
              (some [(.b false)])) else
             (bif (b_344 == false) then (Option.bind (F_law03_works []) fun r_345 =>
               onB r_345 fun b_352 ds_448 =>
               some [(.b b_352)]) else
              (some [(.b false)]))) else
            (some [(.b false)])))))) else
       (bif (!b_301) then (bif (!decide (i_84 = 0)) then (some [(.b false)]) else
         (bif (!decide (b_0 = (-9223372036854775808))) then (Option.bind (F_checked_Sub [(.i a_0), (.i b_0)]) fun r_346 =>
           onI r_346 fun i_100 ds_449 =>
           onB ds_449 fun b_353 ds_450 =>
           Option.bind (F_checked_Add [(.i a_0), (.i (i64 (0 - b_0)))]) fun r_347 =>
           onI r_347 fun i_101 ds_451 =>
           onB ds_451 fun b_354 ds_452 =>
           Option.bind (F_law03_is [(.i i_100), (.b b_353), (.i i_101), (.b b_354)]) fun r_348 =>
           onB r_348 fun b_355 ds_453 =>
           bif (!b_355) then (some [(.b false)]) else
           (Option.bind (F_checked_Div [(.i a_0), (.i b_0)]) fun r_349 =>
            onI r_349 fun i_102 ds_454 =>
            onB ds_454 fun b_356 ds_455 =>
            Option.bind (F_checked_Mod [(.i a_0), (.i b_0)]) fun r_350 =>
            onI r_350 fun i_103 ds_456 =>
            onB ds_456 fun b_357 ds_457 =>
            bif (!decide (b_0 = 0)) then (bif (!decide (b_0 = (-1))) then (bif (b_356 == true) then (bif (!decide (b_0 = 0)) then (bif (b_357 == true) then (Option.bind (F_law03_works []) fun r_351 =>
                 onB r_351 fun b_358 ds_458 =>
                 some [(.b b_358)]) else
                (some [(.b false)])) else
               (bif (b_357 == false) then (Option.bind (F_law03_works []) fun r_352 =>
                 onB r_352 fun b_359 ds_459 =>
                 some [(.b b_359)]) else
                (some [(.b false)]))) else
              (some [(.b false)])) else
             (bif (!decide (a_0 = (-9223372036854775808))) then (bif (b_356 == true) then (bif (!decide (b_0 = 0)) then (bif (b_357 == true) then (Option.bind (F_law03_works []) fun r_353 =>
                  onB r_353 fun b_360 ds_460 =>
                  some [(.b b_360)]) else
                 (some [(.b false)])) else
                (bif (b_357 == false) then (Option.bind (F_law03_works []) fun r_354 =>
                  onB r_354 fun b_361 ds_461 =>
                  some [(.b b_361)]) else
                 (some [(.b false)]))) else
               (some [(.b false)])) else
              (bif (b_356 == false) then (bif (!decide (b_0 = 0)) then (bif (b_357 == true) then (Option.bind (F_law03_works []) fun r_355 =>
                  onB r_355 fun b_362 ds_462 =>
                  some [(.b b_362)]) else
                 (some [(.b false)])) else
                (bif (b_357 == false) then (Option.bind (F_law03_works []) fun r_356 =>
                  onB r_356 fun b_363 ds_463 =>
                  some [(.b b_363)]) else
                 (some [(.b false)]))) else
               (some [(.b false)])))) else
            (bif (b_356 == false) then (bif (!decide (b_0 = 0)) then (bif (b_357 == true) then (Option.bind (F_law03_works []) fun r_357 =>
                onB r_357 fun b_364 ds_464 =>
                some [(.b b_364)]) else
               (some [(.b false)])) else
              (bif (b_357 == false) then (Option.bind (F_law03_works []) fun r_358 =>
                onB r_358 fun b_365 ds_465 =>
                some [(.b b_365)]) else
               (some [(.b false)]))) else
             (some [(.b false)])))) else
          (Option.bind (F_checked_Div [(.i a_0), (.i b_0)]) fun r_359 =>
           onI r_359 fun i_104 ds_466 =>
           onB ds_466 fun b_366 ds_467 =>
           Option.bind (F_checked_Mod [(.i a_0), (.i b_0)]) fun r_360 =>
           onI r_360 fun i_105 ds_468 =>
           onB ds_468 fun b_367 ds_469 =>
           bif (!decide (b_0 = 0)) then (bif (!decide (b_0 = (-1))) then (bif (b_366 == true) then (bif (!decide (b_0 = 0)) then (bif (b_367 == true) then (Option.bind (F_law03_works []) fun r_361 =>
                onB r_361 fun b_368 ds_470 =>
                some [(.b b_368)]) else
               (some [(.b false)])) else
              (bif (b_367 == false) then (Option.bind (F_law03_works []) fun r_362 =>
                onB r_362 fun b_369 ds_471 =>
                some [(.b b_369)]) else
               (some [(.b false)]))) else
             (some [(.b false)])) else
            (bif (!decide (a_0 = (-9223372036854775808))) then (bif (b_366 == true) then (bif (!decide (b_0 = 0)) then (bif (b_367 == true) then (Option.bind (F_law03_works []) fun r_363 =>
                 onB r_363 fun b_370 ds_472 =>
                 some [(.b b_370)]) else
                (some [(.b false)])) else
               (bif (b_367 == false) then (Option.bind (F_law03_works []) fun r_364 =>
                 onB r_364 fun b_371 ds_473 =>
                 some [(.b b_371)]) else
                (some [(.b false)]))) else
              (some [(.b false)])) else
             (bif (b_366 == false) then (bif (!decide (b_0 = 0)) then (bif (b_367 == true) then (Option.bind (F_law03_works []) fun r_365 =>
                 onB r_365 fun b_372 ds_474 =>
                 some [(.b b_372)]) else
                (some [(.b false)])) else
               (bif (b_367 == false) then (Option.bind (F_law03_works []) fun r_366 =>
                 onB r_366 fun b_373 ds_475 =>
                 some [(.b b_373)]) else
                (some [(.b false)]))) else
              (some [(.b false)])))) else
           (bif (b_366 == false) then (bif (!decide (b_0 = 0)) then (bif (b_367 == true) then (Option.bind (F_law03_works []) fun r_367 =>
               onB r_367 fun b_374 ds_476 =>
               some [(.b b_374)]) else
              (some [(.b false)])) else
             (bif (b_367 == false) then (Option.bind (F_law03_works []) fun r_368 =>
               onB r_368 fun b_375 ds_477 =>
               some [(.b b_375)]) else
              (some [(.b false)]))) else
            (some [(.b false)]))))) else
        (bif (!decide (b_0 = (-9223372036854775808))) then (Option.bind (F_checked_Sub [(.i a_0), (.i b_0)]) fun r_369 =>
          onI r_369 fun i_106 ds_478 =>
          onB ds_478 fun b_376 ds_479 =>
          Option.bind (F_checked_Add [(.i a_0), (.i (i64 (0 - b_0)))]) fun r_370 =>
          onI r_370 fun i_107 ds_480 =>
          onB ds_480 fun b_377 ds_481 =>
          Option.bind (F_law03_is [(.i i_106), (.b b_376), (.i i_107), (.b b_377)]) fun r_371 =>
          onB r_371 fun b_378 ds_482 =>
          bif (!b_378) then (some [(.b false)]) else
          (Option.bind (F_checked_Div [(.i a_0), (.i b_0)]) fun r_372 =>
           onI r_372 fun i_108 ds_483 =>
           onB ds_483 fun b_379 ds_484 =>
           Option.bind (F_checked_Mod [(.i a_0), (.i b_0)]) fun r_373 =>
           onI r_373 fun i_109 ds_485 =>
           onB ds_485 fun b_380 ds_486 =>
           bif (!decide (b_0 = 0)) then (bif (!decide (b_0 = (-1))) then (bif (b_379 == true) then (bif (!decide (b_0 = 0)) then (bif (b_380 == true) then (Option.bind (F_law03_works []) fun r_374 =>
                onB r_374 fun b_381 ds_487 =>
                some [(.b b_381)]) else
               (some [(.b false)])) else
              (bif (b_380 == false) then (Option.bind (F_law03_works []) fun r_375 =>
                onB r_375 fun b_382 ds_488 =>
                some [(.b b_382)]) else
               (some [(.b false)]))) else
             (some [(.b false)])) else
            (bif (!decide (a_0 = (-9223372036854775808))) then (bif (b_379 == true) then (bif (!decide (b_0 = 0)) then (bif (b_380 == true) then (Option.bind (F_law03_works []) fun r_376 =>
                 onB r_376 fun b_383 ds_489 =>
                 some [(.b b_383)]) else
                (some [(.b false)])) else
               (bif (b_380 == false) then (Option.bind (F_law03_works []) fun r_377 =>
                 onB r_377 fun b_384 ds_490 =>
                 some [(.b b_384)]) else
                (some [(.b false)]))) else
              (some [(.b false)])) else
             (bif (b_379 == false) then (bif (!decide (b_0 = 0)) then (bif (b_380 == true) then (Option.bind (F_law03_works []) fun r_378 =>
                 onB r_378 fun b_385 ds_491 =>
                 some [(.b b_385)]) else
                (some [(.b false)])) else
               (bif (b_380 == false) then (Option.bind (F_law03_works []) fun r_379 =>
                 onB r_379 fun b_386 ds_492 =>
                 some [(.b b_386)]) else
                (some [(.b false)]))) else
              (some [(.b false)])))) else
           (bif (b_379 == false) then (bif (!decide (b_0 = 0)) then (bif (b_380 == true) then (Option.bind (F_law03_works []) fun r_380 =>
               onB r_380 fun b_387 ds_493 =>
               some [(.b b_387)]) else
              (some [(.b false)])) else
             (bif (b_380 == false) then (Option.bind (F_law03_works []) fun r_381 =>
               onB r_381 fun b_388 ds_494 =>
               some [(.b b_388)]) else
              (some [(.b false)]))) else
            (some [(.b false)])))) else
         (Option.bind (F_checked_Div [(.i a_0), (.i b_0)]) fun r_382 =>
          onI r_382 fun i_110 ds_495 =>
          onB ds_495 fun b_389 ds_496 =>
          Option.bind (F_checked_Mod [(.i a_0), (.i b_0)]) fun r_383 =>
          onI r_383 fun i_111 ds_497 =>
          onB ds_497 fun b_390 ds_498 =>
          bif (!decide (b_0 = 0)) then (bif (!decide (b_0 = (-1))) then (bif (b_389 == true) then (bif (!decide (b_0 = 0)) then (bif (b_390 == true) then (Option.bind (F_law03_works []) fun r_384 =>
               onB r_384 fun b_391 ds_499 =>
               some [(.b b_391)]) else
              (some [(.b false)])) else
             (bif (b_390 == false) then (Option.bind (F_law03_works []) fun r_385 =>
               onB r_385 fun b_392 ds_500 =>
               some [(.b b_392)]) else
              (some [(.b false)]))) else
            (some [(.b false)])) else
           (bif (!decide (a_0 = (-9223372036854775808))) then (bif (b_389 == true) then (bif (!decide (b_0 = 0)) then (bif (b_390 == true) then (Option.bind (F_law03_works []) fun r_386 =>
                onB r_386 fun b_393 ds_501 =>
                some [(.b b_393)]) else
               (some [(.b false)])) else
              (bif (b_390 == false) then (Option.bind (F_law03_works []) fun r_387 =>
                onB r_387 fun b_394 ds_502 =>
                some [(.b b_394)]) else
               (some [(.b false)]))) else
             (some [(.b false)])) else
            (bif (b_389 == false) then (bif (!decide (b_0 = 0)) then (bif (b_390 == true) then (Option.bind (F_law03_works []) fun r_388 =>
                onB r_388 fun b_395 ds_503 =>
                some [(.b b_395)]) else
               (some [(.b false)])) else
              (bif (b_390 == false) then (Option.bind (F_law03_works []) fun r_389 =>
                onB r_389 fun b_396 ds_504 =>
                some [(.b b_396)]) else
               (some [(.b false)]))) else
             (some [(.b false)])))) else
          (bif (b_389 == false) then (bif (!decide (b_0 = 0)) then (bif (b_390 == true) then (Option.bind (F_law03_works []) fun r_390 =>
              onB r_390 fun b_397 ds_505 =>
              some [(.b b_397)]) else
             (some [(.b false)])) else
            (bif (b_390 == false) then (Option.bind (F_law03_works []) fun r_391 =>
              onB r_391 fun b_398 ds_506 =>
              some [(.b b_398)]) else
             (some [(.b false)]))) else
           (some [(.b false)]))))))))))
noncomputable def F_law03_CheckedSteps : List Dat → Option (List Dat) := fun ds_0 =>
  onI ds_0 fun a_0 ds_1 =>
  onI ds_1 fun b_0 ds_2 =>
  onI ds_2 fun c_0 ds_3 =>
  Option.bind (F_checked_Mul [(.i a_0), (.i b_0)]) fun r_0 =>
  onI r_0 fun i_0 ds_4 =>
  onB ds_4 fun b_1 ds_5 =>
  bif (decide (b_0 < 9223372036854775807)) then (Option.bind (F_checked_Mul [(.i a_0), (.i (i64 (b_0 + 1)))]) fun r_1 =>
   onI r_1 fun i_1 ds_6 =>
   onB ds_6 fun b_2 ds_7 =>
   Option.bind (F_checked_Add [(.i i_0), (.i a_0)]) fun r_2 =>
   onI r_2 fun i_2 ds_8 =>
   onB ds_8 fun b_3 ds_9 =>
   bif b_1 then (bif b_2 then (Option.bind (F_law03_is [(.i i_2), (.b b_3), (.i i_1), (.b true)]) fun r_3 =>
     onB r_3 fun b_4 ds_10 =>
     bif (!b_4) then (some [(.b false)]) else
     (bif b_1 then (bif b_3 then (bif (!b_2) then (some [(.b false)]) else
        (Option.bind (F_checked_Div [(.i a_0), (.i (i64 ((i64 c_0) + 1)))]) fun r_4 =>
         onI r_4 fun i_3 ds_11 =>
         onB ds_11 fun b_5 ds_12 =>
         bif (!b_5) then (some [(.b false)]) else
         (Option.bind (F_checked_Mul [(.i i_3), (.i (i64 ((i64 c_0) + 1)))]) fun r_5 =>
          onI r_5 fun i_4 ds_13 =>
          onB ds_13 fun b_6 ds_14 =>
          Option.bind (bif b_6 then (bif (decide (a_0 < i_4)) then (some true) else
            (some false)) else
           (some false)) fun b_7 =>
          bif b_7 then (some [(.b false)]) else
          (Option.bind (F_checked_Add [(.i i_3), (.i 1)]) fun r_6 =>
           onI r_6 fun i_5 ds_15 =>
           onB ds_15 fun b_8 ds_16 =>
           bif (!b_8) then (bif (decide (i_3 = 9223372036854775807)) then (Option.bind (F_law03_works []) fun r_7 =>
             onB r_7 fun b_9 ds_17 =>
             some [(.b b_9)]) else
            (some [(.b false)])) else
           (Option.bind (F_checked_Mul [(.i i_5), (.i (i64 ((i64 c_0) + 1)))]) fun r_8 =>
            onI r_8 fun i_6 ds_18 =>
            onB ds_18 fun b_10 ds_19 =>
            bif (!b_10) then (Option.bind (F_law03_works []) fun r_9 =>
             onB r_9 fun b_11 ds_20 =>
             some [(.b b_11)]) else
            (bif (decide (a_0 < i_6)) then (Option.bind (F_law03_works []) fun r_10 =>
              onB r_10 fun b_12 ds_21 =>
              some [(.b b_12)]) else
             (some [(.b false)]))))))) else
       (Option.bind (F_checked_Div [(.i a_0), (.i (i64 ((i64 c_0) + 1)))]) fun r_11 =>
        onI r_11 fun i_7 ds_22 =>
        onB ds_22 fun b_13 ds_23 =>
        bif (!b_13) then (some [(.b false)]) else
        (Option.bind (F_checked_Mul [(.i i_7), (.i (i64 ((i64 c_0) + 1)))]) fun r_12 =>
         onI r_12 fun i_8 ds_24 =>
         onB ds_24 fun b_14 ds_25 =>
         Option.bind (bif b_14 then (bif (decide (a_0 < i_8)) then (some true) else
           (some false)) else
          (some false)) fun b_15 =>
         bif b_15 then (some [(.b false)]) else
         (Option.bind (F_checked_Add [(.i i_7), (.i 1)]) fun r_13 =>
          onI r_13 fun i_9 ds_26 =>
          onB ds_26 fun b_16 ds_27 =>
          bif (!b_16) then (bif (decide (i_7 = 9223372036854775807)) then (Option.bind (F_law03_works []) fun r_14 =>
            onB r_14 fun b_17 ds_28 =>
            some [(.b b_17)]) else
           (some [(.b false)])) else
          (Option.bind (F_checked_Mul [(.i i_9), (.i (i64 ((i64 c_0) + 1)))]) fun r_15 =>
           onI r_15 fun i_10 ds_29 =>
           onB ds_29 fun b_18 ds_30 =>
           bif (!b_18) then (Option.bind (F_law03_works []) fun r_16 =>
            onB r_16 fun b_19 ds_31 =>
            some [(.b b_19)]) else
           (bif (decide (a_0 < i_10)) then (Option.bind (F_law03_works []) fun r_17 =>
             onB r_17 fun b_20 ds_32 =>
             some [(.b b_20)]) else
            (some [(.b false)]))))))) else
      (Option.bind (F_checked_Div [(.i a_0), (.i (i64 ((i64 c_0) + 1)))]) fun r_18 =>
       onI r_18 fun i_11 ds_33 =>
       onB ds_33 fun b_21 ds_34 =>
       bif (!b_21) then (some [(.b false)]) else
       (Option.bind (F_checked_Mul [(.i i_11), (.i (i64 ((i64 c_0) + 1)))]) fun r_19 =>
        onI r_19 fun i_12 ds_35 =>
        onB ds_35 fun b_22 ds_36 =>
        Option.bind (bif b_22 then (bif (decide (a_0 < i_12)) then (some true) else
          (some false)) else
         (some false)) fun b_23 =>
        bif b_23 then (some [(.b false)]) else
        (Option.bind (F_checked_Add [(.i i_11), (.i 1)]) fun r_20 =>
         onI r_20 fun i_13 ds_37 =>
         onB ds_37 fun b_24 ds_38 =>
         bif (!b_24) then (bif (decide (i_11 = 9223372036854775807)) then (Option.bind (F_law03_works []) fun r_21 =>
           onB r_21 fun b_25 ds_39 =>
           some [(.b b_25)]) else
          (some [(.b false)])) else
         (Option.bind (F_checked_Mul [(.i i_13), (.i (i64 ((i64 c_0) + 1)))]) fun r_22 =>
          onI r_22 fun i_14 ds_40 =>
          onB ds_40 fun b_26 ds_41 =>
          bif (!b_26) then (Option.bind (F_law03_works []) fun r_23 =>
           onB r_23 fun b_27 ds_42 =>
           some [(.b b_27)]) else
          (bif (decide (a_0 < i_14)) then (Option.bind (F_law03_works []) fun r_24 =>
            onB r_24 fun b_28 ds_43 =>
            some [(.b b_28)]) else
           (some [(.b false)])))))))) else
    (bif b_1 then (bif b_3 then (bif (!b_2) then (some [(.b false)]) else
       (Option.bind (F_checked_Div [(.i a_0), (.i (i64 ((i64 c_0) + 1)))]) fun r_25 =>
        onI r_25 fun i_15 ds_44 =>
        onB ds_44 fun b_29 ds_45 =>
        bif (!b_29) then (some [(.b false)]) else
        (Option.bind (F_checked_Mul [(.i i_15), (.i (i64 ((i64 c_0) + 1)))]) fun r_26 =>
         onI r_26 fun i_16 ds_46 =>
         onB ds_46 fun b_30 ds_47 =>
         Option.bind (bif b_30 then (bif (decide (a_0 < i_16)) then (some true) else
           (some false)) else
          (some false)) fun b_31 =>
         bif b_31 then (some [(.b false)]) else
         (Option.bind (F_checked_Add [(.i i_15), (.i 1)]) fun r_27 =>
          onI r_27 fun i_17 ds_48 =>
          onB ds_48 fun b_32 ds_49 =>
          bif (!b_32) then (bif (decide (i_15 = 9223372036854775807)) then (Option.bind (F_law03_works []) fun r_28 =>
            onB r_28 fun b_33 ds_50 =>
            some [(.b b_33)]) else
           (some [(.b false)])) else
          (Option.bind (F_checked_Mul [(.i i_17), (.i (i64 ((i64 c_0) + 1)))]) fun r_29 =>
           onI r_29 fun i_18 ds_51 =>
           onB ds_51 fun b_34 ds_52 =>
           bif (!b_34) then (Option.bind (F_law03_works []) fun r_30 =>
            onB r_30 fun b_35 ds_53 =>
            some [(.b b_35)]) else
           (bif (decide (a_0 < i_18)) then (Option.bind (F_law03_works []) fun r_31 =>
             onB r_31 fun b_36 ds_54 =>
             some [(.b b_36)]) else
            (some [(.b false)]))))))) else
      (Option.bind (F_checked_Div [(.i a_0), (.i (i64 ((i64 c_0) + 1)))]) fun r_32 =>
       onI r_32 fun i_19 ds_55 =>
       onB ds_55 fun b_37 ds_56 =>
       bif (!b_37) then (some [(.b false)]) else
       (Option.bind (F_checked_Mul [(.i i_19), (.i (i64 ((i64 c_0) + 1)))]) fun r_33 =>
        onI r_33 fun i_20 ds_57 =>
        onB ds_57 fun b_38 ds_58 =>
        Option.bind (bif b_38 then (bif (decide (a_0 < i_20)) then (some true) else
          (some false)) else
         (some false)) fun b_39 =>
        bif b_39 then (some [(.b false)]) else
        (Option.bind (F_checked_Add [(.i i_19), (.i 1)]) fun r_34 =>
         onI r_34 fun i_21 ds_59 =>
         onB ds_59 fun b_40 ds_60 =>
         bif (!b_40) then (bif (decide (i_19 = 9223372036854775807)) then (Option.bind (F_law03_works []) fun r_35 =>
           onB r_35 fun b_41 ds_61 =>
           some [(.b b_41)]) else
          (some [(.b false)])) else
         (Option.bind (F_checked_Mul [(.i i_21), (.i (i64 ((i64 c_0) + 1)))]) fun r_36 =>
          onI r_36 fun i_22 ds_62 =>
          onB ds_62 fun b_42 ds_63 =>
          bif (!b_42) then (Option.bind (F_law03_works []) fun r_37 =>
           onB r_37 fun b_43 ds_64 =>
           some [(.b b_43)]) else
          (bif (decide (a_0 < i_22)) then (Option.bind (F_law03_works []) fun r_38 =>
            onB r_38 fun b_44 ds_65 =>
            some [(.b b_44)]) else
           (some [(.b false)]))))))) else
     (Option.bind (F_checked_Div [(.i a_0), (.i (i64 ((i64 c_0) + 1)))]) fun r_39 =>
      onI r_39 fun i_23 ds_66 =>
      onB ds_66 fun b_45 ds_67 =>
      bif (!b_45) then (some [(.b false)]) else
      (Option.bind (F_checked_Mul [(.i i_23), (.i (i64 ((i64 c_0) + 1)))]) fun r_40 =>
       onI r_40 fun i_24 ds_68 =>
       onB ds_68 fun b_46 ds_69 =>
       Option.bind (bif b_46 then (bif (decide (a_0 < i_24)) then (some true) else
         (some false)) else
        (some false)) fun b_47 =>
       bif b_47 then (some [(.b false)]) else
       (Option.bind (F_checked_Add [(.i i_23), (.i 1)]) fun r_41 =>
        onI r_41 fun i_25 ds_70 =>
        onB ds_70 fun b_48 ds_71 =>
        bif (!b_48) then (bif (decide (i_23 = 9223372036854775807)) then (Option.bind (F_law03_works []) fun r_42 =>
          onB r_42 fun b_49 ds_72 =>
          some [(.b b_49)]) else
         (some [(.b false)])) else
        (Option.bind (F_checked_Mul [(.i i_25), (.i (i64 ((i64 c_0) + 1)))]) fun r_43 =>
         onI r_43 fun i_26 ds_73 =>
         onB ds_73 fun b_50 ds_74 =>
         bif (!b_50) then (Option.bind (F_law03_works []) fun r_44 =>
          onB r_44 fun b_51 ds_75 =>
          some [(.b b_51)]) else
         (bif (decide (a_0 < i_26)) then (Option.bind (F_law03_works []) fun r_45 =>
           onB r_45 fun b_52 ds_76 =>
           some [(.b b_52)]) else
          (some [(.b false)])))))))) else
   (bif b_1 then (bif b_3 then (bif (!b_2) then (some [(.b false)]) else
      (Option.bind (F_checked_Div [(.i a_0), (.i (i64 ((i64 c_0) + 1)))]) fun r_46 =>
       onI r_46 fun i_27 ds_77 =>
       onB ds_77 fun b_53 ds_78 =>
       bif (!b_53) then (some [(.b false)]) else
       (Option.bind (F_checked_Mul [(.i i_27), (.i (i64 ((i64 c_0) + 1)))]) fun r_47 =>
        onI r_47 fun i_28 ds_79 =>
        onB ds_79 fun b_54 ds_80 =>
        Option.bind (bif b_54 then (bif (decide (a_0 < i_28)) then (some true) else
          (some false)) else
         (some false)) fun b_55 =>
        bif b_55 then (some [(.b false)]) else
        (Option.bind (F_checked_Add [(.i i_27), (.i 1)]) fun r_48 =>
         onI r_48 fun i_29 ds_81 =>
         onB ds_81 fun b_56 ds_82 =>
         bif (!b_56) then (bif (decide (i_27 = 9223372036854775807)) then (Option.bind (F_law03_works []) fun r_49 =>
           onB r_49 fun b_57 ds_83 =>
           some [(.b b_57)]) else
          (some [(.b false)])) else
         (Option.bind (F_checked_Mul [(.i i_29), (.i (i64 ((i64 c_0) + 1)))]) fun r_50 =>
          onI r_50 fun i_30 ds_84 =>
          onB ds_84 fun b_58 ds_85 =>
          bif (!b_58) then (Option.bind (F_law03_works []) fun r_51 =>
           onB r_51 fun b_59 ds_86 =>
           some [(.b b_59)]) else
          (bif (decide (a_0 < i_30)) then (Option.bind (F_law03_works []) fun r_52 =>
            onB r_52 fun b_60 ds_87 =>
            some [(.b b_60)]) else
           (some [(.b false)]))))))) else
     (Option.bind (F_checked_Div [(.i a_0), (.i (i64 ((i64 c_0) + 1)))]) fun r_53 =>
      onI r_53 fun i_31 ds_88 =>
      onB ds_88 fun b_61 ds_89 =>
      bif (!b_61) then (some [(.b false)]) else
      (Option.bind (F_checked_Mul [(.i i_31), (.i (i64 ((i64 c_0) + 1)))]) fun r_54 =>
       onI r_54 fun i_32 ds_90 =>
       onB ds_90 fun b_62 ds_91 =>
       Option.bind (bif b_62 then (bif (decide (a_0 < i_32)) then (some true) else
         (some false)) else
        (some false)) fun b_63 =>
       bif b_63 then (some [(.b false)]) else
       (Option.bind (F_checked_Add [(.i i_31), (.i 1)]) fun r_55 =>
        onI r_55 fun i_33 ds_92 =>
        onB ds_92 fun b_64 ds_93 =>
        bif (!b_64) then (bif (decide (i_31 = 9223372036854775807)) then (Option.bind (F_law03_works []) fun r_56 =>
          onB r_56 fun b_65 ds_94 =>
          some [(.b b_65)]) else
         (some [(.b false)])) else
        (Option.bind (F_checked_Mul [(.i i_33), (.i (i64 ((i64 c_0) + 1)))]) fun r_57 =>
         onI r_57 fun i_34 ds_95 =>
         onB ds_95 fun b_66 ds_96 =>
         bif (!b_66) then (Option.bind (F_law03_works []) fun r_58 =>
          onB r_58 fun b_67 ds_97 =>
          some [(.b b_67)]) else
         (bif (decide (a_0 < i_34)) then (Option.bind (F_law03_works []) fun r_59 =>
           onB r_59 fun b_68 ds_98 =>
           some [(.b b_68)]) else
          (some [(.b false)]))))))) else
    (Option.bind (F_checked_Div [(.i a_0), (.i (i64 ((i64 c_0) + 1)))]) fun r_60 =>
     onI r_60 fun i_35 ds_99 =>
     onB ds_99 fun b_69 ds_100 =>
     bif (!b_69) then (some [(.b false)]) else
     (Option.bind (F_checked_Mul [(.i i_35), (.i (i64 ((i64 c_0) + 1)))]) fun r_61 =>
      onI r_61 fun i_36 ds_101 =>
      onB ds_101 fun b_70 ds_102 =>
      Option.bind (bif b_70 then (bif (decide (a_0 < i_36)) then (some true) else
        (some false)) else
       (some false)) fun b_71 =>
      bif b_71 then (some [(.b false)]) else
      (Option.bind (F_checked_Add [(.i i_35), (.i 1)]) fun r_62 =>
       onI r_62 fun i_37 ds_103 =>
       onB ds_103 fun b_72 ds_104 =>
       bif (!b_72) then (bif (decide (i_35 = 9223372036854775807)) then (Option.bind (F_law03_works []) fun r_63 =>
         onB r_63 fun b_73 ds_105 =>
         some [(.b b_73)]) else
        (some [(.b false)])) else
       (Option.bind (F_checked_Mul [(.i i_37), (.i (i64 ((i64 c_0) + 1)))]) fun r_64 =>
        onI r_64 fun i_38 ds_106 =>
        onB ds_106 fun b_74 ds_107 =>
        bif (!b_74) then (Option.bind (F_law03_works []) fun r_65 =>
         onB r_65 fun b_75 ds_108 =>
         some [(.b b_75)]) else
        (bif (decide (a_0 < i_38)) then (Option.bind (F_law03_works []) fun r_66 =>
          onB r_66 fun b_76 ds_109 =>
          some [(.b b_76)]) else
         (some [(.b false)])))))))) else
  (Option.bind (F_checked_Div [(.i a_0), (.i (i64 ((i64 c_0) + 1)))]) fun r_67 =>
   onI r_67 fun i_39 ds_110 =>
   onB ds_110 fun b_77 ds_111 =>
   bif (!b_77) then (some [(.b false)]) else
   (Option.bind (F_checked_Mul [(.i i_39), (.i (i64 ((i64 c_0) + 1)))]) fun r_68 =>
    onI r_68 fun i_40 ds_112 =>
    onB ds_112 fun b_78 ds_113 =>
    Option.bind (bif b_78 then (bif (decide (a_0 < i_40)) then (some true) else
      (some false)) else
     (some false)) fun b_79 =>
    bif b_79 then (some [(.b false)]) else
    (Option.bind (F_checked_Add [(.i i_39), (.i 1)]) fun r_69 =>
     onI r_69 fun i_41 ds_114 =>
     onB ds_114 fun b_80 ds_115 =>
     bif (!b_80) then (bif (decide (i_39 = 9223372036854775807)) then (Option.bind (F_law03_works []) fun r_70 =>
       onB r_70 fun b_81 ds_116 =>
       some [(.b b_81)]) else
      (some [(.b false)])) else
     (Option.bind (F_checked_Mul [(.i i_41), (.i (i64 ((i64 c_0) + 1)))]) fun r_71 =>
      onI r_71 fun i_42 ds_117 =>
      onB ds_117 fun b_82 ds_118 =>
      bif (!b_82) then (Option.bind (F_law03_works []) fun r_72 =>
       onB r_72 fun b_83 ds_119 =>
       some [(.b b_83)]) else
      (bif (decide (a_0 < i_42)) then (Option.bind (F_law03_works []) fun r_73 =>
        onB r_73 fun b_84 ds_120 =>
        some [(.b b_84)]) else
       (some [(.b false)]))))))
noncomputable def F_law03_CheckedParts_L0 : List Dat → Option (List Dat ⊕ List Dat) := fun ds_4 =>
  onN ds_4 fun ln_1 ds_5 =>
  onL ds_5 fun ll_1 ds_6 =>
  onI ds_6 fun sum_0 ds_7 =>
  onB ds_7 fun fits_0 ds_8 =>
  onN ds_8 fun vn_0 ds_9 =>
  onL ds_9 fun vl_0 ds_10 =>
  onI ds_10 fun v_0 ds_11 =>
  onI ds_11 fun v_1 ds_12 =>
  bif (decide (v_1 < v_0)) then (bif (decide ((0 ≤ v_1) ∧ (v_1 < ((vn_0 : Nat) : Int)))) then (Option.bind (asI .i64 (vl_0)[(v_1).toNat]?) fun x_0 =>
   Option.bind (F_checked_Add [(.i sum_0), (.i x_0)]) fun r_1 =>
   onI r_1 fun i_0 ds_13 =>
   onB ds_13 fun b_1 ds_14 =>
   Option.bind (bif fits_0 then (some b_1) else
    (some false)) fun b_2 =>
   bif (!b_2) then (bif (decide ((0 ≤ (i64 (v_1 + 1))) ∧ ((i64 (v_1 + 1)) ≤ ((ln_1 : Nat) : Int)))) then (bif (decide ((0 + ((i64 (v_1 + 1))).toNat) ≤ (ll_1).length)) then (Option.bind (checkedSum [(.n ((i64 (v_1 + 1))).toNat), (.l (List.take ((i64 (v_1 + 1))).toNat (List.drop 0 ll_1)))]) fun r_2 =>
    onI r_2 fun i_1 ds_15 =>
    onB ds_15 fun b_3 ds_16 =>
    Option.bind (bif (!decide (i_1 = 0)) then (some true) else
     (some (!(b_3 == b_2)))) fun b_4 =>
    bif b_4 then (Option.map .inr (some [(.b false)])) else
    (some (.inl [(.n ln_1), (.l ll_1), (.i 0), (.b b_2), (.n vn_0), (.l vl_0), (.i v_0), (.i (i64 (v_1 + 1)))]))) else none) else none) else
   (bif (decide ((0 ≤ (i64 (v_1 + 1))) ∧ ((i64 (v_1 + 1)) ≤ ((ln_1 : Nat) : Int)))) then (bif (decide ((0 + ((i64 (v_1 + 1))).toNat) ≤ (ll_1).length)) then (Option.bind (checkedSum [(.n ((i64 (v_1 + 1))).toNat), (.l (List.take ((i64 (v_1 + 1))).toNat (List.drop 0 ll_1)))]) fun r_3 =>
    onI r_3 fun i_2 ds_17 =>
    onB ds_17 fun b_5 ds_18 =>
    Option.bind (bif (!decide (i_2 = i_0)) then (some true) else
     (some (!(b_5 == b_2)))) fun b_6 =>
    bif b_6 then (Option.map .inr (some [(.b false)])) else
    (some (.inl [(.n ln_1), (.l ll_1), (.i i_0), (.b b_2), (.n vn_0), (.l vl_0), (.i v_0), (.i (i64 (v_1 + 1)))]))) else none) else none)) else none) else
  (Option.map .inr (Option.bind (F_law03_works []) fun r_4 =>
    onB r_4 fun b_7 ds_19 =>
    some [(.b b_7)]))
noncomputable def F_law03_CheckedParts : List Dat → Option (List Dat) := fun ds_0 =>
  onN ds_0 fun ln_0 ds_1 =>
  onL ds_1 fun ll_0 ds_2 =>
  bif (decide (300 < ((ln_0 : Nat) : Int))) then (Option.bind (F_law03_works []) fun r_0 =>
   onB r_0 fun b_0 ds_3 =>
   some [(.b b_0)]) else
  (iter F_law03_CheckedParts_L0 [(.n ln_0), (.l ll_0), (.i 0), (.b true), (.n ln_0), (.l ll_0), (.i ((ln_0 : Nat) : Int)), (.i 0)])
end Go.Proofs.Ytkjlobjnboljbaa
