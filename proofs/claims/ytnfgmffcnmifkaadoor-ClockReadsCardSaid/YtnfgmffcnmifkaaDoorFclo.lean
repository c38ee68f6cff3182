/-
  The functions of plain data that the laws of this group reach, as the program has them.
-/
import Derived.Test.YtnfgmffcnmifkaaDoorAx33
import Derived.Test.YtnfgmffcnmifkaaDoorAx36
import Derived.Test.YtnfgmffcnmifkaaDoorHClockFind
namespace Go.Proofs.YtnfgmffcnmifkaaDoor
open Go.Ax
set_option linter.all false
set_option maxRecDepth 100000
noncomputable def F_internal_stringslite_HasPrefix : List Dat → Option (List Dat) := fun ds_0 =>
  onS ds_0 fun s_0 ds_1 =>
  onS ds_1 fun prefix_0 ds_2 =>
  Option.bind (bif (decide ((((prefix_0).length : Nat) : Int) ≤ (((s_0).length : Nat) : Int))) then (bif (decide ((0 ≤ (((prefix_0).length : Nat) : Int)) ∧ ((((prefix_0).length : Nat) : Int) ≤ (((s_0).length : Nat) : Int)))) then (bif ((List.take ((((prefix_0).length : Nat) : Int)).toNat (List.drop 0 s_0)) == prefix_0) then (some true) else
    (some false)) else none) else
   (some false)) fun b_0 =>
  some [(.b b_0)]
noncomputable def F_internal_stringslite_CutPrefix : List Dat → Option (List Dat) := fun ds_0 =>
  onS ds_0 fun s_0 ds_1 =>
  onS ds_1 fun prefix_0 ds_2 =>
  Option.bind (F_internal_stringslite_HasPrefix [(.s s_0), (.s prefix_0)]) fun r_0 =>
  onB r_0 fun b_0 ds_3 =>
  bif (!b_0) then (some [(.s s_0), (.b false)]) else
  (bif (decide ((0 ≤ (((prefix_0).length : Nat) : Int)) ∧ ((((prefix_0).length : Nat) : Int) ≤ (((s_0).length : Nat) : Int)))) then (some [(.s (List.take ((s_0).length - ((((prefix_0).length : Nat) : Int)).toNat) (List.drop ((((prefix_0).length : Nat) : Int)).toNat s_0))), (.b true)]) else none)
noncomputable def F_strings_CutPrefix : List Dat → Option (List Dat) := fun ds_0 =>
  onS ds_0 fun s_0 ds_1 =>
  onS ds_1 fun prefix_0 ds_2 =>
  Option.bind (F_internal_stringslite_CutPrefix [(.s s_0), (.s prefix_0)]) fun r_0 =>
  onS r_0 fun s_1 ds_3 =>
  onB ds_3 fun b_0 ds_4 =>
  some [(.s s_1), (.b b_0)]
noncomputable def F_offset_split_L2 (i_0 : Int) (c_3 : Int) : List Dat → Option (List Dat ⊕ (List Dat ⊕ List Dat)) := fun ds_12 =>
  onI ds_12 fun i_1 ds_13 =>
  onI ds_13 fun i_2 ds_14 =>
  onS ds_14 fun s_1 ds_15 =>
  onL ds_15 fun l_0 ds_16 =>
  Option.bind (bif (decide (i_2 < (((s_1).length : Nat) : Int))) then (bif (decide ((0 ≤ i_2) ∧ (i_2 < (((s_1).length : Nat) : Int)))) then (bif (decide (48 ≤ ((((List.getD s_1 (i_2).toNat 0)).toNat : Nat) : Int))) then (bif (decide ((0 ≤ i_2) ∧ (i_2 < (((s_1).length : Nat) : Int)))) then (bif (decide (((((List.getD s_1 (i_2).toNat 0)).toNat : Nat) : Int) ≤ 57)) then (some true) else
     (some false)) else none) else
    (some false)) else none) else
   (some false)) fun b_3 =>
  bif b_3 then (bif (decide ((0 ≤ i_2) ∧ (i_2 < (((s_1).length : Nat) : Int)))) then (bif (List.all l_0 (Ax.closedN 20)) then (some (.inl [(.i (if 1000 < (i64 ((i64 (10 * i_1)) + (i64 (u8 (((((List.getD s_1 (i_2).toNat 0)).toNat : Nat) : Int) - 48))))) then 1000 else (i64 ((i64 (10 * i_1)) + (i64 (u8 (((((List.getD s_1 (i_2).toNat 0)).toNat : Nat) : Int) - 48))))))), (.i (i64 (i_2 + 1))), (.s s_1), (.l l_0)])) else
   (none)) else none) else
  (Option.map .inr (bif (decide ((0 ≤ i_0) ∧ (i_0 < 3))) then (bif (decide (((i_0).toNat + 1) ≤ (l_0).length)) then (bif (decide (([(Ax.AV.int .i64 (Ax.I.sym i_1))]).length = 1)) then (Option.bind (bif (!decide ((i64 (i_2 - (i64 (c_3 + 1)))) = 2)) then (some true) else
     (bif (decide ((0 ≤ i_0) ∧ (i_0 < 3))) then (Option.bind (asI .i64 ((Ax.write l_0 (i_0).toNat [(Ax.AV.int .i64 (Ax.I.sym i_1))]))[(i_0).toNat]?) fun x_12 =>
      bif (decide (59 < x_12)) then (some true) else
      (some false)) else none)) fun b_4 =>
    bif b_4 then (bif (decide (3 ≤ ((Ax.write l_0 (i_0).toNat [(Ax.AV.int .i64 (Ax.I.sym i_1))])).length)) then (Option.map .inr (Option.bind (asI .i64 ((List.drop 0 (Ax.write (Ax.write l_0 (i_0).toNat [(Ax.AV.int .i64 (Ax.I.sym i_1))]) 0 [(Ax.AV.int .i64 (Ax.I.lit 0)), (Ax.AV.int .i64 (Ax.I.lit 0)), (Ax.AV.int .i64 (Ax.I.lit 0))])))[0]?) fun x_13 =>
      Option.bind (asI .i64 ((List.drop 1 (List.drop 0 (Ax.write (Ax.write l_0 (i_0).toNat [(Ax.AV.int .i64 (Ax.I.sym i_1))]) 0 [(Ax.AV.int .i64 (Ax.I.lit 0)), (Ax.AV.int .i64 (Ax.I.lit 0)), (Ax.AV.int .i64 (Ax.I.lit 0))]))))[0]?) fun x_14 =>
      Option.bind (asI .i64 ((List.drop 1 (List.drop 1 (List.drop 0 (Ax.write (Ax.write l_0 (i_0).toNat [(Ax.AV.int .i64 (Ax.I.sym i_1))]) 0 [(Ax.AV.int .i64 (Ax.I.lit 0)), (Ax.AV.int .i64 (Ax.I.lit 0)), (Ax.AV.int .i64 (Ax.I.lit 0))])))))[0]?) fun x_15 =>
      some [(.i x_13), (.i x_14), (.i x_15), (.b false)])) else none) else
    (bif (List.all (Ax.write l_0 (i_0).toNat [(Ax.AV.int .i64 (Ax.I.sym i_1))]) (Ax.closedN 20)) then (some (.inl [(.i (i64 (i_0 + 1))), (.s s_1), (.l (Ax.write l_0 (i_0).toNat [(Ax.AV.int .i64 (Ax.I.sym i_1))])), (.i i_2)])) else
     (none))) else none) else none) else none))
noncomputable def F_offset_split_L1 : List Dat → Option (List Dat ⊕ List Dat) := fun ds_7 =>
  onI ds_7 fun i_0 ds_8 =>
  onS ds_8 fun c_2 ds_9 =>
  onL ds_9 fun cells_1 ds_10 =>
  onI ds_10 fun c_3 ds_11 =>
  Option.bind (bif (decide (i_0 < 3)) then (bif (decide (c_3 < (((c_2).length : Nat) : Int))) then (some true) else
    (some false)) else
   (some false)) fun b_2 =>
  bif b_2 then (bif (decide ((0 ≤ c_3) ∧ (c_3 < (((c_2).length : Nat) : Int)))) then (bif (!decide (((((List.getD c_2 (c_3).toNat 0)).toNat : Nat) : Int) = 58)) then (Option.map .inr (bif (!decide (c_3 = (((c_2).length : Nat) : Int))) then (bif (decide (3 ≤ (cells_1).length)) then (Option.bind (asI .i64 ((List.drop 0 (Ax.write cells_1 0 [(Ax.AV.int .i64 (Ax.I.lit 0)), (Ax.AV.int .i64 (Ax.I.lit 0)), (Ax.AV.int .i64 (Ax.I.lit 0))])))[0]?) fun x_3 =>
      Option.bind (asI .i64 ((List.drop 1 (List.drop 0 (Ax.write cells_1 0 [(Ax.AV.int .i64 (Ax.I.lit 0)), (Ax.AV.int .i64 (Ax.I.lit 0)), (Ax.AV.int .i64 (Ax.I.lit 0))]))))[0]?) fun x_4 =>
      Option.bind (asI .i64 ((List.drop 1 (List.drop 1 (List.drop 0 (Ax.write cells_1 0 [(Ax.AV.int .i64 (Ax.I.lit 0)), (Ax.AV.int .i64 (Ax.I.lit 0)), (Ax.AV.int .i64 (Ax.I.lit 0))])))))[0]?) fun x_5 =>
      some [(.i x_3), (.i x_4), (.i x_5), (.b false)]) else none) else
     (Option.bind (asI .i64 ((List.drop 0 cells_1))[0]?) fun x_6 =>
      Option.bind (asI .i64 ((List.drop 1 (List.drop 0 cells_1)))[0]?) fun x_7 =>
      Option.bind (asI .i64 ((List.drop 1 (List.drop 1 (List.drop 0 cells_1))))[0]?) fun x_8 =>
      bif (decide (3 ≤ (cells_1).length)) then (bif (decide (([(Ax.AV.int .i64 (Ax.I.sym x_6)), (Ax.AV.int .i64 (Ax.I.sym x_7)), (Ax.AV.int .i64 (Ax.I.sym x_8))]).length = 3)) then (Option.bind (asI .i64 ((List.drop 0 (Ax.write cells_1 0 [(Ax.AV.int .i64 (Ax.I.sym x_6)), (Ax.AV.int .i64 (Ax.I.sym x_7)), (Ax.AV.int .i64 (Ax.I.sym x_8))])))[0]?) fun x_9 =>
      Option.bind (asI .i64 ((List.drop 1 (List.drop 0 (Ax.write cells_1 0 [(Ax.AV.int .i64 (Ax.I.sym x_6)), (Ax.AV.int .i64 (Ax.I.sym x_7)), (Ax.AV.int .i64 (Ax.I.sym x_8))]))))[0]?) fun x_10 =>
      Option.bind (asI .i64 ((List.drop 1 (List.drop 1 (List.drop 0 (Ax.write cells_1 0 [(Ax.AV.int .i64 (Ax.I.sym x_6)), (Ax.AV.int .i64 (Ax.I.sym x_7)), (Ax.AV.int .i64 (Ax.I.sym x_8))])))))[0]?) fun x_11 =>
      some [(.i x_9), (.i x_10), (.i x_11), (.b true)]) else none) else none))) else
   (bif (List.all cells_1 (Ax.closedN 20)) then (iter (F_offset_split_L2 i_0 c_3) [(.i 0), (.i (i64 (c_3 + 1))), (.s c_2), (.l cells_1)]) else
    (none))) else none) else
  (Option.map .inr (bif (!decide (c_3 = (((c_2).length : Nat) : Int))) then (bif (decide (3 ≤ (cells_1).length)) then (Option.bind (asI .i64 ((List.drop 0 (Ax.write cells_1 0 [(Ax.AV.int .i64 (Ax.I.lit 0)), (Ax.AV.int .i64 (Ax.I.lit 0)), (Ax.AV.int .i64 (Ax.I.lit 0))])))[0]?) fun x_16 =>
     Option.bind (asI .i64 ((List.drop 1 (List.drop 0 (Ax.write cells_1 0 [(Ax.AV.int .i64 (Ax.I.lit 0)), (Ax.AV.int .i64 (Ax.I.lit 0)), (Ax.AV.int .i64 (Ax.I.lit 0))]))))[0]?) fun x_17 =>
     Option.bind (asI .i64 ((List.drop 1 (List.drop 1 (List.drop 0 (Ax.write cells_1 0 [(Ax.AV.int .i64 (Ax.I.lit 0)), (Ax.AV.int .i64 (Ax.I.lit 0)), (Ax.AV.int .i64 (Ax.I.lit 0))])))))[0]?) fun x_18 =>
     some [(.i x_16), (.i x_17), (.i x_18), (.b false)]) else none) else
    (Option.bind (asI .i64 ((List.drop 0 cells_1))[0]?) fun x_19 =>
     Option.bind (asI .i64 ((List.drop 1 (List.drop 0 cells_1)))[0]?) fun x_20 =>
     Option.bind (asI .i64 ((List.drop 1 (List.drop 1 (List.drop 0 cells_1))))[0]?) fun x_21 =>
     bif (decide (3 ≤ (cells_1).length)) then (bif (decide (([(Ax.AV.int .i64 (Ax.I.sym x_19)), (Ax.AV.int .i64 (Ax.I.sym x_20)), (Ax.AV.int .i64 (Ax.I.sym x_21))]).length = 3)) then (Option.bind (asI .i64 ((List.drop 0 (Ax.write cells_1 0 [(Ax.AV.int .i64 (Ax.I.sym x_19)), (Ax.AV.int .i64 (Ax.I.sym x_20)), (Ax.AV.int .i64 (Ax.I.sym x_21))])))[0]?) fun x_22 =>
     Option.bind (asI .i64 ((List.drop 1 (List.drop 0 (Ax.write cells_1 0 [(Ax.AV.int .i64 (Ax.I.sym x_19)), (Ax.AV.int .i64 (Ax.I.sym x_20)), (Ax.AV.int .i64 (Ax.I.sym x_21))]))))[0]?) fun x_23 =>
     Option.bind (asI .i64 ((List.drop 1 (List.drop 1 (List.drop 0 (Ax.write cells_1 0 [(Ax.AV.int .i64 (Ax.I.sym x_19)), (Ax.AV.int .i64 (Ax.I.sym x_20)), (Ax.AV.int .i64 (Ax.I.sym x_21))])))))[0]?) fun x_24 =>
     some [(.i x_22), (.i x_23), (.i x_24), (.b true)]) else none) else none)))
noncomputable def F_offset_split_L0 : List Dat → Option (List Dat ⊕ List Dat) := fun ds_2 =>
  onI ds_2 fun n_0 ds_3 =>
  onI ds_3 fun c_0 ds_4 =>
  onS ds_4 fun c_1 ds_5 =>
  onL ds_5 fun cells_0 ds_6 =>
  Option.bind (bif (decide (c_0 < (((c_1).length : Nat) : Int))) then (bif (decide ((0 ≤ c_0) ∧ (c_0 < (((c_1).length : Nat) : Int)))) then (bif (decide (48 ≤ ((((List.getD c_1 (c_0).toNat 0)).toNat : Nat) : Int))) then (bif (decide ((0 ≤ c_0) ∧ (c_0 < (((c_1).length : Nat) : Int)))) then (bif (decide (((((List.getD c_1 (c_0).toNat 0)).toNat : Nat) : Int) ≤ 57)) then (some true) else
     (some false)) else none) else
    (some false)) else none) else
   (some false)) fun b_0 =>
  bif b_0 then (bif (decide ((0 ≤ c_0) ∧ (c_0 < (((c_1).length : Nat) : Int)))) then (bif (List.all cells_0 (Ax.closedN 20)) then (some (.inl [(.i (if 1000 < (i64 ((i64 (10 * n_0)) + (i64 (u8 (((((List.getD c_1 (c_0).toNat 0)).toNat : Nat) : Int) - 48))))) then 1000 else (i64 ((i64 (10 * n_0)) + (i64 (u8 (((((List.getD c_1 (c_0).toNat 0)).toNat : Nat) : Int) - 48))))))), (.i (i64 (c_0 + 1))), (.s c_1), (.l cells_0)])) else
   (none)) else none) else
  (Option.map .inr (bif (decide (1 ≤ (cells_0).length)) then (bif (decide (([(Ax.AV.int .i64 (Ax.I.sym n_0))]).length = 1)) then (Option.bind (bif (decide (c_0 < 1)) then (some true) else
     (bif (decide (3 < c_0)) then (some true) else
      (bif (decide (1 < c_0)) then (bif (decide (((0 : Int) ≤ 0) ∧ (0 < (((c_1).length : Nat) : Int)))) then (bif (decide (((((List.getD c_1 0 0)).toNat : Nat) : Int) = 48)) then (some true) else
        (some false)) else none) else
       (some false)))) fun b_1 =>
    bif b_1 then (bif (decide (3 ≤ ((Ax.write cells_0 0 [(Ax.AV.int .i64 (Ax.I.sym n_0))])).length)) then (Option.bind (asI .i64 ((List.drop 0 (Ax.write (Ax.write cells_0 0 [(Ax.AV.int .i64 (Ax.I.sym n_0))]) 0 [(Ax.AV.int .i64 (Ax.I.lit 0)), (Ax.AV.int .i64 (Ax.I.lit 0)), (Ax.AV.int .i64 (Ax.I.lit 0))])))[0]?) fun x_0 =>
     Option.bind (asI .i64 ((List.drop 1 (List.drop 0 (Ax.write (Ax.write cells_0 0 [(Ax.AV.int .i64 (Ax.I.sym n_0))]) 0 [(Ax.AV.int .i64 (Ax.I.lit 0)), (Ax.AV.int .i64 (Ax.I.lit 0)), (Ax.AV.int .i64 (Ax.I.lit 0))]))))[0]?) fun x_1 =>
     Option.bind (asI .i64 ((List.drop 1 (List.drop 1 (List.drop 0 (Ax.write (Ax.write cells_0 0 [(Ax.AV.int .i64 (Ax.I.sym n_0))]) 0 [(Ax.AV.int .i64 (Ax.I.lit 0)), (Ax.AV.int .i64 (Ax.I.lit 0)), (Ax.AV.int .i64 (Ax.I.lit 0))])))))[0]?) fun x_2 =>
     some [(.i x_0), (.i x_1), (.i x_2), (.b false)]) else none) else
    (bif (List.all (Ax.write cells_0 0 [(Ax.AV.int .i64 (Ax.I.sym n_0))]) (Ax.closedN 20)) then (iter F_offset_split_L1 [(.i 1), (.s c_1), (.l (Ax.write cells_0 0 [(Ax.AV.int .i64 (Ax.I.sym n_0))])), (.i c_0)]) else
     (none))) else none) else none))
noncomputable def F_offset_split : List Dat → Option (List Dat) := fun ds_0 =>
  onS ds_0 fun s_0 ds_1 =>
  iter F_offset_split_L0 [(.i 0), (.i 0), (.s s_0), (.l [(Ax.AV.int .i64 (Ax.I.lit 0)), (Ax.AV.int .i64 (Ax.I.lit 0)), (Ax.AV.int .i64 (Ax.I.lit 0))])]
noncomputable def F_offset_Parse : List Dat → Option (List Dat) := fun ds_0 =>
  onS ds_0 fun s_0 ds_1 =>
  Option.bind (F_strings_CutPrefix [(.s s_0), (.s ([45] : List UInt8))]) fun r_0 =>
  onS r_0 fun s_1 ds_2 =>
  onB ds_2 fun b_0 ds_3 =>
  Option.bind (F_offset_split [(.s s_1)]) fun r_1 =>
  onI r_1 fun i_0 ds_4 =>
  onI ds_4 fun i_1 ds_5 =>
  onI ds_5 fun i_2 ds_6 =>
  onB ds_6 fun b_1 ds_7 =>
  bif (!b_1) then (some [(.i 0), (.i 5)]) else
  (bif b_0 then (bif (decide ((i64 ((i64 ((i64 (0 + (i64 (i_0 * 3600)))) + (i64 (i_1 * 60)))) + (i64 (i_2 * 1)))) = 0)) then (some [(.i 0), (.i 5)]) else
    (Option.bind (bif (decide ((i64 (0 - (i64 ((i64 ((i64 (0 + (i64 (i_0 * 3600)))) + (i64 (i_1 * 60)))) + (i64 (i_2 * 1)))))) < (-604799))) then (some true) else
      (bif (decide (604799 < (i64 (0 - (i64 ((i64 ((i64 (0 + (i64 (i_0 * 3600)))) + (i64 (i_1 * 60)))) + (i64 (i_2 * 1)))))))) then (some true) else
       (some false))) fun b_2 =>
     bif b_2 then (some [(.i 0), (.i 3)]) else
     (some [(.i (i64 (0 - (i64 ((i64 ((i64 (0 + (i64 (i_0 * 3600)))) + (i64 (i_1 * 60)))) + (i64 (i_2 * 1))))))), (.i 0)]))) else
   (Option.bind (bif (decide ((i64 ((i64 ((i64 (0 + (i64 (i_0 * 3600)))) + (i64 (i_1 * 60)))) + (i64 (i_2 * 1)))) < (-604799))) then (some true) else
     (bif (decide (604799 < (i64 ((i64 ((i64 (0 + (i64 (i_0 * 3600)))) + (i64 (i_1 * 60)))) + (i64 (i_2 * 1)))))) then (some true) else
      (some false))) fun b_3 =>
    bif b_3 then (some [(.i 0), (.i 3)]) else
    (some [(.i (i64 ((i64 ((i64 (0 + (i64 (i_0 * 3600)))) + (i64 (i_1 * 60)))) + (i64 (i_2 * 1))))), (.i 0)])))
noncomputable def F_clock_Parse : List Dat → Option (List Dat) := fun ds_0 =>
  onS ds_0 fun s_0 ds_1 =>
  bif (!(s_0 == ([] : List UInt8))) then (bif (decide ((0 ≤ (i64 ((((s_0).length : Nat) : Int) - 1))) ∧ ((i64 ((((s_0).length : Nat) : Int) - 1)) < (((s_0).length : Nat) : Int)))) then (Option.bind (clockFind [(.i ((((List.getD s_0 ((i64 ((((s_0).length : Nat) : Int) - 1))).toNat 0)).toNat : Nat) : Int))]) fun r_0 =>
   onI r_0 fun i_0 ds_2 =>
   onB ds_2 fun b_0 ds_3 =>
   bif b_0 then (bif (decide ((0 ≤ (i64 ((((s_0).length : Nat) : Int) - 1))) ∧ ((i64 ((((s_0).length : Nat) : Int) - 1)) ≤ (((s_0).length : Nat) : Int)))) then (Option.bind (F_offset_Parse [(.s (List.take ((i64 ((((s_0).length : Nat) : Int) - 1))).toNat (List.drop 0 s_0)))]) fun r_1 =>
    onI r_1 fun i_1 ds_4 =>
    onI ds_4 fun i_2 ds_5 =>
    bif (!decide (i_2 = 0)) then (some [(.i 0), (.i 0), (.i i_2)]) else
    (some [(.i i_1), (.i i_0), (.i 0)])) else none) else
   (Option.bind (F_offset_Parse [(.s s_0)]) fun r_2 =>
    onI r_2 fun i_3 ds_6 =>
    onI ds_6 fun i_4 ds_7 =>
    bif (!decide (i_4 = 0)) then (some [(.i 0), (.i 0), (.i i_4)]) else
    (some [(.i i_3), (.i 0), (.i 0)]))) else none) else
  (Option.bind (F_offset_Parse [(.s s_0)]) fun r_3 =>
   onI r_3 fun i_5 ds_8 =>
   onI ds_8 fun i_6 ds_9 =>
   bif (!decide (i_6 = 0)) then (some [(.i 0), (.i 0), (.i i_6)]) else
   (some [(.i i_5), (.i 0), (.i 0)]))
noncomputable def F_law06_reads : List Dat → Option (List Dat) := fun ds_0 =>
  onS ds_0 fun s_0 ds_1 =>
  onI ds_1 fun sec_0 ds_2 =>
  onI ds_2 fun base_0 ds_3 =>
  Option.bind (F_clock_Parse [(.s s_0)]) fun r_0 =>
  onI r_0 fun i_0 ds_4 =>
  onI ds_4 fun i_1 ds_5 =>
  onI ds_5 fun i_2 ds_6 =>
  Option.bind (bif (decide (i_2 = 0)) then (bif ((decide (i_0 = sec_0)) && ((decide (i_1 = base_0)) && true)) then (some true) else
    (some false)) else
   (some false)) fun b_0 =>
  some [(.b b_0)]
noncomputable def F_law06_fails : List Dat → Option (List Dat) := fun ds_0 =>
  onS ds_0 fun s_0 ds_1 =>
  onI ds_1 fun want_0 ds_2 =>
  Option.bind (F_clock_Parse [(.s s_0)]) fun r_0 =>
  onI r_0 fun i_0 ds_3 =>
  onI ds_3 fun i_1 ds_4 =>
  onI ds_4 fun i_2 ds_5 =>
  Option.bind (bif ((decide (i_0 = 0)) && ((decide (i_1 = 0)) && true)) then (bif (decide (i_2 = want_0)) then (some true) else
    (some false)) else
   (some false)) fun b_0 =>
  some [(.b b_0)]
noncomputable def F_clock_Check : List Dat → Option (List Dat) := fun ds_0 =>
  onI ds_0 fun c_0 ds_1 =>
  onI ds_1 fun c_1 ds_2 =>
  Option.bind (bif (decide (c_0 < (-604799))) then (some true) else
   (bif (decide (604799 < c_0)) then (some true) else
    (bif (decide (c_1 < 0)) then (some true) else
     (bif (decide (2 < c_1)) then (some true) else
      (some false))))) fun b_0 =>
  bif b_0 then (some [(.i 2)]) else
  (some [(.i 0)])
noncomputable def F_offset_two : List Dat → Option (List Dat) := fun ds_0 =>
  onI ds_0 fun n_0 ds_1 =>
  Option.bind (Ax.formatInt [(.i (i64 (Int.tdiv n_0 10)))]) fun r_0 =>
  onS r_0 fun s_0 ds_2 =>
  bif (decide ((1 + (s_0).length) ≤ 9223372036854775807)) then (Option.bind (Ax.formatInt [(.i (Int.tmod n_0 10))]) fun r_1 =>
  onS r_1 fun s_1 ds_3 =>
  bif (decide ((((([58] : List UInt8) ++ s_0)).length + (s_1).length) ≤ 9223372036854775807)) then (some [(.s ((([58] : List UInt8) ++ s_0) ++ s_1))]) else none) else none
noncomputable def F_offset_Print : List Dat → Option (List Dat) := fun ds_0 =>
  onI ds_0 fun x_0 ds_1 =>
  Option.bind (bif (decide (x_0 < (-604799))) then (some true) else
   (bif (decide (604799 < x_0)) then (some true) else
    (some false))) fun b_0 =>
  bif b_0 then (some [(.s ([] : List UInt8)), (.i 3)]) else
  (bif (decide (x_0 < 0)) then (Option.bind (Ax.formatInt [(.i (i64 (Int.tdiv (i64 (0 - x_0)) 3600)))]) fun r_0 =>
    onS r_0 fun s_0 ds_2 =>
    bif (decide ((1 + (s_0).length) ≤ 9223372036854775807)) then (Option.bind (F_offset_two [(.i (Int.tmod (i64 (Int.tdiv (i64 (0 - x_0)) 60)) 60))]) fun r_1 =>
    onS r_1 fun s_1 ds_3 =>
    bif (decide ((((([45] : List UInt8) ++ s_0)).length + (s_1).length) ≤ 9223372036854775807)) then (bif (!decide ((Int.tmod (i64 (0 - x_0)) 60) = 0)) then (Option.bind (F_offset_two [(.i (Int.tmod (i64 (0 - x_0)) 60))]) fun r_2 =>
     onS r_2 fun s_2 ds_4 =>
     bif (decide (((((([45] : List UInt8) ++ s_0) ++ s_1)).length + (s_2).length) ≤ 9223372036854775807)) then (some [(.s (((([45] : List UInt8) ++ s_0) ++ s_1) ++ s_2)), (.i 0)]) else none) else
    (some [(.s ((([45] : List UInt8) ++ s_0) ++ s_1)), (.i 0)])) else none) else none) else
   (Option.bind (Ax.formatInt [(.i (i64 (Int.tdiv x_0 3600)))]) fun r_3 =>
    onS r_3 fun s_3 ds_5 =>
    bif (decide ((0 + (s_3).length) ≤ 9223372036854775807)) then (Option.bind (F_offset_two [(.i (Int.tmod (i64 (Int.tdiv x_0 60)) 60))]) fun r_4 =>
    onS r_4 fun s_4 ds_6 =>
    bif (decide ((((([] : List UInt8) ++ s_3)).length + (s_4).length) ≤ 9223372036854775807)) then (bif (!decide ((Int.tmod x_0 60) = 0)) then (Option.bind (F_offset_two [(.i (Int.tmod x_0 60))]) fun r_5 =>
     onS r_5 fun s_5 ds_7 =>
     bif (decide (((((([] : List UInt8) ++ s_3) ++ s_4)).length + (s_5).length) ≤ 9223372036854775807)) then (some [(.s (((([] : List UInt8) ++ s_3) ++ s_4) ++ s_5)), (.i 0)]) else none) else
    (some [(.s ((([] : List UInt8) ++ s_3) ++ s_4)), (.i 0)])) else none) else none))
noncomputable def F_clock_Print : List Dat → Option (List Dat) := fun ds_0 =>
  onI ds_0 fun c_0 ds_1 =>
  onI ds_1 fun c_1 ds_2 =>
  Option.bind (F_clock_Check [(.i c_0), (.i c_1)]) fun r_0 =>
  onI r_0 fun i_0 ds_3 =>
  bif (!decide (i_0 = 0)) then (some [(.s ([] : List UInt8)), (.i 2)]) else
  (Option.bind (F_offset_Print [(.i c_0)]) fun r_1 =>
   onS r_1 fun s_0 ds_4 =>
   onI ds_4 fun i_1 ds_5 =>
   bif (!decide (i_1 = 0)) then (some [(.s ([] : List UInt8)), (.i 2)]) else
   (bif (decide ((0 ≤ c_1) ∧ (c_1 < 3))) then (Option.bind (asS ([(Ax.AV.str (Ax.S.lit ([119] : List UInt8))), (Ax.AV.str (Ax.S.lit ([115] : List UInt8))), (Ax.AV.str (Ax.S.lit ([103, 122, 117] : List UInt8)))])[(c_1).toNat]?) fun s_1 =>
    bif (!decide (c_1 = 0)) then (bif (decide ((0 ≤ (i64 ((((s_1).length : Nat) : Int) - 1))) ∧ ((i64 ((((s_1).length : Nat) : Int) - 1)) ≤ (((s_1).length : Nat) : Int)))) then (bif (decide (((s_0).length + ((List.take ((s_1).length - ((i64 ((((s_1).length : Nat) : Int) - 1))).toNat) (List.drop ((i64 ((((s_1).length : Nat) : Int) - 1))).toNat s_1))).length) ≤ 9223372036854775807)) then (some [(.s (s_0 ++ (List.take ((s_1).length - ((i64 ((((s_1).length : Nat) : Int) - 1))).toNat) (List.drop ((i64 ((((s_1).length : Nat) : Int) - 1))).toNat s_1)))), (.i 0)]) else none) else none) else
    (some [(.s s_0), (.i 0)])) else none))
noncomputable def F_law06_prints : List Dat → Option (List Dat) := fun ds_0 =>
  onI ds_0 fun sec_0 ds_1 =>
  onI ds_1 fun base_0 ds_2 =>
  onS ds_2 fun want_0 ds_3 =>
  Option.bind (F_clock_Print [(.i sec_0), (.i base_0)]) fun r_0 =>
  onS r_0 fun s_0 ds_4 =>
  onI ds_4 fun i_0 ds_5 =>
  Option.bind (bif (s_0 == want_0) then (bif (decide (i_0 = 0)) then (bif (!(want_0 == ([] : List UInt8))) then (bif (decide (i_0 = 0)) then (some true) else
      (bif (decide (i_0 = 2)) then (some true) else
       (some false))) else
     (some false)) else
    (bif (!(want_0 == ([] : List UInt8))) then (some false) else
     (bif (decide (i_0 = 0)) then (some true) else
      (bif (decide (i_0 = 2)) then (some true) else
       (some false))))) else
   (some false)) fun b_0 =>
  some [(.b b_0)]
noncomputable def F_law06_works : List Dat → Option (List Dat) := fun _ => some [.b true]
noncomputable def F_ref06_base : List Dat → Option (List Dat) := fun ds_0 =>
  onI ds_0 fun c_0 ds_1 =>
  bif (decide (c_0 = 119)) then (some [(.i 0)]) else
  (bif (decide (c_0 = 115)) then (some [(.i 1)]) else
   (bif (decide (c_0 = 117)) then (some [(.i 2)]) else
    (bif (decide (c_0 = 103)) then (some [(.i 2)]) else
     (Option.bind (bif (decide (c_0 = 122)) then (some true) else
       (some false)) fun b_0 =>
      bif b_0 then (some [(.i 2)]) else
      (some [(.i (-1))])))))
noncomputable def F_ref04_digit : List Dat → Option (List Dat) := fun ds_0 =>
  onI ds_0 fun c_0 ds_1 =>
  Option.bind (bif (decide (c_0 < 48)) then (some true) else
   (bif (decide (57 < c_0)) then (some true) else
    (some false))) fun b_0 =>
  bif b_0 then (some [(.i (-1))]) else
  (some [(.i (i64 (u8 (c_0 - 48))))])
noncomputable def F_ref04_pair : List Dat → Option (List Dat) := fun ds_0 =>
  onS ds_0 fun s_0 ds_1 =>
  onI ds_1 fun at_0 ds_2 =>
  bif (decide ((((s_0).length : Nat) : Int) < (i64 (at_0 + 2)))) then (some [(.i (-1))]) else
  (bif (decide ((0 ≤ at_0) ∧ (at_0 < (((s_0).length : Nat) : Int)))) then (Option.bind (F_ref04_digit [(.i ((((List.getD s_0 (at_0).toNat 0)).toNat : Nat) : Int))]) fun r_0 =>
   onI r_0 fun i_0 ds_3 =>
   bif (decide (i_0 < 0)) then (some [(.i (-1))]) else
   (bif (decide ((0 ≤ (i64 (at_0 + 1))) ∧ ((i64 (at_0 + 1)) < (((s_0).length : Nat) : Int)))) then (Option.bind (F_ref04_digit [(.i ((((List.getD s_0 ((i64 (at_0 + 1))).toNat 0)).toNat : Nat) : Int))]) fun r_1 =>
    onI r_1 fun i_1 ds_4 =>
    bif (decide (i_1 < 0)) then (some [(.i (-1))]) else
    (bif (decide ((0 ≤ at_0) ∧ (at_0 < (((s_0).length : Nat) : Int)))) then (Option.bind (F_ref04_digit [(.i ((((List.getD s_0 (at_0).toNat 0)).toNat : Nat) : Int))]) fun r_2 =>
     onI r_2 fun i_2 ds_5 =>
     bif (decide (5 < i_2)) then (some [(.i (-1))]) else
     (bif (decide ((0 ≤ at_0) ∧ (at_0 < (((s_0).length : Nat) : Int)))) then (Option.bind (F_ref04_digit [(.i ((((List.getD s_0 (at_0).toNat 0)).toNat : Nat) : Int))]) fun r_3 =>
      onI r_3 fun i_3 ds_6 =>
      bif (decide ((0 ≤ (i64 (at_0 + 1))) ∧ ((i64 (at_0 + 1)) < (((s_0).length : Nat) : Int)))) then (Option.bind (F_ref04_digit [(.i ((((List.getD s_0 ((i64 (at_0 + 1))).toNat 0)).toNat : Nat) : Int))]) fun r_4 =>
      onI r_4 fun i_4 ds_7 =>
      some [(.i (i64 ((i64 (10 * i_3)) + i_4)))]) else none) else none)) else none)) else none)) else none)
noncomputable def F_ref04_form_L0 : List Dat → Option (List Dat ⊕ List Dat) := fun ds_2 =>
  onS ds_2 fun s_1 ds_3 =>
  onI ds_3 fun n_0 ds_4 =>
  onI ds_4 fun hours_0 ds_5 =>
  bif (decide (n_0 < (((s_1).length : Nat) : Int))) then (bif (decide ((0 ≤ n_0) ∧ (n_0 < (((s_1).length : Nat) : Int)))) then (Option.bind (F_ref04_digit [(.i ((((List.getD s_1 (n_0).toNat 0)).toNat : Nat) : Int))]) fun r_0 =>
   onI r_0 fun i_0 ds_6 =>
   bif (decide (0 ≤ i_0)) then (bif (decide ((0 ≤ n_0) ∧ (n_0 < (((s_1).length : Nat) : Int)))) then (Option.bind (F_ref04_digit [(.i ((((List.getD s_1 (n_0).toNat 0)).toNat : Nat) : Int))]) fun r_1 =>
    onI r_1 fun i_1 ds_7 =>
    bif (decide (3 < (i64 (n_0 + 1)))) then (Option.map .inr (some [(.i 0), (.b false)])) else
    (some (.inl [(.s s_1), (.i (i64 (n_0 + 1))), (.i (i64 ((i64 (10 * hours_0)) + i_1)))]))) else none) else
   (Option.map .inr (Option.bind (bif (decide (n_0 = 0)) then (some true) else
      (bif (decide (1 < n_0)) then (bif (decide (((0 : Int) ≤ 0) ∧ (0 < (((s_1).length : Nat) : Int)))) then (bif (decide (((((List.getD s_1 0 0)).toNat : Nat) : Int) = 48)) then (some true) else
        (some false)) else none) else
       (some false))) fun b_0 =>
     bif b_0 then (some [(.i 0), (.b false)]) else
     (bif (decide ((((s_1).length : Nat) : Int) = n_0)) then (some [(.i (i64 (3600 * hours_0))), (.b true)]) else
      (Option.bind (F_ref04_pair [(.s s_1), (.i (i64 (n_0 + 1)))]) fun r_2 =>
       onI r_2 fun i_2 ds_8 =>
       Option.bind (bif (decide ((0 ≤ n_0) ∧ (n_0 < (((s_1).length : Nat) : Int)))) then (bif (!decide (((((List.getD s_1 (n_0).toNat 0)).toNat : Nat) : Int) = 58)) then (some true) else
        (bif (decide (i_2 < 0)) then (some true) else
         (some false))) else none) fun b_1 =>
       bif b_1 then (some [(.i 0), (.b false)]) else
       (bif (decide ((((s_1).length : Nat) : Int) = (i64 (n_0 + 3)))) then (some [(.i (i64 ((i64 (3600 * hours_0)) + (i64 (60 * i_2))))), (.b true)]) else
        (Option.bind (F_ref04_pair [(.s s_1), (.i (i64 (n_0 + 4)))]) fun r_3 =>
         onI r_3 fun i_3 ds_9 =>
         Option.bind (bif (decide ((0 ≤ (i64 (n_0 + 3))) ∧ ((i64 (n_0 + 3)) < (((s_1).length : Nat) : Int)))) then (bif (!decide (((((List.getD s_1 ((i64 (n_0 + 3))).toNat 0)).toNat : Nat) : Int) = 58)) then (some true) else
          (bif (decide (i_3 < 0)) then (some true) else
           (bif (!decide ((((s_1).length : Nat) : Int) = (i64 (n_0 + 6)))) then (some true) else
            (some false)))) else none) fun b_2 =>
         bif b_2 then (some [(.i 0), (.b false)]) else
         (some [(.i (i64 ((i64 ((i64 (3600 * hours_0)) + (i64 (60 * i_2)))) + i_3))), (.b true)])))))))) else none) else
  (Option.map .inr (Option.bind (bif (decide (n_0 = 0)) then (some true) else
     (bif (decide (1 < n_0)) then (bif (decide (((0 : Int) ≤ 0) ∧ (0 < (((s_1).length : Nat) : Int)))) then (bif (decide (((((List.getD s_1 0 0)).toNat : Nat) : Int) = 48)) then (some true) else
       (some false)) else none) else
      (some false))) fun b_3 =>
    bif b_3 then (some [(.i 0), (.b false)]) else
    (bif (decide ((((s_1).length : Nat) : Int) = n_0)) then (some [(.i (i64 (3600 * hours_0))), (.b true)]) else
     (Option.bind (F_ref04_pair [(.s s_1), (.i (i64 (n_0 + 1)))]) fun r_4 =>
      onI r_4 fun i_4 ds_10 =>
      Option.bind (bif (decide ((0 ≤ n_0) ∧ (n_0 < (((s_1).length : Nat) : Int)))) then (bif (!decide (((((List.getD s_1 (n_0).toNat 0)).toNat : Nat) : Int) = 58)) then (some true) else
       (bif (decide (i_4 < 0)) then (some true) else
        (some false))) else none) fun b_4 =>
      bif b_4 then (some [(.i 0), (.b false)]) else
      (bif (decide ((((s_1).length : Nat) : Int) = (i64 (n_0 + 3)))) then (some [(.i (i64 ((i64 (3600 * hours_0)) + (i64 (60 * i_4))))), (.b true)]) else
       (Option.bind (F_ref04_pair [(.s s_1), (.i (i64 (n_0 + 4)))]) fun r_5 =>
        onI r_5 fun i_5 ds_11 =>
        Option.bind (bif (decide ((0 ≤ (i64 (n_0 + 3))) ∧ ((i64 (n_0 + 3)) < (((s_1).length : Nat) : Int)))) then (bif (!decide (((((List.getD s_1 ((i64 (n_0 + 3))).toNat 0)).toNat : Nat) : Int) = 58)) then (some true) else
         (bif (decide (i_5 < 0)) then (some true) else
          (bif (!decide ((((s_1).length : Nat) : Int) = (i64 (n_0 + 6)))) then (some true) else
           (some false)))) else none) fun b_5 =>
        bif b_5 then (some [(.i 0), (.b false)]) else
        (some [(.i (i64 ((i64 ((i64 (3600 * hours_0)) + (i64 (60 * i_4)))) + i_5))), (.b true)])))))))
noncomputable def F_ref04_form : List Dat → Option (List Dat) := fun ds_0 =>
  onS ds_0 fun s_0 ds_1 =>
  iter F_ref04_form_L0 [(.s s_0), (.i 0), (.i 0)]
noncomputable def F_ref04_Parse : List Dat → Option (List Dat) := fun ds_0 =>
  onS ds_0 fun s_0 ds_1 =>
  Option.bind (bif (decide (0 < (((s_0).length : Nat) : Int))) then (bif (decide (((0 : Int) ≤ 0) ∧ (0 < (((s_0).length : Nat) : Int)))) then (bif (decide (((((List.getD s_0 0 0)).toNat : Nat) : Int) = 45)) then (some true) else
    (some false)) else none) else
   (some false)) fun b_0 =>
  bif b_0 then (bif (decide (((0 : Int) ≤ 1) ∧ (1 ≤ (((s_0).length : Nat) : Int)))) then (Option.bind (F_ref04_form [(.s (List.take ((s_0).length - 1) (List.drop 1 s_0)))]) fun r_0 =>
   onI r_0 fun i_0 ds_2 =>
   onB ds_2 fun b_1 ds_3 =>
   Option.bind (bif (!b_1) then (some true) else
    (bif b_0 then (bif (decide (i_0 = 0)) then (some true) else
      (some false)) else
     (some false))) fun b_2 =>
   bif b_2 then (some [(.i 0), (.i 5)]) else
   (bif (decide (604799 < i_0)) then (some [(.i 0), (.i 3)]) else
    (bif b_0 then (some [(.i (i64 (0 - i_0))), (.i 0)]) else
     (some [(.i i_0), (.i 0)])))) else none) else
  (Option.bind (F_ref04_form [(.s s_0)]) fun r_1 =>
   onI r_1 fun i_1 ds_4 =>
   onB ds_4 fun b_3 ds_5 =>
   Option.bind (bif (!b_3) then (some true) else
    (bif b_0 then (bif (decide (i_1 = 0)) then (some true) else
      (some false)) else
     (some false))) fun b_4 =>
   bif b_4 then (some [(.i 0), (.i 5)]) else
   (bif (decide (604799 < i_1)) then (some [(.i 0), (.i 3)]) else
    (bif b_0 then (some [(.i (i64 (0 - i_1))), (.i 0)]) else
     (some [(.i i_1), (.i 0)]))))
noncomputable def F_ref06_Parse : List Dat → Option (List Dat) := fun ds_0 =>
  onS ds_0 fun s_0 ds_1 =>
  bif (decide (0 < (((s_0).length : Nat) : Int))) then (bif (decide ((0 ≤ (i64 ((((s_0).length : Nat) : Int) - 1))) ∧ ((i64 ((((s_0).length : Nat) : Int) - 1)) < (((s_0).length : Nat) : Int)))) then (Option.bind (F_ref06_base [(.i ((((List.getD s_0 ((i64 ((((s_0).length : Nat) : Int) - 1))).toNat 0)).toNat : Nat) : Int))]) fun r_0 =>
   onI r_0 fun i_0 ds_2 =>
   bif (decide (0 ≤ i_0)) then (bif (decide ((0 ≤ (i64 ((((s_0).length : Nat) : Int) - 1))) ∧ ((i64 ((((s_0).length : Nat) : Int) - 1)) < (((s_0).length : Nat) : Int)))) then (Option.bind (F_ref06_base [(.i ((((List.getD s_0 ((i64 ((((s_0).length : Nat) : Int) - 1))).toNat 0)).toNat : Nat) : Int))]) fun r_1 =>
    onI r_1 fun i_1 ds_3 =>
    bif (decide ((0 ≤ (i64 ((((s_0).length : Nat) : Int) - 1))) ∧ ((i64 ((((s_0).length : Nat) : Int) - 1)) ≤ (((s_0).length : Nat) : Int)))) then (Option.bind (F_ref04_Parse [(.s (List.take ((i64 ((((s_0).length : Nat) : Int) - 1))).toNat (List.drop 0 s_0)))]) fun r_2 =>
    onI r_2 fun i_2 ds_4 =>
    onI ds_4 fun i_3 ds_5 =>
    bif (!decide (i_3 = 0)) then (some [(.i 0), (.i 0), (.i i_3)]) else
    (some [(.i i_2), (.i i_1), (.i 0)])) else none) else none) else
   (Option.bind (F_ref04_Parse [(.s s_0)]) fun r_3 =>
    onI r_3 fun i_4 ds_6 =>
    onI ds_6 fun i_5 ds_7 =>
    bif (!decide (i_5 = 0)) then (some [(.i 0), (.i 0), (.i i_5)]) else
    (some [(.i i_4), (.i 0), (.i 0)]))) else none) else
  (Option.bind (F_ref04_Parse [(.s s_0)]) fun r_4 =>
   onI r_4 fun i_6 ds_8 =>
   onI ds_8 fun i_7 ds_9 =>
   bif (!decide (i_7 = 0)) then (some [(.i 0), (.i 0), (.i i_7)]) else
   (some [(.i i_6), (.i 0), (.i 0)]))
noncomputable def F_law06_ClockStrings : List Dat → Option (List Dat) := fun ds_0 =>
  onS ds_0 fun s_0 ds_1 =>
  bif (decide (1000 < (((s_0).length : Nat) : Int))) then (Option.bind (F_law06_works []) fun r_0 =>
   onB r_0 fun b_0 ds_2 =>
   some [(.b b_0)]) else
  (Option.bind (F_clock_Parse [(.s s_0)]) fun r_1 =>
   onI r_1 fun i_0 ds_3 =>
   onI ds_3 fun i_1 ds_4 =>
   onI ds_4 fun i_2 ds_5 =>
   Option.bind (F_ref06_Parse [(.s s_0)]) fun r_2 =>
   onI r_2 fun i_3 ds_6 =>
   onI ds_6 fun i_4 ds_7 =>
   onI ds_7 fun i_5 ds_8 =>
   bif ((decide (i_0 = i_3)) && ((decide (i_1 = i_4)) && true)) then (bif (decide (i_2 = i_5)) then (Option.bind (F_law06_works []) fun r_3 =>
     onB r_3 fun b_1 ds_9 =>
     some [(.b b_1)]) else
    (some [(.b false)])) else
   (some [(.b false)]))
noncomputable def F_ref06_Check : List Dat → Option (List Dat) := fun ds_0 =>
  onI ds_0 fun c_0 ds_1 =>
  onI ds_1 fun c_1 ds_2 =>
  Option.bind (bif (decide (c_0 < (-604799))) then (some true) else
   (bif (decide (604799 < c_0)) then (some true) else
    (bif (decide (c_1 < 0)) then (some true) else
     (bif (decide (2 < c_1)) then (some true) else
      (some false))))) fun b_0 =>
  bif b_0 then (some [(.i 2)]) else
  (some [(.i 0)])
noncomputable def F_ref04_Decimal_body (self : List Dat → Option (List Dat)) : List Dat → Option (List Dat) := fun ds_0 =>
  onI ds_0 fun n_0 ds_1 =>
  bif (decide (n_0 < 10)) then (bif (decide ((0 ≤ (i64 (n_0 + 1))) ∧ ((i64 (n_0 + 1)) ≤ 10))) then (bif (decide ((0 ≤ n_0) ∧ (n_0 ≤ ((((i64 (n_0 + 1))).toNat : Nat) : Int)))) then (some [(.s (List.take (((i64 (n_0 + 1))).toNat - (n_0).toNat) (List.drop (n_0).toNat ([48, 49, 50, 51, 52, 53, 54, 55, 56, 57] : List UInt8))))]) else none) else none) else
  (Option.bind (self [(.i (i64 (Int.tdiv n_0 10)))]) fun r_0 =>
   onS r_0 fun s_0 ds_2 =>
   Option.bind (self [(.i (Int.tmod n_0 10))]) fun r_1 =>
   onS r_1 fun s_1 ds_3 =>
   bif (decide (((s_0).length + (s_1).length) ≤ 9223372036854775807)) then (some [(.s (s_0 ++ s_1))]) else none)
noncomputable def F_ref04_Decimal : List Dat → Option (List Dat) := fun ds => fixN F_ref04_Decimal_body ((fun ds => match ds with | [.i n] => n.toNat + 1 | _ => 0 : List Dat → Nat) ds) ds
noncomputable def F_ref04_Two : List Dat → Option (List Dat) := fun ds_0 =>
  onI ds_0 fun n_0 ds_1 =>
  Option.bind (F_ref04_Decimal [(.i (i64 (Int.tdiv n_0 10)))]) fun r_0 =>
  onS r_0 fun s_0 ds_2 =>
  Option.bind (F_ref04_Decimal [(.i (Int.tmod n_0 10))]) fun r_1 =>
  onS r_1 fun s_1 ds_3 =>
  bif (decide (((s_0).length + (s_1).length) ≤ 9223372036854775807)) then (some [(.s (s_0 ++ s_1))]) else none
noncomputable def F_ref04_Print_body (self : List Dat → Option (List Dat)) : List Dat → Option (List Dat) := fun ds_0 =>
  onI ds_0 fun x_0 ds_1 =>
  Option.bind (bif (decide (x_0 < (-604799))) then (some true) else
   (bif (decide (604799 < x_0)) then (some true) else
    (some false))) fun b_0 =>
  bif b_0 then (some [(.s ([] : List UInt8)), (.i 3)]) else
  (bif (decide (x_0 < 0)) then (Option.bind (self [(.i (i64 (0 - x_0)))]) fun r_0 =>
    onS r_0 fun s_0 ds_2 =>
    onI ds_2 fun i_0 ds_3 =>
    bif (decide ((1 + (s_0).length) ≤ 9223372036854775807)) then (some [(.s (([45] : List UInt8) ++ s_0)), (.i 0)]) else none) else
   (Option.bind (F_ref04_Decimal [(.i (i64 (Int.tdiv x_0 3600)))]) fun r_1 =>
    onS r_1 fun s_1 ds_4 =>
    bif (decide (((s_1).length + 1) ≤ 9223372036854775807)) then (Option.bind (F_ref04_Two [(.i (Int.tmod (i64 (Int.tdiv x_0 60)) 60))]) fun r_2 =>
    onS r_2 fun s_2 ds_5 =>
    bif (decide ((((s_1 ++ ([58] : List UInt8))).length + (s_2).length) ≤ 9223372036854775807)) then (bif (!decide ((Int.tmod x_0 60) = 0)) then (bif (decide (((((s_1 ++ ([58] : List UInt8)) ++ s_2)).length + 1) ≤ 9223372036854775807)) then (Option.bind (F_ref04_Two [(.i (Int.tmod x_0 60))]) fun r_3 =>
     onS r_3 fun s_3 ds_6 =>
     bif (decide ((((((s_1 ++ ([58] : List UInt8)) ++ s_2) ++ ([58] : List UInt8))).length + (s_3).length) ≤ 9223372036854775807)) then (some [(.s ((((s_1 ++ ([58] : List UInt8)) ++ s_2) ++ ([58] : List UInt8)) ++ s_3)), (.i 0)]) else none) else none) else
    (some [(.s ((s_1 ++ ([58] : List UInt8)) ++ s_2)), (.i 0)])) else none) else none))
noncomputable def F_ref04_Print : List Dat → Option (List Dat) := fun ds => fixN F_ref04_Print_body ((fun _ => 2 : List Dat → Nat) ds) ds
noncomputable def F_ref06_Print : List Dat → Option (List Dat) := fun ds_0 =>
  onI ds_0 fun c_0 ds_1 =>
  onI ds_1 fun c_1 ds_2 =>
  Option.bind (F_ref06_Check [(.i c_0), (.i c_1)]) fun r_0 =>
  onI r_0 fun i_0 ds_3 =>
  bif (!decide (i_0 = 0)) then (some [(.s ([] : List UInt8)), (.i 2)]) else
  (Option.bind (F_ref04_Print [(.i c_0)]) fun r_1 =>
   onS r_1 fun s_0 ds_4 =>
   onI ds_4 fun i_1 ds_5 =>
   bif (decide (c_1 = 1)) then (bif (decide (((s_0).length + 1) ≤ 9223372036854775807)) then (some [(.s (s_0 ++ ([115] : List UInt8))), (.i 0)]) else none) else
   (bif (decide (c_1 = 2)) then (bif (decide (((s_0).length + 1) ≤ 9223372036854775807)) then (some [(.s (s_0 ++ ([117] : List UInt8))), (.i 0)]) else none) else
    (some [(.s s_0), (.i 0)])))
noncomputable def F_law06_ClockTimes : List Dat → Option (List Dat) := fun ds_0 =>
  onI ds_0 fun c_0 ds_1 =>
  onI ds_1 fun c_1 ds_2 =>
  Option.bind (F_clock_Print [(.i c_0), (.i c_1)]) fun r_0 =>
  onS r_0 fun s_0 ds_3 =>
  onI ds_3 fun i_0 ds_4 =>
  Option.bind (F_ref06_Print [(.i c_0), (.i c_1)]) fun r_1 =>
  onS r_1 fun s_1 ds_5 =>
  onI ds_5 fun i_1 ds_6 =>
  Option.bind (F_clock_Check [(.i c_0), (.i c_1)]) fun r_2 =>
  onI r_2 fun i_2 ds_7 =>
  Option.bind (F_ref06_Check [(.i c_0), (.i c_1)]) fun r_3 =>
  onI r_3 fun i_3 ds_8 =>
  bif (decide (i_2 = i_3)) then (bif (s_0 == s_1) then (bif (decide (i_0 = i_1)) then (Option.bind (F_law06_works []) fun r_4 =>
     onB r_4 fun b_0 ds_9 =>
     some [(.b b_0)]) else
    (some [(.b false)])) else
   (some [(.b false)])) else
  (some [(.b false)])
noncomputable def F_law06_Made : List Dat → Option (List Dat) := fun ds_0 =>
  onI ds_0 fun sec_0 ds_1 =>
  onI ds_1 fun base_0 ds_2 =>
  some [(.i (Int.tmod (i64 sec_0) 604800)), (.i (i64 (Int.tmod base_0 3)))]
noncomputable def F_law06_ClockBack : List Dat → Option (List Dat) := fun ds_0 =>
  onI ds_0 fun m_0 ds_1 =>
  onI ds_1 fun n_0 ds_2 =>
  onI ds_2 fun a_0 ds_3 =>
  onI ds_3 fun b_0 ds_4 =>
  Option.bind (F_law06_Made [(.i m_0), (.i a_0)]) fun r_0 =>
  onI r_0 fun i_0 ds_5 =>
  onI ds_5 fun i_1 ds_6 =>
  Option.bind (F_law06_Made [(.i n_0), (.i b_0)]) fun r_1 =>
  onI r_1 fun i_2 ds_7 =>
  onI ds_7 fun i_3 ds_8 =>
  Option.bind (F_clock_Print [(.i i_0), (.i i_1)]) fun r_2 =>
  onS r_2 fun s_0 ds_9 =>
  onI ds_9 fun i_4 ds_10 =>
  Option.bind (F_clock_Print [(.i i_2), (.i i_3)]) fun r_3 =>
  onS r_3 fun s_1 ds_11 =>
  onI ds_11 fun i_5 ds_12 =>
  Option.bind (F_clock_Parse [(.s s_0)]) fun r_4 =>
  onI r_4 fun i_6 ds_13 =>
  onI ds_13 fun i_7 ds_14 =>
  onI ds_14 fun i_8 ds_15 =>
  Option.bind (F_clock_Check [(.i i_0), (.i i_1)]) fun r_5 =>
  onI r_5 fun i_9 ds_16 =>
  bif (decide (i_9 = 0)) then (bif (decide (i_4 = 0)) then (bif (decide (i_5 = 0)) then (bif (decide (i_8 = 0)) then (bif ((decide (i_6 = i_0)) && ((decide (i_7 = i_1)) && true)) then (bif (s_0 == s_1) then (bif ((decide (i_0 = i_2)) && ((decide (i_1 = i_3)) && true)) then (bif (!(s_0 == ([] : List UInt8))) then (Option.bind (F_law06_works []) fun r_6 =>
          onB r_6 fun b_1 ds_17 =>
          some [(.b b_1)]) else
         (some [(.b false)])) else
        (some [(.b false)])) else
       (bif ((decide (i_0 = i_2)) && ((decide (i_1 = i_3)) && true)) then (some [(.b false)]) else
        (bif (!(s_0 == ([] : List UInt8))) then (Option.bind (F_law06_works []) fun r_7 =>
          onB r_7 fun b_2 ds_18 =>
          some [(.b b_2)]) else
         (some [(.b false)])))) else
      (some [(.b false)])) else
     (some [(.b false)])) else
    (some [(.b false)])) else
   (some [(.b false)])) else
  (some [(.b false)])
noncomputable def F_law06_ClockReads : List Dat → Option (List Dat) := fun ds_0 =>
  onS ds_0 fun s_0 ds_1 =>
  bif (decide (200 < (((s_0).length : Nat) : Int))) then (Option.bind (F_law06_works []) fun r_0 =>
   onB r_0 fun b_0 ds_2 =>
   some [(.b b_0)]) else
  (Option.bind (F_clock_Parse [(.s s_0)]) fun r_1 =>
   onI r_1 fun i_0 ds_3 =>
   onI ds_3 fun i_1 ds_4 =>
   onI ds_4 fun i_2 ds_5 =>
   bif (!decide (i_2 = 0)) then (bif ((decide (i_0 = 0)) && ((decide (i_1 = 0)) && true)) then (bif (decide (i_2 = 5)) then (Option.bind (F_law06_works []) fun r_2 =>
      onB r_2 fun b_1 ds_6 =>
      some [(.b b_1)]) else
     (bif (decide (i_2 = 3)) then (Option.bind (F_law06_works []) fun r_3 =>
       onB r_3 fun b_2 ds_7 =>
       some [(.b b_2)]) else
      (some [(.b false)]))) else
    (some [(.b false)])) else
   (Option.bind (F_clock_Print [(.i i_0), (.i i_1)]) fun r_4 =>
    onS r_4 fun s_1 ds_8 =>
    onI ds_8 fun i_3 ds_9 =>
    Option.bind (F_clock_Parse [(.s s_1)]) fun r_5 =>
    onI r_5 fun i_4 ds_10 =>
    onI ds_10 fun i_5 ds_11 =>
    onI ds_11 fun i_6 ds_12 =>
    Option.bind (F_clock_Check [(.i i_0), (.i i_1)]) fun r_6 =>
    onI r_6 fun i_7 ds_13 =>
    bif (decide (i_7 = 0)) then (bif (decide (i_3 = 0)) then (bif (decide (i_6 = 0)) then (bif ((decide (i_4 = i_0)) && ((decide (i_5 = i_1)) && true)) then (Option.bind (F_law06_works []) fun r_7 =>
        onB r_7 fun b_3 ds_14 =>
        some [(.b b_3)]) else
       (some [(.b false)])) else
      (some [(.b false)])) else
     (some [(.b false)])) else
    (some [(.b false)])))
noncomputable def F_law06_ClockLetters : List Dat → Option (List Dat) := fun ds_0 =>
  onI ds_0 fun sec_0 ds_1 =>
  onI ds_1 fun c_0 ds_2 =>
  Option.bind (F_offset_Print [(.i (Int.tmod (i64 sec_0) 604800))]) fun r_0 =>
  onS r_0 fun s_0 ds_3 =>
  onI ds_3 fun i_0 ds_4 =>
  bif (!decide (i_0 = 0)) then (some [(.b false)]) else
  (Option.bind (F_law06_reads [(.s s_0), (.i (Int.tmod (i64 sec_0) 604800)), (.i 0)]) fun r_1 =>
   onB r_1 fun b_0 ds_5 =>
   bif (!b_0) then (some [(.b false)]) else
   (bif (decide (((s_0).length + 1) ≤ 9223372036854775807)) then (Option.bind (F_law06_reads [(.s (s_0 ++ ([119] : List UInt8))), (.i (Int.tmod (i64 sec_0) 604800)), (.i 0)]) fun r_2 =>
    onB r_2 fun b_1 ds_6 =>
    bif (!b_1) then (some [(.b false)]) else
    (bif (decide (((s_0).length + 1) ≤ 9223372036854775807)) then (bif (decide ((((s_0 ++ ([119] : List UInt8))).length + 1) ≤ 9223372036854775807)) then (Option.bind (F_law06_fails [(.s ((s_0 ++ ([119] : List UInt8)) ++ ([119] : List UInt8))), (.i 5)]) fun r_3 =>
     onB r_3 fun b_2 ds_7 =>
     bif (!b_2) then (some [(.b false)]) else
     (bif (decide (c_0 = 119)) then (Option.bind (F_law06_works []) fun r_4 =>
       onB r_4 fun b_3 ds_8 =>
       some [(.b b_3)]) else
      (bif (decide (((s_0).length + 1) ≤ 9223372036854775807)) then (Option.bind (F_law06_reads [(.s (s_0 ++ ([115] : List UInt8))), (.i (Int.tmod (i64 sec_0) 604800)), (.i 1)]) fun r_5 =>
       onB r_5 fun b_4 ds_9 =>
       bif (!b_4) then (some [(.b false)]) else
       (bif (decide (((s_0).length + 1) ≤ 9223372036854775807)) then (bif (decide ((((s_0 ++ ([115] : List UInt8))).length + 1) ≤ 9223372036854775807)) then (Option.bind (F_law06_fails [(.s ((s_0 ++ ([115] : List UInt8)) ++ ([115] : List UInt8))), (.i 5)]) fun r_6 =>
        onB r_6 fun b_5 ds_10 =>
        bif (!b_5) then (some [(.b false)]) else
        (bif (decide (c_0 = 115)) then (Option.bind (F_law06_works []) fun r_7 =>
          onB r_7 fun b_6 ds_11 =>
          some [(.b b_6)]) else
         (bif (decide (((s_0).length + 1) ≤ 9223372036854775807)) then (Option.bind (F_law06_reads [(.s (s_0 ++ ([117] : List UInt8))), (.i (Int.tmod (i64 sec_0) 604800)), (.i 2)]) fun r_8 =>
          onB r_8 fun b_7 ds_12 =>
          bif (!b_7) then (some [(.b false)]) else
          (bif (decide (((s_0).length + 1) ≤ 9223372036854775807)) then (bif (decide ((((s_0 ++ ([117] : List UInt8))).length + 1) ≤ 9223372036854775807)) then (Option.bind (F_law06_fails [(.s ((s_0 ++ ([117] : List UInt8)) ++ ([117] : List UInt8))), (.i 5)]) fun r_9 =>
           onB r_9 fun b_8 ds_13 =>
           bif (!b_8) then (some [(.b false)]) else
           (bif (decide (c_0 = 117)) then (Option.bind (F_law06_works []) fun r_10 =>
             onB r_10 fun b_9 ds_14 =>
             some [(.b b_9)]) else
            (bif (decide (((s_0).length + 1) ≤ 9223372036854775807)) then (Option.bind (F_law06_reads [(.s (s_0 ++ ([103] : List UInt8))), (.i (Int.tmod (i64 sec_0) 604800)), (.i 2)]) fun r_11 =>
             onB r_11 fun b_10 ds_15 =>
             bif (!b_10) then (some [(.b false)]) else
             (bif (decide (((s_0).length + 1) ≤ 9223372036854775807)) then (bif (decide ((((s_0 ++ ([103] : List UInt8))).length + 1) ≤ 9223372036854775807)) then (Option.bind (F_law06_fails [(.s ((s_0 ++ ([103] : List UInt8)) ++ ([103] : List UInt8))), (.i 5)]) fun r_12 =>
              onB r_12 fun b_11 ds_16 =>
              bif (!b_11) then (some [(.b false)]) else
              (bif (decide (c_0 = 103)) then (Option.bind (F_law06_works []) fun r_13 =>
                onB r_13 fun b_12 ds_17 =>
                some [(.b b_12)]) else
               (bif (decide (((s_0).length + 1) ≤ 9223372036854775807)) then (Option.bind (F_law06_reads [(.s (s_0 ++ ([122] : List UInt8))), (.i (Int.tmod (i64 sec_0) 604800)), (.i 2)]) fun r_14 =>
                onB r_14 fun b_13 ds_18 =>
                bif (!b_13) then (some [(.b false)]) else
                (bif (decide (((s_0).length + 1) ≤ 9223372036854775807)) then (bif (decide ((((s_0 ++ ([122] : List UInt8))).length + 1) ≤ 9223372036854775807)) then (Option.bind (F_law06_fails [(.s ((s_0 ++ ([122] : List UInt8)) ++ ([122] : List UInt8))), (.i 5)]) fun r_15 =>
                 onB r_15 fun b_14 ds_19 =>
                 bif (!b_14) then (some [(.b false)]) else
                 (bif (decide (c_0 = 122)) then (Option.bind (F_law06_works []) fun r_16 =>
                   onB r_16 fun b_15 ds_20 =>
                   some [(.b b_15)]) else
                  (Option.bind (bytesOf [(Ax.AV.int .u8 (Ax.I.sym c_0))]) fun s_1 =>
                   bif (decide (((s_0).length + (s_1).length) ≤ 9223372036854775807)) then (Option.bind (F_clock_Parse [(.s (s_0 ++ s_1))]) fun r_17 =>
                   onI r_17 fun i_1 ds_21 =>
                   onI ds_21 fun i_2 ds_22 =>
                   onI ds_22 fun i_3 ds_23 =>
                   bif (!decide (i_3 = 0)) then (Option.bind (F_law06_works []) fun r_18 =>
                    onB r_18 fun b_16 ds_24 =>
                    some [(.b b_16)]) else
                   (bif (decide (48 ≤ c_0)) then (bif (decide (c_0 ≤ 57)) then (Option.bind (F_law06_works []) fun r_19 =>
                      onB r_19 fun b_17 ds_25 =>
                      some [(.b b_17)]) else
                     (some [(.b false)])) else
                    (some [(.b false)]))) else none))) else none) else none)) else none))) else none) else none)) else none))) else none) else none)) else none))) else none) else none)) else none))) else none) else none)) else none))
noncomputable def F_law06_ClockRefuses : List Dat → Option (List Dat) := fun ds_0 =>
  onI ds_0 fun sec_0 ds_1 =>
  onI ds_1 fun base_0 ds_2 =>
  onI ds_2 fun far_0 ds_3 =>
  Option.bind (F_law06_Made [(.i sec_0), (.i base_0)]) fun r_0 =>
  onI r_0 fun i_0 ds_4 =>
  onI ds_4 fun i_1 ds_5 =>
  Option.bind (F_clock_Print [(.i (i64 (604800 + (i64 far_0)))), (.i i_1)]) fun r_1 =>
  onS r_1 fun s_0 ds_6 =>
  onI ds_6 fun i_2 ds_7 =>
  Option.bind (F_clock_Check [(.i (i64 (604800 + (i64 far_0)))), (.i i_1)]) fun r_2 =>
  onI r_2 fun i_3 ds_8 =>
  bif (!decide (i_3 = 2)) then (some [(.b false)]) else
  (bif (!(s_0 == ([] : List UInt8))) then (some [(.b false)]) else
   (bif (!decide (i_2 = 2)) then (some [(.b false)]) else
    (Option.bind (F_clock_Print [(.i (i64 ((-604800) - (i64 far_0)))), (.i i_1)]) fun r_3 =>
     onS r_3 fun s_1 ds_9 =>
     onI ds_9 fun i_4 ds_10 =>
     Option.bind (F_clock_Check [(.i (i64 ((-604800) - (i64 far_0)))), (.i i_1)]) fun r_4 =>
     onI r_4 fun i_5 ds_11 =>
     bif (!decide (i_5 = 2)) then (some [(.b false)]) else
     (bif (!(s_1 == ([] : List UInt8))) then (some [(.b false)]) else
      (bif (!decide (i_4 = 2)) then (some [(.b false)]) else
       (Option.bind (F_clock_Print [(.i i_0), (.i (i64 (3 + (i64 far_0))))]) fun r_5 =>
        onS r_5 fun s_2 ds_12 =>
        onI ds_12 fun i_6 ds_13 =>
        Option.bind (F_clock_Check [(.i i_0), (.i (i64 (3 + (i64 far_0))))]) fun r_6 =>
        onI r_6 fun i_7 ds_14 =>
        bif (!decide (i_7 = 2)) then (some [(.b false)]) else
        (bif (!(s_2 == ([] : List UInt8))) then (some [(.b false)]) else
         (bif (!decide (i_6 = 2)) then (some [(.b false)]) else
          (Option.bind (F_clock_Print [(.i i_0), (.i (i64 ((-1) - (i64 far_0))))]) fun r_7 =>
           onS r_7 fun s_3 ds_15 =>
           onI ds_15 fun i_8 ds_16 =>
           Option.bind (F_clock_Check [(.i i_0), (.i (i64 ((-1) - (i64 far_0))))]) fun r_8 =>
           onI r_8 fun i_9 ds_17 =>
           bif (!decide (i_9 = 2)) then (some [(.b false)]) else
           (bif (!(s_3 == ([] : List UInt8))) then (some [(.b false)]) else
            (bif (!decide (i_8 = 2)) then (some [(.b false)]) else
             (Option.bind (F_clock_Check [(.i i_0), (.i i_1)]) fun r_9 =>
              onI r_9 fun i_10 ds_18 =>
              bif (decide (i_10 = 0)) then (Option.bind (F_law06_works []) fun r_10 =>
               onB r_10 fun b_0 ds_19 =>
               some [(.b b_0)]) else
              (some [(.b false)])))))))))))))
end Go.Proofs.YtnfgmffcnmifkaaDoor
