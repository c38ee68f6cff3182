/-
  The functions of plain data that the laws of this group reach, as the program has them.
-/
import Derived.Test.YtdpjkapaphelhaaDoorAx30
namespace Go.Proofs.YtdpjkapaphelhaaDoor
open Go.Ax
set_option linter.all false
set_option maxRecDepth 100000
noncomputable def F_internal_stringslite_HasPrefix : List Dat → Option (List Dat) := fun ds_0 =>
  onS ds_0 fun s_0 ds_1 =>
  onS ds_1 fun prefix_0 ds_2 =>
  Option.bind (bif (decide ((((prefix_0).length : Nat) : Int) ≤ (((s_0).length : Nat) : Int))) then (bif (decide ((0 ≤ (((prefix_0).length : Nat) : Int)) ∧ ((((prefix_0).length : Nat) : Int) ≤ (((s_0).length : Nat) : Int)))) then (bif ((List.take ((((prefix_0).length : Nat) : Int)).toNat (List.drop 0 s_0)) == prefix_0) then (some true) else
    (some false)) else none) else
   (some false)) fun b_0 =>
  some [(.b b_0)]
noncomputable def F_internal_stringslite_CutPrefix : List Dat → Option (List Dat) := fun ds_0 =>
  onS ds_0 fun s_0 ds_1 =>
  onS ds_1 fun prefix_0 ds_2 =>
  Option.bind (F_internal_stringslite_HasPrefix [(.s s_0), (.s prefix_0)]) fun r_0 =>
  onB r_0 fun b_0 ds_3 =>
  bif (!b_0) then (some [(.s s_0), (.b false)]) else
  (bif (decide ((0 ≤ (((prefix_0).length : Nat) : Int)) ∧ ((((prefix_0).length : Nat) : Int) ≤ (((s_0).length : Nat) : Int)))) then (some [(.s (List.take ((s_0).length - ((((prefix_0).length : Nat) : Int)).toNat) (List.drop ((((prefix_0).length : Nat) : Int)).toNat s_0))), (.b true)]) else none)
noncomputable def F_strings_CutPrefix : List Dat → Option (List Dat) := fun ds_0 =>
  onS ds_0 fun s_0 ds_1 =>
  onS ds_1 fun prefix_0 ds_2 =>
  Option.bind (F_internal_stringslite_CutPrefix [(.s s_0), (.s prefix_0)]) fun r_0 =>
  onS r_0 fun s_1 ds_3 =>
  onB ds_3 fun b_0 ds_4 =>
  some [(.s s_1), (.b b_0)]
noncomputable def F_offset_split_L2 (i_0 : Int) (c_3 : Int) : List Dat → Option (List Dat ⊕ (List Dat ⊕ List Dat)) := fun ds_12 =>
  onI ds_12 fun i_1 ds_13 =>
  onI ds_13 fun i_2 ds_14 =>
  onS ds_14 fun s_1 ds_15 =>
  onL ds_15 fun l_0 ds_16 =>
  Option.bind (bif (decide (i_2 < (((s_1).length : Nat) : Int))) then (bif (decide ((0 ≤ i_2) ∧ (i_2 < (((s_1).length : Nat) : Int)))) then (bif (decide (48 ≤ ((((List.getD s_1 (i_2).toNat 0)).toNat : Nat) : Int))) then (bif (decide ((0 ≤ i_2) ∧ (i_2 < (((s_1).length : Nat) : Int)))) then (bif (decide (((((List.getD s_1 (i_2).toNat 0)).toNat : Nat) : Int) ≤ 57)) then (some true) else
     (some false)) else none) else
    (some false)) else none) else
   (some false)) fun b_3 =>
  bif b_3 then (bif (decide ((0 ≤ i_2) ∧ (i_2 < (((s_1).length : Nat) : Int)))) then (bif (List.all l_0 (Ax.closedN 20)) then (some (.inl [(.i (if 1000 < (i64 ((i64 (10 * i_1)) + (i64 (u8 (((((List.getD s_1 (i_2).toNat 0)).toNat : Nat) : Int) - 48))))) then 1000 else (i64 ((i64 (10 * i_1)) + (i64 (u8 (((((List.getD s_1 (i_2).toNat 0)).toNat : Nat) : Int) - 48))))))), (.i (i64 (i_2 + 1))), (.s s_1), (.l l_0)])) else
   (none)) else none) else
  (Option.map .inr (bif (decide ((0 ≤ i_0) ∧ (i_0 < 3))) then (bif (decide (((i_0).toNat + 1) ≤ (l_0).length)) then (bif (decide (([(Ax.AV.int .i64 (Ax.I.sym i_1))]).length = 1)) then (Option.bind (bif (!decide ((i64 (i_2 - (i64 (c_3 + 1)))) = 2)) then (some true) else
     (bif (decide ((0 ≤ i_0) ∧ (i_0 < 3))) then (Option.bind (asI .i64 ((Ax.write l_0 (i_0).toNat [(Ax.AV.int .i64 (Ax.I.sym i_1))]))[(i_0).toNat]?) fun x_12 =>
      bif (decide (59 < x_12)) then (some true) else
      (some false)) else none)) fun b_4 =>
    bif b_4 then (bif (decide (3 ≤ ((Ax.write l_0 (i_0).toNat [(Ax.AV.int .i64 (Ax.I.sym i_1))])).length)) then (Option.map .inr (Option.bind (asI .i64 ((List.drop 0 (Ax.write (Ax.write l_0 (i_0).toNat [(Ax.AV.int .i64 (Ax.I.sym i_1))]) 0 [(Ax.AV.int .i64 (Ax.I.lit 0)), (Ax.AV.int .i64 (Ax.I.lit 0)), (Ax.AV.int .i64 (Ax.I.lit 0))])))[0]?) fun x_13 =>
      Option.bind (asI .i64 ((List.drop 1 (List.drop 0 (Ax.write (Ax.write l_0 (i_0).toNat [(Ax.AV.int .i64 (Ax.I.sym i_1))]) 0 [(Ax.AV.int .i64 (Ax.I.lit 0)), (Ax.AV.int .i64 (Ax.I.lit 0)), (Ax.AV.int .i64 (Ax.I.lit 0))]))))[0]?) fun x_14 =>
      Option.bind (asI .i64 ((List.drop 1 (List.drop 1 (List.drop 0 (Ax.write (Ax.write l_0 (i_0).toNat [(Ax.AV.int .i64 (Ax.I.sym i_1))]) 0 [(Ax.AV.int .i64 (Ax.I.lit 0)), (Ax.AV.int .i64 (Ax.I.lit 0)), (Ax.AV.int .i64 (Ax.I.lit 0))])))))[0]?) fun x_15 =>
      some [(.i x_13), (.i x_14), (.i x_15), (.b false)])) else none) else
    (bif (List.all (Ax.write l_0 (i_0).toNat [(Ax.AV.int .i64 (Ax.I.sym i_1))]) (Ax.closedN 20)) then (some (.inl [(.i (i64 (i_0 + 1))), (.s s_1), (.l (Ax.write l_0 (i_0).toNat [(Ax.AV.int .i64 (Ax.I.sym i_1))])), (.i i_2)])) else
     (none))) else none) else none) else none))
noncomputable def F_offset_split_L1 : List Dat → Option (List Dat ⊕ List Dat) := fun ds_7 =>
  onI ds_7 fun i_0 ds_8 =>
  onS ds_8 fun c_2 ds_9 =>
  onL ds_9 fun cells_1 ds_10 =>
  onI ds_10 fun c_3 ds_11 =>
  Option.bind (bif (decide (i_0 < 3)) then (bif (decide (c_3 < (((c_2).length : Nat) : Int))) then (some true) else
    (some false)) else
   (some false)) fun b_2 =>
  bif b_2 then (bif (decide ((0 ≤ c_3) ∧ (c_3 < (((c_2).length : Nat) : Int)))) then (bif (!decide (((((List.getD c_2 (c_3).toNat 0)).toNat : Nat) : Int) = 58)) then (Option.map .inr (bif (!decide (c_3 = (((c_2).length : Nat) : Int))) then (bif (decide (3 ≤ (cells_1).length)) then (Option.bind (asI .i64 ((List.drop 0 (Ax.write cells_1 0 [(Ax.AV.int .i64 (Ax.I.lit 0)), (Ax.AV.int .i64 (Ax.I.lit 0)), (Ax.AV.int .i64 (Ax.I.lit 0))])))[0]?) fun x_3 =>
      Option.bind (asI .i64 ((List.drop 1 (List.drop 0 (Ax.write cells_1 0 [(Ax.AV.int .i64 (Ax.I.lit 0)), (Ax.AV.int .i64 (Ax.I.lit 0)), (Ax.AV.int .i64 (Ax.I.lit 0))]))))[0]?) fun x_4 =>
      Option.bind (asI .i64 ((List.drop 1 (List.drop 1 (List.drop 0 (Ax.write cells_1 0 [(Ax.AV.int .i64 (Ax.I.lit 0)), (Ax.AV.int .i64 (Ax.I.lit 0)), (Ax.AV.int .i64 (Ax.I.lit 0))])))))[0]?) fun x_5 =>
      some [(.i x_3), (.i x_4), (.i x_5), (.b false)]) else none) else
     (Option.bind (asI .i64 ((List.drop 0 cells_1))[0]?) fun x_6 =>
      Option.bind (asI .i64 ((List.drop 1 (List.drop 0 cells_1)))[0]?) fun x_7 =>
      Option.bind (asI .i64 ((List.drop 1 (List.drop 1 (List.drop 0 cells_1))))[0]?) fun x_8 =>
      bif (decide (3 ≤ (cells_1).length)) then (bif (decide (([(Ax.AV.int .i64 (Ax.I.sym x_6)), (Ax.AV.int .i64 (Ax.I.sym x_7)), (Ax.AV.int .i64 (Ax.I.sym x_8))]).length = 3)) then (Option.bind (asI .i64 ((List.drop 0 (Ax.write cells_1 0 [(Ax.AV.int .i64 (Ax.I.sym x_6)), (Ax.AV.int .i64 (Ax.I.sym x_7)), (Ax.AV.int .i64 (Ax.I.sym x_8))])))[0]?) fun x_9 =>
      Option.bind (asI .i64 ((List.drop 1 (List.drop 0 (Ax.write cells_1 0 [(Ax.AV.int .i64 (Ax.I.sym x_6)), (Ax.AV.int .i64 (Ax.I.sym x_7)), (Ax.AV.int .i64 (Ax.I.sym x_8))]))))[0]?) fun x_10 =>
      Option.bind (asI .i64 ((List.drop 1 (List.drop 1 (List.drop 0 (Ax.write cells_1 0 [(Ax.AV.int .i64 (Ax.I.sym x_6)), (Ax.AV.int .i64 (Ax.I.sym x_7)), (Ax.AV.int .i64 (Ax.I.sym x_8))])))))[0]?) fun x_11 =>
      some [(.i x_9), (.i x_10), (.i x_11), (.b true)]) else none) else none))) else
   (bif (List.all cells_1 (Ax.closedN 20)) then (iter (F_offset_split_L2 i_0 c_3) [(.i 0), (.i (i64 (c_3 + 1))), (.s c_2), (.l cells_1)]) else
    (none))) else none) else
  (Option.map .inr (bif (!decide (c_3 = (((c_2).length : Nat) : Int))) then (bif (decide (3 ≤ (cells_1).length)) then (Option.bind (asI .i64 ((List.drop 0 (Ax.write cells_1 0 [(Ax.AV.int .i64 (Ax.I.lit 0)), (Ax.AV.int .i64 (Ax.I.lit 0)), (Ax.AV.int .i64 (Ax.I.lit 0))])))[0]?) fun x_16 =>
     Option.bind (asI .i64 ((List.drop 1 (List.drop 0 (Ax.write cells_1 0 [(Ax.AV.int .i64 (Ax.I.lit 0)), (Ax.AV.int .i64 (Ax.I.lit 0)), (Ax.AV.int .i64 (Ax.I.lit 0))]))))[0]?) fun x_17 =>
     Option.bind (asI .i64 ((List.drop 1 (List.drop 1 (List.drop 0 (Ax.write cells_1 0 [(Ax.AV.int .i64 (Ax.I.lit 0)), (Ax.AV.int .i64 (Ax.I.lit 0)), (Ax.AV.int .i64 (Ax.I.lit 0))])))))[0]?) fun x_18 =>
     some [(.i x_16), (.i x_17), (.i x_18), (.b false)]) else none) else
    (Option.bind (asI .i64 ((List.drop 0 cells_1))[0]?) fun x_19 =>
     Option.bind (asI .i64 ((List.drop 1 (List.drop 0 cells_1)))[0]?) fun x_20 =>
     Option.bind (asI .i64 ((List.drop 1 (List.drop 1 (List.drop 0 cells_1))))[0]?) fun x_21 =>
     bif (decide (3 ≤ (cells_1).length)) then (bif (decide (([(Ax.AV.int .i64 (Ax.I.sym x_19)), (Ax.AV.int .i64 (Ax.I.sym x_20)), (Ax.AV.int .i64 (Ax.I.sym x_21))]).length = 3)) then (Option.bind (asI .i64 ((List.drop 0 (Ax.write cells_1 0 [(Ax.AV.int .i64 (Ax.I.sym x_19)), (Ax.AV.int .i64 (Ax.I.sym x_20)), (Ax.AV.int .i64 (Ax.I.sym x_21))])))[0]?) fun x_22 =>
     Option.bind (asI .i64 ((List.drop 1 (List.drop 0 (Ax.write cells_1 0 [(Ax.AV.int .i64 (Ax.I.sym x_19)), (Ax.AV.int .i64 (Ax.I.sym x_20)), (Ax.AV.int .i64 (Ax.I.sym x_21))]))))[0]?) fun x_23 =>
     Option.bind (asI .i64 ((List.drop 1 (List.drop 1 (List.drop 0 (Ax.write cells_1 0 [(Ax.AV.int .i64 (Ax.I.sym x_19)), (Ax.AV.int .i64 (Ax.I.sym x_20)), (Ax.AV.int .i64 (Ax.I.sym x_21))])))))[0]?) fun x_24 =>
     some [(.i x_22), (.i x_23), (.i x_24), (.b true)]) else none) else none)))
noncomputable def F_offset_split_L0 : List Dat → Option (List Dat ⊕ List Dat) := fun ds_2 =>
  onI ds_2 fun n_0 ds_3 =>
  onI ds_3 fun c_0 ds_4 =>
  onS ds_4 fun c_1 ds_5 =>
  onL ds_5 fun cells_0 ds_6 =>
  Option.bind (bif (decide (c_0 < (((c_1).length : Nat) : Int))) then (bif (decide ((0 ≤ c_0) ∧ (c_0 < (((c_1).length : Nat) : Int)))) then (bif (decide (48 ≤ ((((List.getD c_1 (c_0).toNat 0)).toNat : Nat) : Int))) then (bif (decide ((0 ≤ c_0) ∧ (c_0 < (((c_1).length : Nat) : Int)))) then (bif (decide (((((List.getD c_1 (c_0).toNat 0)).toNat : Nat) : Int) ≤ 57)) then (some true) else
     (some false)) else none) else
    (some false)) else none) else
   (some false)) fun b_0 =>
  bif b_0 then (bif (decide ((0 ≤ c_0) ∧ (c_0 < (((c_1).length : Nat) : Int)))) then (bif (List.all cells_0 (Ax.closedN 20)) then (some (.inl [(.i (if 1000 < (i64 ((i64 (10 * n_0)) + (i64 (u8 (((((List.getD c_1 (c_0).toNat 0)).toNat : Nat) : Int) - 48))))) then 1000 else (i64 ((i64 (10 * n_0)) + (i64 (u8 (((((List.getD c_1 (c_0).toNat 0)).toNat : Nat) : Int) - 48))))))), (.i (i64 (c_0 + 1))), (.s c_1), (.l cells_0)])) else
   (none)) else none) else
  (Option.map .inr (bif (decide (1 ≤ (cells_0).length)) then (bif (decide (([(Ax.AV.int .i64 (Ax.I.sym n_0))]).length = 1)) then (Option.bind (bif (decide (c_0 < 1)) then (some true) else
     (bif (decide (3 < c_0)) then (some true) else
      (bif (decide (1 < c_0)) then (bif (decide (((0 : Int) ≤ 0) ∧ (0 < (((c_1).length : Nat) : Int)))) then (bif (decide (((((List.getD c_1 0 0)).toNat : Nat) : Int) = 48)) then (some true) else
        (some false)) else none) else
       (some false)))) fun b_1 =>
    bif b_1 then (bif (decide (3 ≤ ((Ax.write cells_0 0 [(Ax.AV.int .i64 (Ax.I.sym n_0))])).length)) then (Option.bind (asI .i64 ((List.drop 0 (Ax.write (Ax.write cells_0 0 [(Ax.AV.int .i64 (Ax.I.sym n_0))]) 0 [(Ax.AV.int .i64 (Ax.I.lit 0)), (Ax.AV.int .i64 (Ax.I.lit 0)), (Ax.AV.int .i64 (Ax.I.lit 0))])))[0]?) fun x_0 =>
     Option.bind (asI .i64 ((List.drop 1 (List.drop 0 (Ax.write (Ax.write cells_0 0 [(Ax.AV.int .i64 (Ax.I.sym n_0))]) 0 [(Ax.AV.int .i64 (Ax.I.lit 0)), (Ax.AV.int .i64 (Ax.I.lit 0)), (Ax.AV.int .i64 (Ax.I.lit 0))]))))[0]?) fun x_1 =>
     Option.bind (asI .i64 ((List.drop 1 (List.drop 1 (List.drop 0 (Ax.write (Ax.write cells_0 0 [(Ax.AV.int .i64 (Ax.I.sym n_0))]) 0 [(Ax.AV.int .i64 (Ax.I.lit 0)), (Ax.AV.int .i64 (Ax.I.lit 0)), (Ax.AV.int .i64 (Ax.I.lit 0))])))))[0]?) fun x_2 =>
     some [(.i x_0), (.i x_1), (.i x_2), (.b false)]) else none) else
    (bif (List.all (Ax.write cells_0 0 [(Ax.AV.int .i64 (Ax.I.sym n_0))]) (Ax.closedN 20)) then (iter F_offset_split_L1 [(.i 1), (.s c_1), (.l (Ax.write cells_0 0 [(Ax.AV.int .i64 (Ax.I.sym n_0))])), (.i c_0)]) else
     (none))) else none) else none))
noncomputable def F_offset_split : List Dat → Option (List Dat) := fun ds_0 =>
  onS ds_0 fun s_0 ds_1 =>
  iter F_offset_split_L0 [(.i 0), (.i 0), (.s s_0), (.l [(Ax.AV.int .i64 (Ax.I.lit 0)), (Ax.AV.int .i64 (Ax.I.lit 0)), (Ax.AV.int .i64 (Ax.I.lit 0))])]
noncomputable def F_offset_Parse : List Dat → Option (List Dat) := fun ds_0 =>
  onS ds_0 fun s_0 ds_1 =>
  Option.bind (F_strings_CutPrefix [(.s s_0), (.s ([45] : List UInt8))]) fun r_0 =>
  onS r_0 fun s_1 ds_2 =>
  onB ds_2 fun b_0 ds_3 =>
  Option.bind (F_offset_split [(.s s_1)]) fun r_1 =>
  onI r_1 fun i_0 ds_4 =>
  onI ds_4 fun i_1 ds_5 =>
  onI ds_5 fun i_2 ds_6 =>
  onB ds_6 fun b_1 ds_7 =>
  bif (!b_1) then (some [(.i 0), (.i 5)]) else
  (bif b_0 then (bif (decide ((i64 ((i64 ((i64 (0 + (i64 (i_0 * 3600)))) + (i64 (i_1 * 60)))) + (i64 (i_2 * 1)))) = 0)) then (some [(.i 0), (.i 5)]) else
    (Option.bind (bif (decide ((i64 (0 - (i64 ((i64 ((i64 (0 + (i64 (i_0 * 3600)))) + (i64 (i_1 * 60)))) + (i64 (i_2 * 1)))))) < (-604799))) then (some true) else
      (bif (decide (604799 < (i64 (0 - (i64 ((i64 ((i64 (0 + (i64 (i_0 * 3600)))) + (i64 (i_1 * 60)))) + (i64 (i_2 * 1)))))))) then (some true) else
       (some false))) fun b_2 =>
     bif b_2 then (some [(.i 0), (.i 3)]) else
     (some [(.i (i64 (0 - (i64 ((i64 ((i64 (0 + (i64 (i_0 * 3600)))) + (i64 (i_1 * 60)))) + (i64 (i_2 * 1))))))), (.i 0)]))) else
   (Option.bind (bif (decide ((i64 ((i64 ((i64 (0 + (i64 (i_0 * 3600)))) + (i64 (i_1 * 60)))) + (i64 (i_2 * 1)))) < (-604799))) then (some true) else
     (bif (decide (604799 < (i64 ((i64 ((i64 (0 + (i64 (i_0 * 3600)))) + (i64 (i_1 * 60)))) + (i64 (i_2 * 1)))))) then (some true) else
      (some false))) fun b_3 =>
    bif b_3 then (some [(.i 0), (.i 3)]) else
    (some [(.i (i64 ((i64 ((i64 (0 + (i64 (i_0 * 3600)))) + (i64 (i_1 * 60)))) + (i64 (i_2 * 1))))), (.i 0)])))
noncomputable def F_offset_two : List Dat → Option (List Dat) := fun ds_0 =>
  onI ds_0 fun n_0 ds_1 =>
  Option.bind (Ax.formatInt [(.i (i64 (Int.tdiv n_0 10)))]) fun r_0 =>
  onS r_0 fun s_0 ds_2 =>
  bif (decide ((1 + (s_0).length) ≤ 9223372036854775807)) then (Option.bind (Ax.formatInt [(.i (Int.tmod n_0 10))]) fun r_1 =>
  onS r_1 fun s_1 ds_3 =>
  bif (decide ((((([58] : List UInt8) ++ s_0)).length + (s_1).length) ≤ 9223372036854775807)) then (some [(.s ((([58] : List UInt8) ++ s_0) ++ s_1))]) else none) else none
noncomputable def F_offset_Print : List Dat → Option (List Dat) := fun ds_0 =>
  onI ds_0 fun x_0 ds_1 =>
  Option.bind (bif (decide (x_0 < (-604799))) then (some true) else
   (bif (decide (604799 < x_0)) then (some true) else
    (some false))) fun b_0 =>
  bif b_0 then (some [(.s ([] : List UInt8)), (.i 3)]) else
  (bif (decide (x_0 < 0)) then (Option.bind (Ax.formatInt [(.i (i64 (Int.tdiv (i64 (0 - x_0)) 3600)))]) fun r_0 =>
    onS r_0 fun s_0 ds_2 =>
    bif (decide ((1 + (s_0).length) ≤ 9223372036854775807)) then (Option.bind (F_offset_two [(.i (Int.tmod (i64 (Int.tdiv (i64 (0 - x_0)) 60)) 60))]) fun r_1 =>
    onS r_1 fun s_1 ds_3 =>
    bif (decide ((((([45] : List UInt8) ++ s_0)).length + (s_1).length) ≤ 9223372036854775807)) then (bif (!decide ((Int.tmod (i64 (0 - x_0)) 60) = 0)) then (Option.bind (F_offset_two [(.i (Int.tmod (i64 (0 - x_0)) 60))]) fun r_2 =>
     onS r_2 fun s_2 ds_4 =>
     bif (decide (((((([45] : List UInt8) ++ s_0) ++ s_1)).length + (s_2).length) ≤ 9223372036854775807)) then (some [(.s (((([45] : List UInt8) ++ s_0) ++ s_1) ++ s_2)), (.i 0)]) else none) else
    (some [(.s ((([45] : List UInt8) ++ s_0) ++ s_1)), (.i 0)])) else none) else none) else
   (Option.bind (Ax.formatInt [(.i (i64 (Int.tdiv x_0 3600)))]) fun r_3 =>
    onS r_3 fun s_3 ds_5 =>
    bif (decide ((0 + (s_3).length) ≤ 9223372036854775807)) then (Option.bind (F_offset_two [(.i (Int.tmod (i64 (Int.tdiv x_0 60)) 60))]) fun r_4 =>
    onS r_4 fun s_4 ds_6 =>
    bif (decide ((((([] : List UInt8) ++ s_3)).length + (s_4).length) ≤ 9223372036854775807)) then (bif (!decide ((Int.tmod x_0 60) = 0)) then (Option.bind (F_offset_two [(.i (Int.tmod x_0 60))]) fun r_5 =>
     onS r_5 fun s_5 ds_7 =>
     bif (decide (((((([] : List UInt8) ++ s_3) ++ s_4)).length + (s_5).length) ≤ 9223372036854775807)) then (some [(.s (((([] : List UInt8) ++ s_3) ++ s_4) ++ s_5)), (.i 0)]) else none) else
    (some [(.s ((([] : List UInt8) ++ s_3) ++ s_4)), (.i 0)])) else none) else none))
noncomputable def F_law04_works : List Dat → Option (List Dat) := fun ds_0 =>
  Option.bind (F_offset_Parse [(.s ([48] : List UInt8))]) fun r_0 =>
  onI r_0 fun i_0 ds_1 =>
  onI ds_1 fun i_1 ds_2 =>
  Option.bind (bif (!decide (i_0 = 0)) then (some true) else
   (bif (!decide (i_1 = 0)) then (some true) else
    (some false))) fun b_0 =>
  bif b_0 then (some [(.b false)]) else
  (Option.bind (F_offset_Parse [(.s ([49] : List UInt8))]) fun r_1 =>
   onI r_1 fun i_2 ds_3 =>
   onI ds_3 fun i_3 ds_4 =>
   Option.bind (bif (!decide (i_2 = 3600)) then (some true) else
    (bif (!decide (i_3 = 0)) then (some true) else
     (some false))) fun b_1 =>
   bif b_1 then (some [(.b false)]) else
   (Option.bind (F_offset_Parse [(.s ([49, 58, 51, 48] : List UInt8))]) fun r_2 =>
    onI r_2 fun i_4 ds_5 =>
    onI ds_5 fun i_5 ds_6 =>
    Option.bind (bif (!decide (i_4 = 5400)) then (some true) else
     (bif (!decide (i_5 = 0)) then (some true) else
      (some false))) fun b_2 =>
    bif b_2 then (some [(.b false)]) else
    (Option.bind (F_offset_Parse [(.s ([45, 49, 58, 51, 48] : List UInt8))]) fun r_3 =>
     onI r_3 fun i_6 ds_7 =>
     onI ds_7 fun i_7 ds_8 =>
     Option.bind (bif (!decide (i_6 = (-5400))) then (some true) else
      (bif (!decide (i_7 = 0)) then (some true) else
       (some false))) fun b_3 =>
     bif b_3 then (some [(.b false)]) else
     (Option.bind (F_offset_Parse [(.s ([48, 58, 48, 48, 58, 48, 49] : List UInt8))]) fun r_4 =>
      onI r_4 fun i_8 ds_9 =>
      onI ds_9 fun i_9 ds_10 =>
      Option.bind (bif (!decide (i_8 = 1)) then (some true) else
       (bif (!decide (i_9 = 0)) then (some true) else
        (some false))) fun b_4 =>
      bif b_4 then (some [(.b false)]) else
      (Option.bind (F_offset_Parse [(.s ([45, 48, 58, 48, 48, 58, 48, 49] : List UInt8))]) fun r_5 =>
       onI r_5 fun i_10 ds_11 =>
       onI ds_11 fun i_11 ds_12 =>
       Option.bind (bif (!decide (i_10 = (-1))) then (some true) else
        (bif (!decide (i_11 = 0)) then (some true) else
         (some false))) fun b_5 =>
       bif b_5 then (some [(.b false)]) else
       (Option.bind (F_offset_Parse [(.s ([49, 54, 55, 58, 53, 57, 58, 53, 57] : List UInt8))]) fun r_6 =>
        onI r_6 fun i_12 ds_13 =>
        onI ds_13 fun i_13 ds_14 =>
        Option.bind (bif (!decide (i_12 = 604799)) then (some true) else
         (bif (!decide (i_13 = 0)) then (some true) else
          (some false))) fun b_6 =>
        bif b_6 then (some [(.b false)]) else
        (Option.bind (F_offset_Parse [(.s ([49, 54, 56] : List UInt8))]) fun r_7 =>
         onI r_7 fun i_14 ds_15 =>
         onI ds_15 fun i_15 ds_16 =>
         Option.bind (bif (!decide (i_14 = 0)) then (some true) else
          (bif (!decide (i_15 = 3)) then (some true) else
           (some false))) fun b_7 =>
         bif b_7 then (some [(.b false)]) else
         (Option.bind (F_offset_Parse [(.s ([57, 57, 57, 58, 53, 57, 58, 53, 57] : List UInt8))]) fun r_8 =>
          onI r_8 fun i_16 ds_17 =>
          onI ds_17 fun i_17 ds_18 =>
          Option.bind (bif (!decide (i_16 = 0)) then (some true) else
           (bif (!decide (i_17 = 3)) then (some true) else
            (some false))) fun b_8 =>
          bif b_8 then (some [(.b false)]) else
          (Option.bind (F_offset_Parse [(.s ([] : List UInt8))]) fun r_9 =>
           onI r_9 fun i_18 ds_19 =>
           onI ds_19 fun i_19 ds_20 =>
           Option.bind (bif (!decide (i_18 = 0)) then (some true) else
            (bif (!decide (i_19 = 5)) then (some true) else
             (some false))) fun b_9 =>
           bif b_9 then (some [(.b false)]) else
           (Option.bind (F_offset_Parse [(.s ([45] : List UInt8))]) fun r_10 =>
            onI r_10 fun i_20 ds_21 =>
            onI ds_21 fun i_21 ds_22 =>
            Option.bind (bif (!decide (i_20 = 0)) then (some true) else
             (bif (!decide (i_21 = 5)) then (some true) else
              (some false))) fun b_10 =>
            bif b_10 then (some [(.b false)]) else
            (Option.bind (F_offset_Parse [(.s ([45, 48] : List UInt8))]) fun r_11 =>
             onI r_11 fun i_22 ds_23 =>
             onI ds_23 fun i_23 ds_24 =>
             Option.bind (bif (!decide (i_22 = 0)) then (some true) else
              (bif (!decide (i_23 = 5)) then (some true) else
               (some false))) fun b_11 =>
             bif b_11 then (some [(.b false)]) else
             (Option.bind (F_offset_Parse [(.s ([45, 48, 58, 48, 48] : List UInt8))]) fun r_12 =>
              onI r_12 fun i_24 ds_25 =>
              onI ds_25 fun i_25 ds_26 =>
              Option.bind (bif (!decide (i_24 = 0)) then (some true) else
               (bif (!decide (i_25 = 5)) then (some true) else
                (some false))) fun b_12 =>
              bif b_12 then (some [(.b false)]) else
              (Option.bind (F_offset_Parse [(.s ([48, 49] : List UInt8))]) fun r_13 =>
               onI r_13 fun i_26 ds_27 =>
               onI ds_27 fun i_27 ds_28 =>
               Option.bind (bif (!decide (i_26 = 0)) then (some true) else
                (bif (!decide (i_27 = 5)) then (some true) else
                 (some false))) fun b_13 =>
               bif b_13 then (some [(.b false)]) else
               (Option.bind (F_offset_Parse [(.s ([49, 58, 53] : List UInt8))]) fun r_14 =>
                onI r_14 fun i_28 ds_29 =>
                onI ds_29 fun i_29 ds_30 =>
                Option.bind (bif (!decide (i_28 = 0)) then (some true) else
                 (bif (!decide (i_29 = 5)) then (some true) else
                  (some false))) fun b_14 =>
                bif b_14 then (some [(.b false)]) else
                (Option.bind (F_offset_Parse [(.s ([49, 58, 54, 48] : List UInt8))]) fun r_15 =>
                 onI r_15 fun i_30 ds_31 =>
                 onI ds_31 fun i_31 ds_32 =>
                 Option.bind (bif (!decide (i_30 = 0)) then (some true) else
                  (bif (!decide (i_31 = 5)) then (some true) else
                   (some false))) fun b_15 =>
                 bif b_15 then (some [(.b false)]) else
                 (Option.bind (F_offset_Parse [(.s ([49, 58, 48, 48, 58] : List UInt8))]) fun r_16 =>
                  onI r_16 fun i_32 ds_33 =>
                  onI ds_33 fun i_33 ds_34 =>
                  Option.bind (bif (!decide (i_32 = 0)) then (some true) else
                   (bif (!decide (i_33 = 5)) then (some true) else
                    (some false))) fun b_16 =>
                  bif b_16 then (some [(.b false)]) else
                  (Option.bind (F_offset_Parse [(.s ([43, 49] : List UInt8))]) fun r_17 =>
                   onI r_17 fun i_34 ds_35 =>
                   onI ds_35 fun i_35 ds_36 =>
                   Option.bind (bif (!decide (i_34 = 0)) then (some true) else
                    (bif (!decide (i_35 = 5)) then (some true) else
                     (some false))) fun b_17 =>
                   bif b_17 then (some [(.b false)]) else
                   (Option.bind (F_offset_Parse [(.s ([49, 48, 48, 48] : List UInt8))]) fun r_18 =>
                    onI r_18 fun i_36 ds_37 =>
                    onI ds_37 fun i_37 ds_38 =>
                    Option.bind (bif (!decide (i_36 = 0)) then (some true) else
                     (bif (!decide (i_37 = 5)) then (some true) else
                      (some false))) fun b_18 =>
                    bif b_18 then (some [(.b false)]) else
                    (Option.bind (F_offset_Parse [(.s ([49, 58, 48, 48, 58, 48, 48, 58, 48, 48] : List UInt8))]) fun r_19 =>
                     onI r_19 fun i_38 ds_39 =>
                     onI ds_39 fun i_39 ds_40 =>
                     Option.bind (bif (!decide (i_38 = 0)) then (some true) else
                      (bif (!decide (i_39 = 5)) then (some true) else
                       (some false))) fun b_19 =>
                     bif b_19 then (some [(.b false)]) else
                     (Option.bind (F_offset_Print [(.i 0)]) fun r_20 =>
                      onS r_20 fun s_0 ds_41 =>
                      onI ds_41 fun i_40 ds_42 =>
                      Option.bind (bif (!(s_0 == ([48, 58, 48, 48] : List UInt8))) then (some true) else
                       (bif (!decide (i_40 = 0)) then (some true) else
                        (some false))) fun b_20 =>
                      bif b_20 then (some [(.b false)]) else
                      (Option.bind (F_offset_Print [(.i 3600)]) fun r_21 =>
                       onS r_21 fun s_1 ds_43 =>
                       onI ds_43 fun i_41 ds_44 =>
                       Option.bind (bif (!(s_1 == ([49, 58, 48, 48] : List UInt8))) then (some true) else
                        (bif (!decide (i_41 = 0)) then (some true) else
                         (some false))) fun b_21 =>
                       bif b_21 then (some [(.b false)]) else
                       (Option.bind (F_offset_Print [(.i (-5400))]) fun r_22 =>
                        onS r_22 fun s_2 ds_45 =>
                        onI ds_45 fun i_42 ds_46 =>
                        Option.bind (bif (!(s_2 == ([45, 49, 58, 51, 48] : List UInt8))) then (some true) else
                         (bif (!decide (i_42 = 0)) then (some true) else
                          (some false))) fun b_22 =>
                        bif b_22 then (some [(.b false)]) else
                        (Option.bind (F_offset_Print [(.i 1)]) fun r_23 =>
                         onS r_23 fun s_3 ds_47 =>
                         onI ds_47 fun i_43 ds_48 =>
                         Option.bind (bif (!(s_3 == ([48, 58, 48, 48, 58, 48, 49] : List UInt8))) then (some true) else
                          (bif (!decide (i_43 = 0)) then (some true) else
                           (some false))) fun b_23 =>
                         bif b_23 then (some [(.b false)]) else
                         (Option.bind (F_offset_Print [(.i (-604799))]) fun r_24 =>
                          onS r_24 fun s_4 ds_49 =>
                          onI ds_49 fun i_44 ds_50 =>
                          Option.bind (bif (!(s_4 == ([45, 49, 54, 55, 58, 53, 57, 58, 53, 57] : List UInt8))) then (some true) else
                           (bif (!decide (i_44 = 0)) then (some true) else
                            (some false))) fun b_24 =>
                          bif b_24 then (some [(.b false)]) else
                          (Option.bind (F_offset_Print [(.i 604800)]) fun r_25 =>
                           onS r_25 fun s_5 ds_51 =>
                           onI ds_51 fun i_45 ds_52 =>
                           Option.bind (bif (!(s_5 == ([] : List UInt8))) then (some true) else
                            (bif (!decide (i_45 = 3)) then (some true) else
                             (some false))) fun b_25 =>
                           bif b_25 then (some [(.b false)]) else
                           (Option.bind (F_offset_Print [(.i (-9223372036854775808))]) fun r_26 =>
                            onS r_26 fun s_6 ds_53 =>
                            onI ds_53 fun i_46 ds_54 =>
                            Option.bind (bif (!(s_6 == ([] : List UInt8))) then (some true) else
                             (bif (!decide (i_46 = 3)) then (some true) else
                              (some false))) fun b_26 =>
                            bif b_26 then (some [(.b false)]) else
                            (some [(.b true)])))))))))))))))))))))))))))
noncomputable def F_ref04_digit : List Dat → Option (List Dat) := fun ds_0 =>
  onI ds_0 fun c_0 ds_1 =>
  Option.bind (bif (decide (c_0 < 48)) then (some true) else
   (bif (decide (57 < c_0)) then (some true) else
    (some false))) fun b_0 =>
  bif b_0 then (some [(.i (-1))]) else
  (some [(.i (i64 (u8 (c_0 - 48))))])
noncomputable def F_ref04_pair : List Dat → Option (List Dat) := fun ds_0 =>
  onS ds_0 fun s_0 ds_1 =>
  onI ds_1 fun at_0 ds_2 =>
  bif (decide ((((s_0).length : Nat) : Int) < (i64 (at_0 + 2)))) then (some [(.i (-1))]) else
  (bif (decide ((0 ≤ at_0) ∧ (at_0 < (((s_0).length : Nat) : Int)))) then (Option.bind (F_ref04_digit [(.i ((((List.getD s_0 (at_0).toNat 0)).toNat : Nat) : Int))]) fun r_0 =>
   onI r_0 fun i_0 ds_3 =>
   bif (decide (i_0 < 0)) then (some [(.i (-1))]) else
   (bif (decide ((0 ≤ (i64 (at_0 + 1))) ∧ ((i64 (at_0 + 1)) < (((s_0).length : Nat) : Int)))) then (Option.bind (F_ref04_digit [(.i ((((List.getD s_0 ((i64 (at_0 + 1))).toNat 0)).toNat : Nat) : Int))]) fun r_1 =>
    onI r_1 fun i_1 ds_4 =>
    bif (decide (i_1 < 0)) then (some [(.i (-1))]) else
    (bif (decide ((0 ≤ at_0) ∧ (at_0 < (((s_0).length : Nat) : Int)))) then (Option.bind (F_ref04_digit [(.i ((((List.getD s_0 (at_0).toNat 0)).toNat : Nat) : Int))]) fun r_2 =>
     onI r_2 fun i_2 ds_5 =>
     bif (decide (5 < i_2)) then (some [(.i (-1))]) else
     (bif (decide ((0 ≤ at_0) ∧ (at_0 < (((s_0).length : Nat) : Int)))) then (Option.bind (F_ref04_digit [(.i ((((List.getD s_0 (at_0).toNat 0)).toNat : Nat) : Int))]) fun r_3 =>
      onI r_3 fun i_3 ds_6 =>
      bif (decide ((0 ≤ (i64 (at_0 + 1))) ∧ ((i64 (at_0 + 1)) < (((s_0).length : Nat) : Int)))) then (Option.bind (F_ref04_digit [(.i ((((List.getD s_0 ((i64 (at_0 + 1))).toNat 0)).toNat : Nat) : Int))]) fun r_4 =>
      onI r_4 fun i_4 ds_7 =>
      some [(.i (i64 ((i64 (10 * i_3)) + i_4)))]) else none) else none)) else none)) else none)) else none)
noncomputable def F_ref04_form_L0 : List Dat → Option (List Dat ⊕ List Dat) := fun ds_2 =>
  onS ds_2 fun s_1 ds_3 =>
  onI ds_3 fun n_0 ds_4 =>
  onI ds_4 fun hours_0 ds_5 =>
  bif (decide (n_0 < (((s_1).length : Nat) : Int))) then (bif (decide ((0 ≤ n_0) ∧ (n_0 < (((s_1).length : Nat) : Int)))) then (Option.bind (F_ref04_digit [(.i ((((List.getD s_1 (n_0).toNat 0)).toNat : Nat) : Int))]) fun r_0 =>
   onI r_0 fun i_0 ds_6 =>
   bif (decide (0 ≤ i_0)) then (bif (decide ((0 ≤ n_0) ∧ (n_0 < (((s_1).length : Nat) : Int)))) then (Option.bind (F_ref04_digit [(.i ((((List.getD s_1 (n_0).toNat 0)).toNat : Nat) : Int))]) fun r_1 =>
    onI r_1 fun i_1 ds_7 =>
    bif (decide (3 < (i64 (n_0 + 1)))) then (Option.map .inr (some [(.i 0), (.b false)])) else
    (some (.inl [(.s s_1), (.i (i64 (n_0 + 1))), (.i (i64 ((i64 (10 * hours_0)) + i_1)))]))) else none) else
   (Option.map .inr (Option.bind (bif (decide (n_0 = 0)) then (some true) else
      (bif (decide (1 < n_0)) then (bif (decide (((0 : Int) ≤ 0) ∧ (0 < (((s_1).length : Nat) : Int)))) then (bif (decide (((((List.getD s_1 0 0)).toNat : Nat) : Int) = 48)) then (some true) else
        (some false)) else none) else
       (some false))) fun b_0 =>
     bif b_0 then (some [(.i 0), (.b false)]) else
     (bif (decide ((((s_1).length : Nat) : Int) = n_0)) then (some [(.i (i64 (3600 * hours_0))), (.b true)]) else
      (Option.bind (F_ref04_pair [(.s s_1), (.i (i64 (n_0 + 1)))]) fun r_2 =>
       onI r_2 fun i_2 ds_8 =>
       Option.bind (bif (decide ((0 ≤ n_0) ∧ (n_0 < (((s_1).length : Nat) : Int)))) then (bif (!decide (((((List.getD s_1 (n_0).toNat 0)).toNat : Nat) : Int) = 58)) then (some true) else
        (bif (decide (i_2 < 0)) then (some true) else
         (some false))) else none) fun b_1 =>
       bif b_1 then (some [(.i 0), (.b false)]) else
       (bif (decide ((((s_1).length : Nat) : Int) = (i64 (n_0 + 3)))) then (some [(.i (i64 ((i64 (3600 * hours_0)) + (i64 (60 * i_2))))), (.b true)]) else
        (Option.bind (F_ref04_pair [(.s s_1), (.i (i64 (n_0 + 4)))]) fun r_3 =>
         onI r_3 fun i_3 ds_9 =>
         Option.bind (bif (decide ((0 ≤ (i64 (n_0 + 3))) ∧ ((i64 (n_0 + 3)) < (((s_1).length : Nat) : Int)))) then (bif (!decide (((((List.getD s_1 ((i64 (n_0 + 3))).toNat 0)).toNat : Nat) : Int) = 58)) then (some true) else
          (bif (decide (i_3 < 0)) then (some true) else
           (bif (!decide ((((s_1).length : Nat) : Int) = (i64 (n_0 + 6)))) then (some true) else
            (some false)))) else none) fun b_2 =>
         bif b_2 then (some [(.i 0), (.b false)]) else
         (some [(.i (i64 ((i64 ((i64 (3600 * hours_0)) + (i64 (60 * i_2)))) + i_3))), (.b true)])))))))) else none) else
  (Option.map .inr (Option.bind (bif (decide (n_0 = 0)) then (some true) else
     (bif (decide (1 < n_0)) then (bif (decide (((0 : Int) ≤ 0) ∧ (0 < (((s_1).length : Nat) : Int)))) then (bif (decide (((((List.getD s_1 0 0)).toNat : Nat) : Int) = 48)) then (some true) else
       (some false)) else none) else
      (some false))) fun b_3 =>
    bif b_3 then (some [(.i 0), (.b false)]) else
    (bif (decide ((((s_1).length : Nat) : Int) = n_0)) then (some [(.i (i64 (3600 * hours_0))), (.b true)]) else
     (Option.bind (F_ref04_pair [(.s s_1), (.i (i64 (n_0 + 1)))]) fun r_4 =>
      onI r_4 fun i_4 ds_10 =>
      Option.bind (bif (decide ((0 ≤ n_0) ∧ (n_0 < (((s_1).length : Nat) : Int)))) then (bif (!decide (((((List.getD s_1 (n_0).toNat 0)).toNat : Nat) : Int) = 58)) then (some true) else
       (bif (decide (i_4 < 0)) then (some true) else
        (some false))) else none) fun b_4 =>
      bif b_4 then (some [(.i 0), (.b false)]) else
      (bif (decide ((((s_1).length : Nat) : Int) = (i64 (n_0 + 3)))) then (some [(.i (i64 ((i64 (3600 * hours_0)) + (i64 (60 * i_4))))), (.b true)]) else
       (Option.bind (F_ref04_pair [(.s s_1), (.i (i64 (n_0 + 4)))]) fun r_5 =>
        onI r_5 fun i_5 ds_11 =>
        Option.bind (bif (decide ((0 ≤ (i64 (n_0 + 3))) ∧ ((i64 (n_0 + 3)) < (((s_1).length : Nat) : Int)))) then (bif (!decide (((((List.getD s_1 ((i64 (n_0 + 3))).toNat 0)).toNat : Nat) : Int) = 58)) then (some true) else
         (bif (decide (i_5 < 0)) then (some true) else
          (bif (!decide ((((s_1).length : Nat) : Int) = (i64 (n_0 + 6)))) then (some true) else
           (some false)))) else none) fun b_5 =>
        bif b_5 then (some [(.i 0), (.b false)]) else
        (some [(.i (i64 ((i64 ((i64 (3600 * hours_0)) + (i64 (60 * i_4)))) + i_5))), (.b true)])))))))
noncomputable def F_ref04_form : List Dat → Option (List Dat) := fun ds_0 =>
  onS ds_0 fun s_0 ds_1 =>
  iter F_ref04_form_L0 [(.s s_0), (.i 0), (.i 0)]
noncomputable def F_ref04_Parse : List Dat → Option (List Dat) := fun ds_0 =>
  onS ds_0 fun s_0 ds_1 =>
  Option.bind (bif (decide (0 < (((s_0).length : Nat) : Int))) then (bif (decide (((0 : Int) ≤ 0) ∧ (0 < (((s_0).length : Nat) : Int)))) then (bif (decide (((((List.getD s_0 0 0)).toNat : Nat) : Int) = 45)) then (some true) else
    (some false)) else none) else
   (some false)) fun b_0 =>
  bif b_0 then (bif (decide (((0 : Int) ≤ 1) ∧ (1 ≤ (((s_0).length : Nat) : Int)))) then (Option.bind (F_ref04_form [(.s (List.take ((s_0).length - 1) (List.drop 1 s_0)))]) fun r_0 =>
   onI r_0 fun i_0 ds_2 =>
   onB ds_2 fun b_1 ds_3 =>
   Option.bind (bif (!b_1) then (some true) else
    (bif b_0 then (bif (decide (i_0 = 0)) then (some true) else
      (some false)) else
     (some false))) fun b_2 =>
   bif b_2 then (some [(.i 0), (.i 5)]) else
   (bif (decide (604799 < i_0)) then (some [(.i 0), (.i 3)]) else
    (bif b_0 then (some [(.i (i64 (0 - i_0))), (.i 0)]) else
     (some [(.i i_0), (.i 0)])))) else none) else
  (Option.bind (F_ref04_form [(.s s_0)]) fun r_1 =>
   onI r_1 fun i_1 ds_4 =>
   onB ds_4 fun b_3 ds_5 =>
   Option.bind (bif (!b_3) then (some true) else
    (bif b_0 then (bif (decide (i_1 = 0)) then (some true) else
      (some false)) else
     (some false))) fun b_4 =>
   bif b_4 then (some [(.i 0), (.i 5)]) else
   (bif (decide (604799 < i_1)) then (some [(.i 0), (.i 3)]) else
    (bif b_0 then (some [(.i (i64 (0 - i_1))), (.i 0)]) else
     (some [(.i i_1), (.i 0)]))))
noncomputable def F_law04_OffsetParses : List Dat → Option (List Dat) := fun ds_0 =>
  onS ds_0 fun s_0 ds_1 =>
  bif (decide (1000 < (((s_0).length : Nat) : Int))) then (Option.bind (F_law04_works []) fun r_0 =>
   onB r_0 fun b_0 ds_2 =>
   some [(.b b_0)]) else
  (Option.bind (F_offset_Parse [(.s s_0)]) fun r_1 =>
   onI r_1 fun i_0 ds_3 =>
   onI ds_3 fun i_1 ds_4 =>
   Option.bind (F_ref04_Parse [(.s s_0)]) fun r_2 =>
   onI r_2 fun i_2 ds_5 =>
   onI ds_5 fun i_3 ds_6 =>
   bif (decide (i_0 = i_2)) then (bif (decide (i_1 = i_3)) then (Option.bind (F_law04_works []) fun r_3 =>
     onB r_3 fun b_1 ds_7 =>
     some [(.b b_1)]) else
    (some [(.b false)])) else
   (some [(.b false)]))
noncomputable def F_ref04_Decimal_body (self : List Dat → Option (List Dat)) : List Dat → Option (List Dat) := fun ds_0 =>
  onI ds_0 fun n_0 ds_1 =>
  bif (decide (n_0 < 10)) then (bif (decide ((0 ≤ (i64 (n_0 + 1))) ∧ ((i64 (n_0 + 1)) ≤ 10))) then (bif (decide ((0 ≤ n_0) ∧ (n_0 ≤ ((((i64 (n_0 + 1))).toNat : Nat) : Int)))) then (some [(.s (List.take (((i64 (n_0 + 1))).toNat - (n_0).toNat) (List.drop (n_0).toNat ([48, 49, 50, 51, 52, 53, 54, 55, 56, 57] : List UInt8))))]) else none) else none) else
  (Option.bind (self [(.i (i64 (Int.tdiv n_0 10)))]) fun r_0 =>
   onS r_0 fun s_0 ds_2 =>
   Option.bind (self [(.i (Int.tmod n_0 10))]) fun r_1 =>
   onS r_1 fun s_1 ds_3 =>
   bif (decide (((s_0).length + (s_1).length) ≤ 9223372036854775807)) then (some [(.s (s_0 ++ s_1))]) else none)
noncomputable def F_ref04_Decimal : List Dat → Option (List Dat) := fun ds => fixN F_ref04_Decimal_body ((fun ds => match ds with | [.i n] => n.toNat + 1 | _ => 0 : List Dat → Nat) ds) ds
noncomputable def F_ref04_Two : List Dat → Option (List Dat) := fun ds_0 =>
  onI ds_0 fun n_0 ds_1 =>
  Option.bind (F_ref04_Decimal [(.i (i64 (Int.tdiv n_0 10)))]) fun r_0 =>
  onS r_0 fun s_0 ds_2 =>
  Option.bind (F_ref04_Decimal [(.i (Int.tmod n_0 10))]) fun r_1 =>
  onS r_1 fun s_1 ds_3 =>
  bif (decide (((s_0).length + (s_1).length) ≤ 9223372036854775807)) then (some [(.s (s_0 ++ s_1))]) else none
noncomputable def F_ref04_Print_body (self : List Dat → Option (List Dat)) : List Dat → Option (List Dat) := fun ds_0 =>
  onI ds_0 fun x_0 ds_1 =>
  Option.bind (bif (decide (x_0 < (-604799))) then (some true) else
   (bif (decide (604799 < x_0)) then (some true) else
    (some false))) fun b_0 =>
  bif b_0 then (some [(.s ([] : List UInt8)), (.i 3)]) else
  (bif (decide (x_0 < 0)) then (Option.bind (self [(.i (i64 (0 - x_0)))]) fun r_0 =>
    onS r_0 fun s_0 ds_2 =>
    onI ds_2 fun i_0 ds_3 =>
    bif (decide ((1 + (s_0).length) ≤ 9223372036854775807)) then (some [(.s (([45] : List UInt8) ++ s_0)), (.i 0)]) else none) else
   (Option.bind (F_ref04_Decimal [(.i (i64 (Int.tdiv x_0 3600)))]) fun r_1 =>
    onS r_1 fun s_1 ds_4 =>
    bif (decide (((s_1).length + 1) ≤ 9223372036854775807)) then (Option.bind (F_ref04_Two [(.i (Int.tmod (i64 (Int.tdiv x_0 60)) 60))]) fun r_2 =>
    onS r_2 fun s_2 ds_5 =>
    bif (decide ((((s_1 ++ ([58] : List UInt8))).length + (s_2).length) ≤ 9223372036854775807)) then (bif (!decide ((Int.tmod x_0 60) = 0)) then (bif (decide (((((s_1 ++ ([58] : List UInt8)) ++ s_2)).length + 1) ≤ 9223372036854775807)) then (Option.bind (F_ref04_Two [(.i (Int.tmod x_0 60))]) fun r_3 =>
     onS r_3 fun s_3 ds_6 =>
     bif (decide ((((((s_1 ++ ([58] : List UInt8)) ++ s_2) ++ ([58] : List UInt8))).length + (s_3).length) ≤ 9223372036854775807)) then (some [(.s ((((s_1 ++ ([58] : List UInt8)) ++ s_2) ++ ([58] : List UInt8)) ++ s_3)), (.i 0)]) else none) else none) else
    (some [(.s ((s_1 ++ ([58] : List UInt8)) ++ s_2)), (.i 0)])) else none) else none))
noncomputable def F_ref04_Print : List Dat → Option (List Dat) := fun ds => fixN F_ref04_Print_body ((fun _ => 2 : List Dat → Nat) ds) ds
noncomputable def F_law04_OffsetPrints : List Dat → Option (List Dat) := fun ds_0 =>
  onI ds_0 fun x_0 ds_1 =>
  Option.bind (F_offset_Print [(.i x_0)]) fun r_0 =>
  onS r_0 fun s_0 ds_2 =>
  onI ds_2 fun i_0 ds_3 =>
  Option.bind (F_ref04_Print [(.i x_0)]) fun r_1 =>
  onS r_1 fun s_1 ds_4 =>
  onI ds_4 fun i_1 ds_5 =>
  bif (s_0 == s_1) then (bif (decide (i_0 = i_1)) then (Option.bind (F_law04_works []) fun r_2 =>
    onB r_2 fun b_0 ds_6 =>
    some [(.b b_0)]) else
   (some [(.b false)])) else
  (some [(.b false)])
noncomputable def F_law04_OffsetBack : List Dat → Option (List Dat) := fun ds_0 =>
  onI ds_0 fun n_0 ds_1 =>
  Option.bind (F_offset_Print [(.i (i64 (Int.tmod n_0 604800)))]) fun r_0 =>
  onS r_0 fun s_0 ds_2 =>
  onI ds_2 fun i_0 ds_3 =>
  Option.bind (F_offset_Parse [(.s s_0)]) fun r_1 =>
  onI r_1 fun i_1 ds_4 =>
  onI ds_4 fun i_2 ds_5 =>
  Option.bind (F_offset_Print [(.i i_1)]) fun r_2 =>
  onS r_2 fun s_1 ds_6 =>
  onI ds_6 fun i_3 ds_7 =>
  Option.bind (bif (!decide (i_0 = 0)) then (some true) else
   (bif (!decide (i_2 = 0)) then (some true) else
    (bif (!decide (i_3 = 0)) then (some true) else
     (bif (!decide ((i64 (Int.tmod n_0 604800)) = i_1)) then (some true) else
      (bif (!(s_0 == s_1)) then (some true) else
       (some false)))))) fun b_0 =>
  bif b_0 then (some [(.b false)]) else
  (Option.bind (F_offset_Print [(.i (i64 (0 - (i64 (Int.tmod n_0 604800)))))]) fun r_3 =>
   onS r_3 fun s_2 ds_8 =>
   onI ds_8 fun i_4 ds_9 =>
   Option.bind (F_offset_Parse [(.s s_2)]) fun r_4 =>
   onI r_4 fun i_5 ds_10 =>
   onI ds_10 fun i_6 ds_11 =>
   bif (decide ((i64 (Int.tmod n_0 604800)) = 0)) then (bif (s_2 == s_0) then (bif (decide (i_4 = 0)) then (bif (decide (i_5 = 0)) then (bif (decide (i_6 = 0)) then (Option.bind (F_law04_works []) fun r_5 =>
        onB r_5 fun b_1 ds_12 =>
        some [(.b b_1)]) else
       (some [(.b false)])) else
      (some [(.b false)])) else
     (some [(.b false)])) else
    (some [(.b false)])) else
   (bif (decide (i_4 = 0)) then (bif (decide ((1 + (s_0).length) ≤ 9223372036854775807)) then (bif (s_2 == (([45] : List UInt8) ++ s_0)) then (bif (decide (i_6 = 0)) then (bif (decide (i_5 = (i64 (0 - (i64 (Int.tmod n_0 604800)))))) then (Option.bind (F_law04_works []) fun r_6 =>
        onB r_6 fun b_2 ds_13 =>
        some [(.b b_2)]) else
       (some [(.b false)])) else
      (some [(.b false)])) else
     (some [(.b false)])) else none) else
    (some [(.b false)])))
noncomputable def F_internal_stringslite_Cut : List Dat → Option (List Dat) := fun ds_0 =>
  onS ds_0 fun s_0 ds_1 =>
  onS ds_1 fun sep_0 ds_2 =>
  Option.bind (Ax.strIndex [(.s s_0), (.s sep_0)]) fun r_0 =>
  onI r_0 fun i_0 ds_3 =>
  bif (decide (0 ≤ i_0)) then (bif (decide ((0 ≤ i_0) ∧ (i_0 ≤ (((s_0).length : Nat) : Int)))) then (bif (decide ((0 ≤ (i64 (i_0 + (((sep_0).length : Nat) : Int)))) ∧ ((i64 (i_0 + (((sep_0).length : Nat) : Int))) ≤ (((s_0).length : Nat) : Int)))) then (some [(.s (List.take (i_0).toNat (List.drop 0 s_0))), (.s (List.take ((s_0).length - ((i64 (i_0 + (((sep_0).length : Nat) : Int)))).toNat) (List.drop ((i64 (i_0 + (((sep_0).length : Nat) : Int)))).toNat s_0))), (.b true)]) else none) else none) else
  (some [(.s s_0), (.s ([] : List UInt8)), (.b false)])
noncomputable def F_strings_Cut : List Dat → Option (List Dat) := fun ds_0 =>
  onS ds_0 fun s_0 ds_1 =>
  onS ds_1 fun sep_0 ds_2 =>
  Option.bind (F_internal_stringslite_Cut [(.s s_0), (.s sep_0)]) fun r_0 =>
  onS r_0 fun s_1 ds_3 =>
  onS ds_3 fun s_2 ds_4 =>
  onB ds_4 fun b_0 ds_5 =>
  some [(.s s_1), (.s s_2), (.b b_0)]
noncomputable def F_law04_OffsetFields : List Dat → Option (List Dat) := fun ds_0 =>
  onI ds_0 fun hours_0 ds_1 =>
  onI ds_1 fun minutes_0 ds_2 =>
  onI ds_2 fun seconds_0 ds_3 =>
  onB ds_3 fun minus_0 ds_4 =>
  Option.bind (F_offset_Print [(.i (i64 ((i64 ((i64 (3600 * (i64 (Int.tmod hours_0 168)))) + (i64 (60 * (i64 (Int.tmod minutes_0 60)))))) + (i64 (Int.tmod seconds_0 60)))))]) fun r_0 =>
  onS r_0 fun s_0 ds_5 =>
  onI ds_5 fun i_0 ds_6 =>
  bif (!decide (i_0 = 0)) then (some [(.b false)]) else
  (Option.bind (F_strings_Cut [(.s s_0), (.s ([58] : List UInt8))]) fun r_1 =>
   onS r_1 fun s_1 ds_7 =>
   onS ds_7 fun s_2 ds_8 =>
   onB ds_8 fun b_0 ds_9 =>
   bif (decide (((s_1).length + 1) ≤ 9223372036854775807)) then (Option.bind (bytesOf [(Ax.AV.int .u8 (Ax.I.sym (u8 (48 + (u8 (i64 (Int.tdiv (i64 (Int.tmod minutes_0 60)) 10))))))), (Ax.AV.int .u8 (Ax.I.sym (u8 (48 + (u8 (Int.tmod (i64 (Int.tmod minutes_0 60)) 10))))))]) fun s_3 =>
   bif (decide ((((s_1 ++ ([58] : List UInt8))).length + (s_3).length) ≤ 9223372036854775807)) then (bif (decide (((((s_1 ++ ([58] : List UInt8)) ++ s_3)).length + 1) ≤ 9223372036854775807)) then (Option.bind (bytesOf [(Ax.AV.int .u8 (Ax.I.sym (u8 (48 + (u8 (i64 (Int.tdiv (i64 (Int.tmod seconds_0 60)) 10))))))), (Ax.AV.int .u8 (Ax.I.sym (u8 (48 + (u8 (Int.tmod (i64 (Int.tmod seconds_0 60)) 10))))))]) fun s_4 =>
   bif (decide ((((((s_1 ++ ([58] : List UInt8)) ++ s_3) ++ ([58] : List UInt8))).length + (s_4).length) ≤ 9223372036854775807)) then (bif (decide ((i64 (Int.tmod seconds_0 60)) = 0)) then (bif (decide (((s_1).length + 1) ≤ 9223372036854775807)) then (Option.bind (bytesOf [(Ax.AV.int .u8 (Ax.I.sym (u8 (48 + (u8 (i64 (Int.tdiv (i64 (Int.tmod minutes_0 60)) 10))))))), (Ax.AV.int .u8 (Ax.I.sym (u8 (48 + (u8 (Int.tmod (i64 (Int.tmod minutes_0 60)) 10))))))]) fun s_5 =>
    bif (decide ((((s_1 ++ ([58] : List UInt8))).length + (s_5).length) ≤ 9223372036854775807)) then (bif (decide ((i64 (Int.tmod minutes_0 60)) = 0)) then (bif (!minus_0) then (Option.bind (F_offset_Parse [(.s ((((s_1 ++ ([58] : List UInt8)) ++ s_3) ++ ([58] : List UInt8)) ++ s_4))]) fun r_2 =>
      onI r_2 fun i_1 ds_10 =>
      onI ds_10 fun i_2 ds_11 =>
      Option.bind (bif (!decide (i_1 = (i64 ((i64 ((i64 (3600 * (i64 (Int.tmod hours_0 168)))) + (i64 (60 * (i64 (Int.tmod minutes_0 60)))))) + (i64 (Int.tmod seconds_0 60)))))) then (some true) else
       (bif (!decide (i_2 = 0)) then (some true) else
        (some false))) fun b_1 =>
      bif b_1 then (some [(.b false)]) else
      (bif (!minus_0) then (Option.bind (F_offset_Parse [(.s ((s_1 ++ ([58] : List UInt8)) ++ s_5))]) fun r_3 =>
        onI r_3 fun i_3 ds_12 =>
        onI ds_12 fun i_4 ds_13 =>
        Option.bind (bif (!decide (i_3 = (i64 ((i64 ((i64 (3600 * (i64 (Int.tmod hours_0 168)))) + (i64 (60 * (i64 (Int.tmod minutes_0 60)))))) + (i64 (Int.tmod seconds_0 60)))))) then (some true) else
         (bif (!decide (i_4 = 0)) then (some true) else
          (some false))) fun b_2 =>
        bif b_2 then (some [(.b false)]) else
        (bif (!minus_0) then (Option.bind (F_offset_Parse [(.s s_1)]) fun r_4 =>
          onI r_4 fun i_5 ds_14 =>
          onI ds_14 fun i_6 ds_15 =>
          Option.bind (bif (!decide (i_5 = (i64 ((i64 ((i64 (3600 * (i64 (Int.tmod hours_0 168)))) + (i64 (60 * (i64 (Int.tmod minutes_0 60)))))) + (i64 (Int.tmod seconds_0 60)))))) then (some true) else
           (bif (!decide (i_6 = 0)) then (some true) else
            (some false))) fun b_3 =>
          bif b_3 then (some [(.b false)]) else
          (bif (decide ((i64 (Int.tmod seconds_0 60)) = 0)) then (bif (s_0 == ((s_1 ++ ([58] : List UInt8)) ++ s_5)) then (Option.bind (F_law04_works []) fun r_5 =>
             onB r_5 fun b_4 ds_16 =>
             some [(.b b_4)]) else
            (some [(.b false)])) else
           (bif (s_0 == ((((s_1 ++ ([58] : List UInt8)) ++ s_3) ++ ([58] : List UInt8)) ++ s_4)) then (Option.bind (F_law04_works []) fun r_6 =>
             onB r_6 fun b_5 ds_17 =>
             some [(.b b_5)]) else
            (some [(.b false)])))) else
         (bif (decide ((1 + (s_1).length) ≤ 9223372036854775807)) then (Option.bind (F_offset_Parse [(.s (([45] : List UInt8) ++ s_1))]) fun r_7 =>
          onI r_7 fun i_7 ds_18 =>
          onI ds_18 fun i_8 ds_19 =>
          Option.bind (bif (decide ((i64 ((i64 ((i64 (3600 * (i64 (Int.tmod hours_0 168)))) + (i64 (60 * (i64 (Int.tmod minutes_0 60)))))) + (i64 (Int.tmod seconds_0 60)))) = 0)) then (bif (!decide (i_7 = 0)) then (some true) else
            (bif (!decide (i_8 = 5)) then (some true) else
             (bif (!decide ((i64 ((i64 ((i64 (3600 * (i64 (Int.tmod hours_0 168)))) + (i64 (60 * (i64 (Int.tmod minutes_0 60)))))) + (i64 (Int.tmod seconds_0 60)))) = 0)) then (bif (!decide (i_7 = (i64 (0 - (i64 ((i64 ((i64 (3600 * (i64 (Int.tmod hours_0 168)))) + (i64 (60 * (i64 (Int.tmod minutes_0 60)))))) + (i64 (Int.tmod seconds_0 60)))))))) then (some true) else
               (bif (!decide (i_8 = 0)) then (some true) else
                (some false))) else
              (some false)))) else
           (bif (!decide ((i64 ((i64 ((i64 (3600 * (i64 (Int.tmod hours_0 168)))) + (i64 (60 * (i64 (Int.tmod minutes_0 60)))))) + (i64 (Int.tmod seconds_0 60)))) = 0)) then (bif (!decide (i_7 = (i64 (0 - (i64 ((i64 ((i64 (3600 * (i64 (Int.tmod hours_0 168)))) + (i64 (60 * (i64 (Int.tmod minutes_0 60)))))) + (i64 (Int.tmod seconds_0 60)))))))) then (some true) else
             (bif (!decide (i_8 = 0)) then (some true) else
              (some false))) else
            (some false))) fun b_6 =>
          bif b_6 then (some [(.b false)]) else
          (bif (decide ((i64 (Int.tmod seconds_0 60)) = 0)) then (bif (s_0 == ((s_1 ++ ([58] : List UInt8)) ++ s_5)) then (Option.bind (F_law04_works []) fun r_8 =>
             onB r_8 fun b_7 ds_20 =>
             some [(.b b_7)]) else
            (some [(.b false)])) else
           (bif (s_0 == ((((s_1 ++ ([58] : List UInt8)) ++ s_3) ++ ([58] : List UInt8)) ++ s_4)) then (Option.bind (F_law04_works []) fun r_9 =>
             onB r_9 fun b_8 ds_21 =>
             some [(.b b_8)]) else
            (some [(.b false)])))) else none))) else
       (bif (decide ((1 + (((s_1 ++ ([58] : List UInt8)) ++ s_5)).length) ≤ 9223372036854775807)) then (Option.bind (F_offset_Parse [(.s (([45] : List UInt8) ++ ((s_1 ++ ([58] : List UInt8)) ++ s_5)))]) fun r_10 =>
        onI r_10 fun i_9 ds_22 =>
        onI ds_22 fun i_10 ds_23 =>
        Option.bind (bif (decide ((i64 ((i64 ((i64 (3600 * (i64 (Int.tmod hours_0 168)))) + (i64 (60 * (i64 (Int.tmod minutes_0 60)))))) + (i64 (Int.tmod seconds_0 60)))) = 0)) then (bif (!decide (i_9 = 0)) then (some true) else
          (bif (!decide (i_10 = 5)) then (some true) else
           (bif (!decide ((i64 ((i64 ((i64 (3600 * (i64 (Int.tmod hours_0 168)))) + (i64 (60 * (i64 (Int.tmod minutes_0 60)))))) + (i64 (Int.tmod seconds_0 60)))) = 0)) then (bif (!decide (i_9 = (i64 (0 - (i64 ((i64 ((i64 (3600 * (i64 (Int.tmod hours_0 168)))) + (i64 (60 * (i64 (Int.tmod minutes_0 60)))))) + (i64 (Int.tmod seconds_0 60)))))))) then (some true) else
             (bif (!decide (i_10 = 0)) then (some true) else
              (some false))) else
            (some false)))) else
         (bif (!decide ((i64 ((i64 ((i64 (3600 * (i64 (Int.tmod hours_0 168)))) + (i64 (60 * (i64 (Int.tmod minutes_0 60)))))) + (i64 (Int.tmod seconds_0 60)))) = 0)) then (bif (!decide (i_9 = (i64 (0 - (i64 ((i64 ((i64 (3600 * (i64 (Int.tmod hours_0 168)))) + (i64 (60 * (i64 (Int.tmod minutes_0 60)))))) + (i64 (Int.tmod seconds_0 60)))))))) then (some true) else
           (bif (!decide (i_10 = 0)) then (some true) else
            (some false))) else
          (some false))) fun b_9 =>
        bif b_9 then (some [(.b false)]) else
        (bif (!minus_0) then (Option.bind (F_offset_Parse [(.s s_1)]) fun r_11 =>
          onI r_11 fun i_11 ds_24 =>
          onI ds_24 fun i_12 ds_25 =>
          Option.bind (bif (!decide (i_11 = (i64 ((i64 ((i64 (3600 * (i64 (Int.tmod hours_0 168)))) + (i64 (60 * (i64 (Int.tmod minutes_0 60)))))) + (i64 (Int.tmod seconds_0 60)))))) then (some true) else
           (bif (!decide (i_12 = 0)) then (some true) else
            (some false))) fun b_10 =>
          bif b_10 then (some [(.b false)]) else
          (bif (decide ((i64 (Int.tmod seconds_0 60)) = 0)) then (bif (s_0 == ((s_1 ++ ([58] : List UInt8)) ++ s_5)) then (Option.bind (F_law04_works []) fun r_12 =>
             onB r_12 fun b_11 ds_26 =>
             some [(.b b_11)]) else
            (some [(.b false)])) else
           (bif (s_0 == ((((s_1 ++ ([58] : List UInt8)) ++ s_3) ++ ([58] : List UInt8)) ++ s_4)) then (Option.bind (F_law04_works []) fun r_13 =>
             onB r_13 fun b_12 ds_27 =>
             some [(.b b_12)]) else
            (some [(.b false)])))) else
         (bif (decide ((1 + (s_1).length) ≤ 9223372036854775807)) then (Option.bind (F_offset_Parse [(.s (([45] : List UInt8) ++ s_1))]) fun r_14 =>
          onI r_14 fun i_13 ds_28 =>
          onI ds_28 fun i_14 ds_29 =>
          Option.bind (bif (decide ((i64 ((i64 ((i64 (3600 * (i64 (Int.tmod hours_0 168)))) + (i64 (60 * (i64 (Int.tmod minutes_0 60)))))) + (i64 (Int.tmod seconds_0 60)))) = 0)) then (bif (!decide (i_13 = 0)) then (some true) else
            (bif (!decide (i_14 = 5)) then (some true) else
             (bif (!decide ((i64 ((i64 ((i64 (3600 * (i64 (Int.tmod hours_0 168)))) + (i64 (60 * (i64 (Int.tmod minutes_0 60)))))) + (i64 (Int.tmod seconds_0 60)))) = 0)) then (bif (!decide (i_13 = (i64 (0 - (i64 ((i64 ((i64 (3600 * (i64 (Int.tmod hours_0 168)))) + (i64 (60 * (i64 (Int.tmod minutes_0 60)))))) + (i64 (Int.tmod seconds_0 60)))))))) then (some true) else
               (bif (!decide (i_14 = 0)) then (some true) else
                (some false))) else
              (some false)))) else
           (bif (!decide ((i64 ((i64 ((i64 (3600 * (i64 (Int.tmod hours_0 168)))) + (i64 (60 * (i64 (Int.tmod minutes_0 60)))))) + (i64 (Int.tmod seconds_0 60)))) = 0)) then (bif (!decide (i_13 = (i64 (0 - (i64 ((i64 ((i64 (3600 * (i64 (Int.tmod hours_0 168)))) + (i64 (60 * (i64 (Int.tmod minutes_0 60)))))) + (i64 (Int.tmod seconds_0 60)))))))) then (some true) else
             (bif (!decide (i_14 = 0)) then (some true) else
              (some false))) else
            (some false))) fun b_13 =>
          bif b_13 then (some [(.b false)]) else
          (bif (decide ((i64 (Int.tmod seconds_0 60)) = 0)) then (bif (s_0 == ((s_1 ++ ([58] : List UInt8)) ++ s_5)) then (Option.bind (F_law04_works []) fun r_15 =>
             onB r_15 fun b_14 ds_30 =>
             some [(.b b_14)]) else
            (some [(.b false)])) else
           (bif (s_0 == ((((s_1 ++ ([58] : List UInt8)) ++ s_3) ++ ([58] : List UInt8)) ++ s_4)) then (Option.bind (F_law04_works []) fun r_16 =>
             onB r_16 fun b_15 ds_31 =>
             some [(.b b_15)]) else
            (some [(.b false)])))) else none))) else none))) else
     (bif (decide ((1 + (((((s_1 ++ ([58] : List UInt8)) ++ s_3) ++ ([58] : List UInt8)) ++ s_4)).length) ≤ 9223372036854775807)) then (Option.bind (F_offset_Parse [(.s (([45] : List UInt8) ++ ((((s_1 ++ ([58] : List UInt8)) ++ s_3) ++ ([58] : List UInt8)) ++ s_4)))]) fun r_17 =>
      onI r_17 fun i_15 ds_32 =>
      onI ds_32 fun i_16 ds_33 =>
      Option.bind (bif (decide ((i64 ((i64 ((i64 (3600 * (i64 (Int.tmod hours_0 168)))) + (i64 (60 * (i64 (Int.tmod minutes_0 60)))))) + (i64 (Int.tmod seconds_0 60)))) = 0)) then (bif (!decide (i_15 = 0)) then (some true) else
        (bif (!decide (i_16 = 5)) then (some true) else
         (bif (!decide ((i64 ((i64 ((i64 (3600 * (i64 (Int.tmod hours_0 168)))) + (i64 (60 * (i64 (Int.tmod minutes_0 60)))))) + (i64 (Int.tmod seconds_0 60)))) = 0)) then (bif (!decide (i_15 = (i64 (0 - (i64 ((i64 ((i64 (3600 * (i64 (Int.tmod hours_0 168)))) + (i64 (60 * (i64 (Int.tmod minutes_0 60)))))) + (i64 (Int.tmod seconds_0 60)))))))) then (some true) else
           (bif (!decide (i_16 = 0)) then (some true) else
            (some false))) else
          (some false)))) else
       (bif (!decide ((i64 ((i64 ((i64 (3600 * (i64 (Int.tmod hours_0 168)))) + (i64 (60 * (i64 (Int.tmod minutes_0 60)))))) + (i64 (Int.tmod seconds_0 60)))) = 0)) then (bif (!decide (i_15 = (i64 (0 - (i64 ((i64 ((i64 (3600 * (i64 (Int.tmod hours_0 168)))) + (i64 (60 * (i64 (Int.tmod minutes_0 60)))))) + (i64 (Int.tmod seconds_0 60)))))))) then (some true) else
         (bif (!decide (i_16 = 0)) then (some true) else
          (some false))) else
        (some false))) fun b_16 =>
      bif b_16 then (some [(.b false)]) else
      (bif (!minus_0) then (Option.bind (F_offset_Parse [(.s ((s_1 ++ ([58] : List UInt8)) ++ s_5))]) fun r_18 =>
        onI r_18 fun i_17 ds_34 =>
        onI ds_34 fun i_18 ds_35 =>
        Option.bind (bif (!decide (i_17 = (i64 ((i64 ((i64 (3600 * (i64 (Int.tmod hours_0 168)))) + (i64 (60 * (i64 (Int.tmod minutes_0 60)))))) + (i64 (Int.tmod seconds_0 60)))))) then (some true) else
         (bif (!decide (i_18 = 0)) then (some true) else
          (some false))) fun b_17 =>
        bif b_17 then (some [(.b false)]) else
        (bif (!minus_0) then (Option.bind (F_offset_Parse [(.s s_1)]) fun r_19 =>
          onI r_19 fun i_19 ds_36 =>
          onI ds_36 fun i_20 ds_37 =>
          Option.bind (bif (!decide (i_19 = (i64 ((i64 ((i64 (3600 * (i64 (Int.tmod hours_0 168)))) + (i64 (60 * (i64 (Int.tmod minutes_0 60)))))) + (i64 (Int.tmod seconds_0 60)))))) then (some true) else
           (bif (!decide (i_20 = 0)) then (some true) else
            (some false))) fun b_18 =>
          bif b_18 then (some [(.b false)]) else
          (bif (decide ((i64 (Int.tmod seconds_0 60)) = 0)) then (bif (s_0 == ((s_1 ++ ([58] : List UInt8)) ++ s_5)) then (Option.bind (F_law04_works []) fun r_20 =>
             onB r_20 fun b_19 ds_38 =>
             some [(.b b_19)]) else
            (some [(.b false)])) else
           (bif (s_0 == ((((s_1 ++ ([58] : List UInt8)) ++ s_3) ++ ([58] : List UInt8)) ++ s_4)) then (Option.bind (F_law04_works []) fun r_21 =>
             onB r_21 fun b_20 ds_39 =>
             some [(.b b_20)]) else
            (some [(.b false)])))) else
         (bif (decide ((1 + (s_1).length) ≤ 9223372036854775807)) then (Option.bind (F_offset_Parse [(.s (([45] : List UInt8) ++ s_1))]) fun r_22 =>
          onI r_22 fun i_21 ds_40 =>
          onI ds_40 fun i_22 ds_41 =>
          Option.bind (bif (decide ((i64 ((i64 ((i64 (3600 * (i64 (Int.tmod hours_0 168)))) + (i64 (60 * (i64 (Int.tmod minutes_0 60)))))) + (i64 (Int.tmod seconds_0 60)))) = 0)) then (bif (!decide (i_21 = 0)) then (some true) else
            (bif (!decide (i_22 = 5)) then (some true) else
             (bif (!decide ((i64 ((i64 ((i64 (3600 * (i64 (Int.tmod hours_0 168)))) + (i64 (60 * (i64 (Int.tmod minutes_0 60)))))) + (i64 (Int.tmod seconds_0 60)))) = 0)) then (bif (!decide (i_21 = (i64 (0 - (i64 ((i64 ((i64 (3600 * (i64 (Int.tmod hours_0 168)))) + (i64 (60 * (i64 (Int.tmod minutes_0 60)))))) + (i64 (Int.tmod seconds_0 60)))))))) then (some true) else
               (bif (!decide (i_22 = 0)) then (some true) else
                (some false))) else
              (some false)))) else
           (bif (!decide ((i64 ((i64 ((i64 (3600 * (i64 (Int.tmod hours_0 168)))) + (i64 (60 * (i64 (Int.tmod minutes_0 60)))))) + (i64 (Int.tmod seconds_0 60)))) = 0)) then (bif (!decide (i_21 = (i64 (0 - (i64 ((i64 ((i64 (3600 * (i64 (Int.tmod hours_0 168)))) + (i64 (60 * (i64 (Int.tmod minutes_0 60)))))) + (i64 (Int.tmod seconds_0 60)))))))) then (some true) else
             (bif (!decide (i_22 = 0)) then (some true) else
              (some false))) else
            (some false))) fun b_21 =>
          bif b_21 then (some [(.b false)]) else
          (bif (decide ((i64 (Int.tmod seconds_0 60)) = 0)) then (bif (s_0 == ((s_1 ++ ([58] : List UInt8)) ++ s_5)) then (Option.bind (F_law04_works []) fun r_23 =>
             onB r_23 fun b_22 ds_42 =>
             some [(.b b_22)]) else
            (some [(.b false)])) else
           (bif (s_0 == ((((s_1 ++ ([58] : List UInt8)) ++ s_3) ++ ([58] : List UInt8)) ++ s_4)) then (Option.bind (F_law04_works []) fun r_24 =>
             onB r_24 fun b_23 ds_43 =>
             some [(.b b_23)]) else
            (some [(.b false)])))) else none))) else
       (bif (decide ((1 + (((s_1 ++ ([58] : List UInt8)) ++ s_5)).length) ≤ 9223372036854775807)) then (Option.bind (F_offset_Parse [(.s (([45] : List UInt8) ++ ((s_1 ++ ([58] : List UInt8)) ++ s_5)))]) fun r_25 =>
        onI r_25 fun i_23 ds_44 =>
        onI ds_44 fun i_24 ds_45 =>
        Option.bind (bif (decide ((i64 ((i64 ((i64 (3600 * (i64 (Int.tmod hours_0 168)))) + (i64 (60 * (i64 (Int.tmod minutes_0 60)))))) + (i64 (Int.tmod seconds_0 60)))) = 0)) then (bif (!decide (i_23 = 0)) then (some true) else
          (bif (!decide (i_24 = 5)) then (some true) else
           (bif (!decide ((i64 ((i64 ((i64 (3600 * (i64 (Int.tmod hours_0 168)))) + (i64 (60 * (i64 (Int.tmod minutes_0 60)))))) + (i64 (Int.tmod seconds_0 60)))) = 0)) then (bif (!decide (i_23 = (i64 (0 - (i64 ((i64 ((i64 (3600 * (i64 (Int.tmod hours_0 168)))) + (i64 (60 * (i64 (Int.tmod minutes_0 60)))))) + (i64 (Int.tmod seconds_0 60)))))))) then (some true) else
             (bif (!decide (i_24 = 0)) then (some true) else
              (some false))) else
            (some false)))) else
         (bif (!decide ((i64 ((i64 ((i64 (3600 * (i64 (Int.tmod hours_0 168)))) + (i64 (60 * (i64 (Int.tmod minutes_0 60)))))) + (i64 (Int.tmod seconds_0 60)))) = 0)) then (bif (!decide (i_23 = (i64 (0 - (i64 ((i64 ((i64 (3600 * (i64 (Int.tmod hours_0 168)))) + (i64 (60 * (i64 (Int.tmod minutes_0 60)))))) + (i64 (Int.tmod seconds_0 60)))))))) then (some true) else
           (bif (!decide (i_24 = 0)) then (some true) else
            (some false))) else
          (some false))) fun b_24 =>
        bif b_24 then (some [(.b false)]) else
        (bif (!minus_0) then (Option.bind (F_offset_Parse [(.s s_1)]) fun r_26 =>
          onI r_26 fun i_25 ds_46 =>
          onI ds_46 fun i_26 ds_47 =>
          Option.bind (bif (!decide (i_25 = (i64 ((i64 ((i64 (3600 * (i64 (Int.tmod hours_0 168)))) + (i64 (60 * (i64 (Int.tmod minutes_0 60)))))) + (i64 (Int.tmod seconds_0 60)))))) then (some true) else
           (bif (!decide (i_26 = 0)) then (some true) else
            (some false))) fun b_25 =>
          bif b_25 then (some [(.b false)]) else
          (bif (decide ((i64 (Int.tmod seconds_0 60)) = 0)) then (bif (s_0 == ((s_1 ++ ([58] : List UInt8)) ++ s_5)) then (Option.bind (F_law04_works []) fun r_27 =>
             onB r_27 fun b_26 ds_48 =>
             some [(.b b_26)]) else
            (some [(.b false)])) else
           (bif (s_0 == ((((s_1 ++ ([58] : List UInt8)) ++ s_3) ++ ([58] : List UInt8)) ++ s_4)) then (Option.bind (F_law04_works []) fun r_28 =>
             onB r_28 fun b_27 ds_49 =>
             some [(.b b_27)]) else
            (some [(.b false)])))) else
         (bif (decide ((1 + (s_1).length) ≤ 9223372036854775807)) then (Option.bind (F_offset_Parse [(.s (([45] : List UInt8) ++ s_1))]) fun r_29 =>
          onI r_29 fun i_27 ds_50 =>
          onI ds_50 fun i_28 ds_51 =>
          Option.bind (bif (decide ((i64 ((i64 ((i64 (3600 * (i64 (Int.tmod hours_0 168)))) + (i64 (60 * (i64 (Int.tmod minutes_0 60)))))) + (i64 (Int.tmod seconds_0 60)))) = 0)) then (bif (!decide (i_27 = 0)) then (some true) else
            (bif (!decide (i_28 = 5)) then (some true) else
             (bif (!decide ((i64 ((i64 ((i64 (3600 * (i64 (Int.tmod hours_0 168)))) + (i64 (60 * (i64 (Int.tmod minutes_0 60)))))) + (i64 (Int.tmod seconds_0 60)))) = 0)) then (bif (!decide (i_27 = (i64 (0 - (i64 ((i64 ((i64 (3600 * (i64 (Int.tmod hours_0 168)))) + (i64 (60 * (i64 (Int.tmod minutes_0 60)))))) + (i64 (Int.tmod seconds_0 60)))))))) then (some true) else
               (bif (!decide (i_28 = 0)) then (some true) else
                (some false))) else
              (some false)))) else
           (bif (!decide ((i64 ((i64 ((i64 (3600 * (i64 (Int.tmod hours_0 168)))) + (i64 (60 * (i64 (Int.tmod minutes_0 60)))))) + (i64 (Int.tmod seconds_0 60)))) = 0)) then (bif (!decide (i_27 = (i64 (0 - (i64 ((i64 ((i64 (3600 * (i64 (Int.tmod hours_0 168)))) + (i64 (60 * (i64 (Int.tmod minutes_0 60)))))) + (i64 (Int.tmod seconds_0 60)))))))) then (some true) else
             (bif (!decide (i_28 = 0)) then (some true) else
              (some false))) else
            (some false))) fun b_28 =>
          bif b_28 then (some [(.b false)]) else
          (bif (decide ((i64 (Int.tmod seconds_0 60)) = 0)) then (bif (s_0 == ((s_1 ++ ([58] : List UInt8)) ++ s_5)) then (Option.bind (F_law04_works []) fun r_30 =>
             onB r_30 fun b_29 ds_52 =>
             some [(.b b_29)]) else
            (some [(.b false)])) else
           (bif (s_0 == ((((s_1 ++ ([58] : List UInt8)) ++ s_3) ++ ([58] : List UInt8)) ++ s_4)) then (Option.bind (F_law04_works []) fun r_31 =>
             onB r_31 fun b_30 ds_53 =>
             some [(.b b_30)]) else
            (some [(.b false)])))) else none))) else none))) else none)) else
    (bif (!minus_0) then (Option.bind (F_offset_Parse [(.s ((((s_1 ++ ([58] : List UInt8)) ++ s_3) ++ ([58] : List UInt8)) ++ s_4))]) fun r_32 =>
      onI r_32 fun i_29 ds_54 =>
      onI ds_54 fun i_30 ds_55 =>
      Option.bind (bif (!decide (i_29 = (i64 ((i64 ((i64 (3600 * (i64 (Int.tmod hours_0 168)))) + (i64 (60 * (i64 (Int.tmod minutes_0 60)))))) + (i64 (Int.tmod seconds_0 60)))))) then (some true) else
       (bif (!decide (i_30 = 0)) then (some true) else
        (some false))) fun b_31 =>
      bif b_31 then (some [(.b false)]) else
      (bif (!minus_0) then (Option.bind (F_offset_Parse [(.s ((s_1 ++ ([58] : List UInt8)) ++ s_5))]) fun r_33 =>
        onI r_33 fun i_31 ds_56 =>
        onI ds_56 fun i_32 ds_57 =>
        Option.bind (bif (!decide (i_31 = (i64 ((i64 ((i64 (3600 * (i64 (Int.tmod hours_0 168)))) + (i64 (60 * (i64 (Int.tmod minutes_0 60)))))) + (i64 (Int.tmod seconds_0 60)))))) then (some true) else
         (bif (!decide (i_32 = 0)) then (some true) else
          (some false))) fun b_32 =>
        bif b_32 then (some [(.b false)]) else
        (bif (decide ((i64 (Int.tmod seconds_0 60)) = 0)) then (bif (s_0 == ((s_1 ++ ([58] : List UInt8)) ++ s_5)) then (Option.bind (F_law04_works []) fun r_34 =>
           onB r_34 fun b_33 ds_58 =>
           some [(.b b_33)]) else
          (some [(.b false)])) else
         (bif (s_0 == ((((s_1 ++ ([58] : List UInt8)) ++ s_3) ++ ([58] : List UInt8)) ++ s_4)) then (Option.bind (F_law04_works []) fun r_35 =>
           onB r_35 fun b_34 ds_59 =>
           some [(.b b_34)]) else
          (some [(.b false)])))) else
       (bif (decide ((1 + (((s_1 ++ ([58] : List UInt8)) ++ s_5)).length) ≤ 9223372036854775807)) then (Option.bind (F_offset_Parse [(.s (([45] : List UInt8) ++ ((s_1 ++ ([58] : List UInt8)) ++ s_5)))]) fun r_36 =>
        onI r_36 fun i_33 ds_60 =>
        onI ds_60 fun i_34 ds_61 =>
        Option.bind (bif (decide ((i64 ((i64 ((i64 (3600 * (i64 (Int.tmod hours_0 168)))) + (i64 (60 * (i64 (Int.tmod minutes_0 60)))))) + (i64 (Int.tmod seconds_0 60)))) = 0)) then (bif (!decide (i_33 = 0)) then (some true) else
          (bif (!decide (i_34 = 5)) then (some true) else
           (bif (!decide ((i64 ((i64 ((i64 (3600 * (i64 (Int.tmod hours_0 168)))) + (i64 (60 * (i64 (Int.tmod minutes_0 60)))))) + (i64 (Int.tmod seconds_0 60)))) = 0)) then (bif (!decide (i_33 = (i64 (0 - (i64 ((i64 ((i64 (3600 * (i64 (Int.tmod hours_0 168)))) + (i64 (60 * (i64 (Int.tmod minutes_0 60)))))) + (i64 (Int.tmod seconds_0 60)))))))) then (some true) else
             (bif (!decide (i_34 = 0)) then (some true) else
              (some false))) else
            (some false)))) else
         (bif (!decide ((i64 ((i64 ((i64 (3600 * (i64 (Int.tmod hours_0 168)))) + (i64 (60 * (i64 (Int.tmod minutes_0 60)))))) + (i64 (Int.tmod seconds_0 60)))) = 0)) then (bif (!decide (i_33 = (i64 (0 - (i64 ((i64 ((i64 (3600 * (i64 (Int.tmod hours_0 168)))) + (i64 (60 * (i64 (Int.tmod minutes_0 60)))))) + (i64 (Int.tmod seconds_0 60)))))))) then (some true) else
           (bif (!decide (i_34 = 0)) then (some true) else
            (some false))) else
          (some false))) fun b_35 =>
        bif b_35 then (some [(.b false)]) else
        (bif (decide ((i64 (Int.tmod seconds_0 60)) = 0)) then (bif (s_0 == ((s_1 ++ ([58] : List UInt8)) ++ s_5)) then (Option.bind (F_law04_works []) fun r_37 =>
           onB r_37 fun b_36 ds_62 =>
           some [(.b b_36)]) else
          (some [(.b false)])) else
         (bif (s_0 == ((((s_1 ++ ([58] : List UInt8)) ++ s_3) ++ ([58] : List UInt8)) ++ s_4)) then (Option.bind (F_law04_works []) fun r_38 =>
           onB r_38 fun b_37 ds_63 =>
           some [(.b b_37)]) else
          (some [(.b false)])))) else none))) else
     (bif (decide ((1 + (((((s_1 ++ ([58] : List UInt8)) ++ s_3) ++ ([58] : List UInt8)) ++ s_4)).length) ≤ 9223372036854775807)) then (Option.bind (F_offset_Parse [(.s (([45] : List UInt8) ++ ((((s_1 ++ ([58] : List UInt8)) ++ s_3) ++ ([58] : List UInt8)) ++ s_4)))]) fun r_39 =>
      onI r_39 fun i_35 ds_64 =>
      onI ds_64 fun i_36 ds_65 =>
      Option.bind (bif (decide ((i64 ((i64 ((i64 (3600 * (i64 (Int.tmod hours_0 168)))) + (i64 (60 * (i64 (Int.tmod minutes_0 60)))))) + (i64 (Int.tmod seconds_0 60)))) = 0)) then (bif (!decide (i_35 = 0)) then (some true) else
        (bif (!decide (i_36 = 5)) then (some true) else
         (bif (!decide ((i64 ((i64 ((i64 (3600 * (i64 (Int.tmod hours_0 168)))) + (i64 (60 * (i64 (Int.tmod minutes_0 60)))))) + (i64 (Int.tmod seconds_0 60)))) = 0)) then (bif (!decide (i_35 = (i64 (0 - (i64 ((i64 ((i64 (3600 * (i64 (Int.tmod hours_0 168)))) + (i64 (60 * (i64 (Int.tmod minutes_0 60)))))) + (i64 (Int.tmod seconds_0 60)))))))) then (some true) else
           (bif (!decide (i_36 = 0)) then (some true) else
            (some false))) else
          (some false)))) else
       (bif (!decide ((i64 ((i64 ((i64 (3600 * (i64 (Int.tmod hours_0 168)))) + (i64 (60 * (i64 (Int.tmod minutes_0 60)))))) + (i64 (Int.tmod seconds_0 60)))) = 0)) then (bif (!decide (i_35 = (i64 (0 - (i64 ((i64 ((i64 (3600 * (i64 (Int.tmod hours_0 168)))) + (i64 (60 * (i64 (Int.tmod minutes_0 60)))))) + (i64 (Int.tmod seconds_0 60)))))))) then (some true) else
         (bif (!decide (i_36 = 0)) then (some true) else
          (some false))) else
        (some false))) fun b_38 =>
      bif b_38 then (some [(.b false)]) else
      (bif (!minus_0) then (Option.bind (F_offset_Parse [(.s ((s_1 ++ ([58] : List UInt8)) ++ s_5))]) fun r_40 =>
        onI r_40 fun i_37 ds_66 =>
        onI ds_66 fun i_38 ds_67 =>
        Option.bind (bif (!decide (i_37 = (i64 ((i64 ((i64 (3600 * (i64 (Int.tmod hours_0 168)))) + (i64 (60 * (i64 (Int.tmod minutes_0 60)))))) + (i64 (Int.tmod seconds_0 60)))))) then (some true) else
         (bif (!decide (i_38 = 0)) then (some true) else
          (some false))) fun b_39 =>
        bif b_39 then (some [(.b false)]) else
        (bif (decide ((i64 (Int.tmod seconds_0 60)) = 0)) then (bif (s_0 == ((s_1 ++ ([58] : List UInt8)) ++ s_5)) then (Option.bind (F_law04_works []) fun r_41 =>
           onB r_41 fun b_40 ds_68 =>
           some [(.b b_40)]) else
          (some [(.b false)])) else
         (bif (s_0 == ((((s_1 ++ ([58] : List UInt8)) ++ s_3) ++ ([58] : List UInt8)) ++ s_4)) then (Option.bind (F_law04_works []) fun r_42 =>
           onB r_42 fun b_41 ds_69 =>
           some [(.b b_41)]) else
          (some [(.b false)])))) else
       (bif (decide ((1 + (((s_1 ++ ([58] : List UInt8)) ++ s_5)).length) ≤ 9223372036854775807)) then (Option.bind (F_offset_Parse [(.s (([45] : List UInt8) ++ ((s_1 ++ ([58] : List UInt8)) ++ s_5)))]) fun r_43 =>
        onI r_43 fun i_39 ds_70 =>
        onI ds_70 fun i_40 ds_71 =>
        Option.bind (bif (decide ((i64 ((i64 ((i64 (3600 * (i64 (Int.tmod hours_0 168)))) + (i64 (60 * (i64 (Int.tmod minutes_0 60)))))) + (i64 (Int.tmod seconds_0 60)))) = 0)) then (bif (!decide (i_39 = 0)) then (some true) else
          (bif (!decide (i_40 = 5)) then (some true) else
           (bif (!decide ((i64 ((i64 ((i64 (3600 * (i64 (Int.tmod hours_0 168)))) + (i64 (60 * (i64 (Int.tmod minutes_0 60)))))) + (i64 (Int.tmod seconds_0 60)))) = 0)) then (bif (!decide (i_39 = (i64 (0 - (i64 ((i64 ((i64 (3600 * (i64 (Int.tmod hours_0 168)))) + (i64 (60 * (i64 (Int.tmod minutes_0 60)))))) + (i64 (Int.tmod seconds_0 60)))))))) then (some true) else
             (bif (!decide (i_40 = 0)) then (some true) else
              (some false))) else
            (some false)))) else
         (bif (!decide ((i64 ((i64 ((i64 (3600 * (i64 (Int.tmod hours_0 168)))) + (i64 (60 * (i64 (Int.tmod minutes_0 60)))))) + (i64 (Int.tmod seconds_0 60)))) = 0)) then (bif (!decide (i_39 = (i64 (0 - (i64 ((i64 ((i64 (3600 * (i64 (Int.tmod hours_0 168)))) + (i64 (60 * (i64 (Int.tmod minutes_0 60)))))) + (i64 (Int.tmod seconds_0 60)))))))) then (some true) else
           (bif (!decide (i_40 = 0)) then (some true) else
            (some false))) else
          (some false))) fun b_42 =>
        bif b_42 then (some [(.b false)]) else
        (bif (decide ((i64 (Int.tmod seconds_0 60)) = 0)) then (bif (s_0 == ((s_1 ++ ([58] : List UInt8)) ++ s_5)) then (Option.bind (F_law04_works []) fun r_44 =>
           onB r_44 fun b_43 ds_72 =>
           some [(.b b_43)]) else
          (some [(.b false)])) else
         (bif (s_0 == ((((s_1 ++ ([58] : List UInt8)) ++ s_3) ++ ([58] : List UInt8)) ++ s_4)) then (Option.bind (F_law04_works []) fun r_45 =>
           onB r_45 fun b_44 ds_73 =>
           some [(.b b_44)]) else
          (some [(.b false)])))) else none))) else none))) else none) else none) else
   (bif (!minus_0) then (Option.bind (F_offset_Parse [(.s ((((s_1 ++ ([58] : List UInt8)) ++ s_3) ++ ([58] : List UInt8)) ++ s_4))]) fun r_46 =>
     onI r_46 fun i_41 ds_74 =>
     onI ds_74 fun i_42 ds_75 =>
     Option.bind (bif (!decide (i_41 = (i64 ((i64 ((i64 (3600 * (i64 (Int.tmod hours_0 168)))) + (i64 (60 * (i64 (Int.tmod minutes_0 60)))))) + (i64 (Int.tmod seconds_0 60)))))) then (some true) else
      (bif (!decide (i_42 = 0)) then (some true) else
       (some false))) fun b_45 =>
     bif b_45 then (some [(.b false)]) else
     (bif (decide ((i64 (Int.tmod seconds_0 60)) = 0)) then (none) else
      (bif (s_0 == ((((s_1 ++ ([58] : List UInt8)) ++ s_3) ++ ([58] : List UInt8)) ++ s_4)) then (Option.bind (F_law04_works []) fun r_47 =>
        onB r_47 fun b_46 ds_76 =>
        some [(.b b_46)]) else
       (some [(.b false)])))) else
    (bif (decide ((1 + (((((s_1 ++ ([58] : List UInt8)) ++ s_3) ++ ([58] : List UInt8)) ++ s_4)).length) ≤ 9223372036854775807)) then (Option.bind (F_offset_Parse [(.s (([45] : List UInt8) ++ ((((s_1 ++ ([58] : List UInt8)) ++ s_3) ++ ([58] : List UInt8)) ++ s_4)))]) fun r_48 =>
     onI r_48 fun i_43 ds_77 =>
     onI ds_77 fun i_44 ds_78 =>
     Option.bind (bif (decide ((i64 ((i64 ((i64 (3600 * (i64 (Int.tmod hours_0 168)))) + (i64 (60 * (i64 (Int.tmod minutes_0 60)))))) + (i64 (Int.tmod seconds_0 60)))) = 0)) then (bif (!decide (i_43 = 0)) then (some true) else
       (bif (!decide (i_44 = 5)) then (some true) else
        (bif (!decide ((i64 ((i64 ((i64 (3600 * (i64 (Int.tmod hours_0 168)))) + (i64 (60 * (i64 (Int.tmod minutes_0 60)))))) + (i64 (Int.tmod seconds_0 60)))) = 0)) then (bif (!decide (i_43 = (i64 (0 - (i64 ((i64 ((i64 (3600 * (i64 (Int.tmod hours_0 168)))) + (i64 (60 * (i64 (Int.tmod minutes_0 60)))))) + (i64 (Int.tmod seconds_0 60)))))))) then (some true) else
          (bif (!decide (i_44 = 0)) then (some true) else
           (some false))) else
         (some false)))) else
      (bif (!decide ((i64 ((i64 ((i64 (3600 * (i64 (Int.tmod hours_0 168)))) + (i64 (60 * (i64 (Int.tmod minutes_0 60)))))) + (i64 (Int.tmod seconds_0 60)))) = 0)) then (bif (!decide (i_43 = (i64 (0 - (i64 ((i64 ((i64 (3600 * (i64 (Int.tmod hours_0 168)))) + (i64 (60 * (i64 (Int.tmod minutes_0 60)))))) + (i64 (Int.tmod seconds_0 60)))))))) then (some true) else
        (bif (!decide (i_44 = 0)) then (some true) else
         (some false))) else
       (some false))) fun b_47 =>
     bif b_47 then (some [(.b false)]) else
     (bif (decide ((i64 (Int.tmod seconds_0 60)) = 0)) then (none) else
      (bif (s_0 == ((((s_1 ++ ([58] : List UInt8)) ++ s_3) ++ ([58] : List UInt8)) ++ s_4)) then (Option.bind (F_law04_works []) fun r_49 =>
        onB r_49 fun b_48 ds_79 =>
        some [(.b b_48)]) else
       (some [(.b false)])))) else none))) else none) else none) else none) else none)
noncomputable def F_law04_OffsetOrder : List Dat → Option (List Dat) := fun ds_0 =>
  onI ds_0 fun m_0 ds_1 =>
  onI ds_1 fun n_0 ds_2 =>
  Option.bind (F_offset_Print [(.i (i64 (Int.tmod m_0 604800)))]) fun r_0 =>
  onS r_0 fun s_0 ds_3 =>
  onI ds_3 fun i_0 ds_4 =>
  Option.bind (F_offset_Print [(.i (i64 (Int.tmod n_0 604800)))]) fun r_1 =>
  onS r_1 fun s_1 ds_5 =>
  onI ds_5 fun i_1 ds_6 =>
  Option.bind (bif (!decide (i_0 = 0)) then (some true) else
   (bif (!decide (i_1 = 0)) then (some true) else
    (bif (s_0 == s_1) then (bif (decide ((i64 (Int.tmod m_0 604800)) = (i64 (Int.tmod n_0 604800)))) then (some false) else
      (some true)) else
     (bif (decide ((i64 (Int.tmod m_0 604800)) = (i64 (Int.tmod n_0 604800)))) then (some true) else
      (some false))))) fun b_0 =>
  bif b_0 then (some [(.b false)]) else
  (bif (decide ((((s_0).length : Nat) : Int) = (((s_1).length : Nat) : Int))) then (Option.bind (Ax.strIndex [(.s s_0), (.s ([58] : List UInt8))]) fun r_2 =>
    onI r_2 fun i_2 ds_7 =>
    Option.bind (Ax.strIndex [(.s s_1), (.s ([58] : List UInt8))]) fun r_3 =>
    onI r_3 fun i_3 ds_8 =>
    bif (decide (i_2 = i_3)) then (bif (cmpS .lss s_0 s_1) then (bif (decide ((i64 (Int.tmod m_0 604800)) < (i64 (Int.tmod n_0 604800)))) then (Option.bind (F_law04_works []) fun r_4 =>
       onB r_4 fun b_1 ds_9 =>
       some [(.b b_1)]) else
      (some [(.b false)])) else
     (bif (decide ((i64 (Int.tmod m_0 604800)) < (i64 (Int.tmod n_0 604800)))) then (some [(.b false)]) else
      (Option.bind (F_law04_works []) fun r_5 =>
       onB r_5 fun b_2 ds_10 =>
       some [(.b b_2)]))) else
    (Option.bind (F_law04_works []) fun r_6 =>
     onB r_6 fun b_3 ds_11 =>
     some [(.b b_3)])) else
   (Option.bind (F_law04_works []) fun r_7 =>
    onB r_7 fun b_4 ds_12 =>
    some [(.b b_4)]))
noncomputable def F_law04_OffsetSpoilt : List Dat → Option (List Dat) := fun ds_0 =>
  onI ds_0 fun n_0 ds_1 =>
  onI ds_1 fun at_0 ds_2 =>
  onI ds_2 fun what_0 ds_3 =>
  onI ds_3 fun c_0 ds_4 =>
  Option.bind (F_offset_Print [(.i (i64 (Int.tmod n_0 604800)))]) fun r_0 =>
  onS r_0 fun s_0 ds_5 =>
  onI ds_5 fun i_0 ds_6 =>
  Option.bind (bif (!decide (i_0 = 0)) then (some true) else
   (bif (s_0 == ([] : List UInt8)) then (some true) else
    (some false))) fun b_0 =>
  bif b_0 then (some [(.b false)]) else
  (bif ((((s_0).length : Nat) : Int) != 0) then (bif (decide ((0 ≤ (Int.tmod (i64 at_0) (((s_0).length : Nat) : Int))) ∧ ((Int.tmod (i64 at_0) (((s_0).length : Nat) : Int)) ≤ (((s_0).length : Nat) : Int)))) then (bif (decide ((0 ≤ (i64 ((Int.tmod (i64 at_0) (((s_0).length : Nat) : Int)) + 1))) ∧ ((i64 ((Int.tmod (i64 at_0) (((s_0).length : Nat) : Int)) + 1)) ≤ (((s_0).length : Nat) : Int)))) then (bif (decide ((((List.take ((Int.tmod (i64 at_0) (((s_0).length : Nat) : Int))).toNat (List.drop 0 s_0))).length + ((List.take ((s_0).length - ((i64 ((Int.tmod (i64 at_0) (((s_0).length : Nat) : Int)) + 1))).toNat) (List.drop ((i64 ((Int.tmod (i64 at_0) (((s_0).length : Nat) : Int)) + 1))).toNat s_0))).length) ≤ 9223372036854775807)) then (bif (decide ((Int.tmod what_0 3) = 1)) then (bif (decide ((0 ≤ (Int.tmod (i64 at_0) (((s_0).length : Nat) : Int))) ∧ ((Int.tmod (i64 at_0) (((s_0).length : Nat) : Int)) ≤ (((s_0).length : Nat) : Int)))) then (Option.bind (bytesOf [(Ax.AV.int .u8 (Ax.I.sym c_0))]) fun s_1 =>
    bif (decide ((((List.take ((Int.tmod (i64 at_0) (((s_0).length : Nat) : Int))).toNat (List.drop 0 s_0))).length + (s_1).length) ≤ 9223372036854775807)) then (bif (decide ((0 ≤ (Int.tmod (i64 at_0) (((s_0).length : Nat) : Int))) ∧ ((Int.tmod (i64 at_0) (((s_0).length : Nat) : Int)) ≤ (((s_0).length : Nat) : Int)))) then (bif (decide (((((List.take ((Int.tmod (i64 at_0) (((s_0).length : Nat) : Int))).toNat (List.drop 0 s_0)) ++ s_1)).length + ((List.take ((s_0).length - ((Int.tmod (i64 at_0) (((s_0).length : Nat) : Int))).toNat) (List.drop ((Int.tmod (i64 at_0) (((s_0).length : Nat) : Int))).toNat s_0))).length) ≤ 9223372036854775807)) then (Option.bind (F_offset_Parse [(.s (((List.take ((Int.tmod (i64 at_0) (((s_0).length : Nat) : Int))).toNat (List.drop 0 s_0)) ++ s_1) ++ (List.take ((s_0).length - ((Int.tmod (i64 at_0) (((s_0).length : Nat) : Int))).toNat) (List.drop ((Int.tmod (i64 at_0) (((s_0).length : Nat) : Int))).toNat s_0))))]) fun r_1 =>
    onI r_1 fun i_1 ds_7 =>
    onI ds_7 fun i_2 ds_8 =>
    bif (decide (i_2 = 0)) then (Option.bind (F_offset_Print [(.i i_1)]) fun r_2 =>
     onS r_2 fun s_2 ds_9 =>
     onI ds_9 fun i_3 ds_10 =>
     Option.bind (F_offset_Parse [(.s s_2)]) fun r_3 =>
     onI r_3 fun i_4 ds_11 =>
     onI ds_11 fun i_5 ds_12 =>
     bif (decide (i_3 = 0)) then (bif (decide (i_5 = 0)) then (bif (decide (i_4 = i_1)) then (bif (decide ((-604799) ≤ i_1)) then (bif (decide (i_1 ≤ 604799)) then (Option.bind (F_law04_works []) fun r_4 =>
          onB r_4 fun b_1 ds_13 =>
          some [(.b b_1)]) else
         (some [(.b false)])) else
        (some [(.b false)])) else
       (some [(.b false)])) else
      (some [(.b false)])) else
     (some [(.b false)])) else
    (bif (decide (i_2 = 5)) then (bif (decide (i_1 = 0)) then (Option.bind (F_law04_works []) fun r_5 =>
       onB r_5 fun b_2 ds_14 =>
       some [(.b b_2)]) else
      (some [(.b false)])) else
     (Option.bind (bif (decide (i_2 = 3)) then (some true) else
       (some false)) fun b_3 =>
      bif b_3 then (bif (decide (i_1 = 0)) then (Option.bind (F_law04_works []) fun r_6 =>
        onB r_6 fun b_4 ds_15 =>
        some [(.b b_4)]) else
       (some [(.b false)])) else
      (some [(.b false)])))) else none) else none) else none) else none) else
   (bif (decide ((Int.tmod what_0 3) = 2)) then (bif (decide ((0 ≤ (Int.tmod (i64 at_0) (((s_0).length : Nat) : Int))) ∧ ((Int.tmod (i64 at_0) (((s_0).length : Nat) : Int)) ≤ (((s_0).length : Nat) : Int)))) then (Option.bind (bytesOf [(Ax.AV.int .u8 (Ax.I.sym c_0))]) fun s_3 =>
     bif (decide ((((List.take ((Int.tmod (i64 at_0) (((s_0).length : Nat) : Int))).toNat (List.drop 0 s_0))).length + (s_3).length) ≤ 9223372036854775807)) then (bif (decide ((0 ≤ (i64 ((Int.tmod (i64 at_0) (((s_0).length : Nat) : Int)) + 1))) ∧ ((i64 ((Int.tmod (i64 at_0) (((s_0).length : Nat) : Int)) + 1)) ≤ (((s_0).length : Nat) : Int)))) then (bif (decide (((((List.take ((Int.tmod (i64 at_0) (((s_0).length : Nat) : Int))).toNat (List.drop 0 s_0)) ++ s_3)).length + ((List.take ((s_0).length - ((i64 ((Int.tmod (i64 at_0) (((s_0).length : Nat) : Int)) + 1))).toNat) (List.drop ((i64 ((Int.tmod (i64 at_0) (((s_0).length : Nat) : Int)) + 1))).toNat s_0))).length) ≤ 9223372036854775807)) then (Option.bind (F_offset_Parse [(.s (((List.take ((Int.tmod (i64 at_0) (((s_0).length : Nat) : Int))).toNat (List.drop 0 s_0)) ++ s_3) ++ (List.take ((s_0).length - ((i64 ((Int.tmod (i64 at_0) (((s_0).length : Nat) : Int)) + 1))).toNat) (List.drop ((i64 ((Int.tmod (i64 at_0) (((s_0).length : Nat) : Int)) + 1))).toNat s_0))))]) fun r_7 =>
     onI r_7 fun i_6 ds_16 =>
     onI ds_16 fun i_7 ds_17 =>
     bif (decide (i_7 = 0)) then (Option.bind (F_offset_Print [(.i i_6)]) fun r_8 =>
      onS r_8 fun s_4 ds_18 =>
      onI ds_18 fun i_8 ds_19 =>
      Option.bind (F_offset_Parse [(.s s_4)]) fun r_9 =>
      onI r_9 fun i_9 ds_20 =>
      onI ds_20 fun i_10 ds_21 =>
      bif (decide (i_8 = 0)) then (bif (decide (i_10 = 0)) then (bif (decide (i_9 = i_6)) then (bif (decide ((-604799) ≤ i_6)) then (bif (decide (i_6 ≤ 604799)) then (Option.bind (F_law04_works []) fun r_10 =>
           onB r_10 fun b_5 ds_22 =>
           some [(.b b_5)]) else
          (some [(.b false)])) else
         (some [(.b false)])) else
        (some [(.b false)])) else
       (some [(.b false)])) else
      (some [(.b false)])) else
     (bif (decide (i_7 = 5)) then (bif (decide (i_6 = 0)) then (Option.bind (F_law04_works []) fun r_11 =>
        onB r_11 fun b_6 ds_23 =>
        some [(.b b_6)]) else
       (some [(.b false)])) else
      (Option.bind (bif (decide (i_7 = 3)) then (some true) else
        (some false)) fun b_7 =>
       bif b_7 then (bif (decide (i_6 = 0)) then (Option.bind (F_law04_works []) fun r_12 =>
         onB r_12 fun b_8 ds_24 =>
         some [(.b b_8)]) else
        (some [(.b false)])) else
       (some [(.b false)])))) else none) else none) else none) else none) else
    (Option.bind (F_offset_Parse [(.s ((List.take ((Int.tmod (i64 at_0) (((s_0).length : Nat) : Int))).toNat (List.drop 0 s_0)) ++ (List.take ((s_0).length - ((i64 ((Int.tmod (i64 at_0) (((s_0).length : Nat) : Int)) + 1))).toNat) (List.drop ((i64 ((Int.tmod (i64 at_0) (((s_0).length : Nat) : Int)) + 1))).toNat s_0))))]) fun r_13 =>
     onI r_13 fun i_11 ds_25 =>
     onI ds_25 fun i_12 ds_26 =>
     bif (decide (i_12 = 0)) then (Option.bind (F_offset_Print [(.i i_11)]) fun r_14 =>
      onS r_14 fun s_5 ds_27 =>
      onI ds_27 fun i_13 ds_28 =>
      Option.bind (F_offset_Parse [(.s s_5)]) fun r_15 =>
      onI r_15 fun i_14 ds_29 =>
      onI ds_29 fun i_15 ds_30 =>
      bif (decide (i_13 = 0)) then (bif (decide (i_15 = 0)) then (bif (decide (i_14 = i_11)) then (bif (decide ((-604799) ≤ i_11)) then (bif (decide (i_11 ≤ 604799)) then (Option.bind (F_law04_works []) fun r_16 =>
           onB r_16 fun b_9 ds_31 =>
           some [(.b b_9)]) else
          (some [(.b false)])) else
         (some [(.b false)])) else
        (some [(.b false)])) else
       (some [(.b false)])) else
      (some [(.b false)])) else
     (bif (decide (i_12 = 5)) then (bif (decide (i_11 = 0)) then (Option.bind (F_law04_works []) fun r_17 =>
        onB r_17 fun b_10 ds_32 =>
        some [(.b b_10)]) else
       (some [(.b false)])) else
      (Option.bind (bif (decide (i_12 = 3)) then (some true) else
        (some false)) fun b_11 =>
       bif b_11 then (bif (decide (i_11 = 0)) then (Option.bind (F_law04_works []) fun r_18 =>
         onB r_18 fun b_12 ds_33 =>
         some [(.b b_12)]) else
        (some [(.b false)])) else
       (some [(.b false)])))))) else none) else none) else none) else none)
noncomputable def F_law04_OffsetRefuses : List Dat → Option (List Dat) := fun ds_0 =>
  onI ds_0 fun n_0 ds_1 =>
  onI ds_1 fun far_0 ds_2 =>
  onI ds_2 fun c_0 ds_3 =>
  Option.bind (F_offset_Print [(.i (i64 (604800 + (i64 far_0))))]) fun r_0 =>
  onS r_0 fun s_0 ds_4 =>
  onI ds_4 fun i_0 ds_5 =>
  Option.bind (bif (!(s_0 == ([] : List UInt8))) then (some true) else
   (bif (!decide (i_0 = 3)) then (some true) else
    (some false))) fun b_0 =>
  bif b_0 then (some [(.b false)]) else
  (Option.bind (F_offset_Print [(.i (i64 (0 - (i64 (604800 + (i64 far_0))))))]) fun r_1 =>
   onS r_1 fun s_1 ds_6 =>
   onI ds_6 fun i_1 ds_7 =>
   Option.bind (bif (!(s_1 == ([] : List UInt8))) then (some true) else
    (bif (!decide (i_1 = 3)) then (some true) else
     (some false))) fun b_1 =>
   bif b_1 then (some [(.b false)]) else
   (Option.bind (F_offset_Print [(.i 9223372036854775807)]) fun r_2 =>
    onS r_2 fun s_2 ds_8 =>
    onI ds_8 fun i_2 ds_9 =>
    Option.bind (bif (!(s_2 == ([] : List UInt8))) then (some true) else
     (bif (!decide (i_2 = 3)) then (some true) else
      (some false))) fun b_2 =>
    bif b_2 then (some [(.b false)]) else
    (Option.bind (F_offset_Print [(.i (-9223372036854775808))]) fun r_3 =>
     onS r_3 fun s_3 ds_10 =>
     onI ds_10 fun i_3 ds_11 =>
     Option.bind (bif (!(s_3 == ([] : List UInt8))) then (some true) else
      (bif (!decide (i_3 = 3)) then (some true) else
       (some false))) fun b_3 =>
     bif b_3 then (some [(.b false)]) else
     (Option.bind (bytesOf [(Ax.AV.int .u8 (Ax.I.sym (u8 (48 + (u8 (u32 (Int.tdiv (u32 (168 + (Int.tmod far_0 832))) 100))))))), (Ax.AV.int .u8 (Ax.I.sym (u8 (48 + (u8 (Int.tmod (u32 (Int.tdiv (u32 (168 + (Int.tmod far_0 832))) 10)) 10)))))), (Ax.AV.int .u8 (Ax.I.sym (u8 (48 + (u8 (Int.tmod (u32 (168 + (Int.tmod far_0 832))) 10))))))]) fun s_4 =>
      bif (decide (((s_4).length + 3) ≤ 9223372036854775807)) then (bif (decide (((s_4).length + 6) ≤ 9223372036854775807)) then (bif (decide ((1 + (s_4).length) ≤ 9223372036854775807)) then (Option.bind (F_offset_Parse [(.s s_4)]) fun r_4 =>
      onI r_4 fun i_4 ds_12 =>
      onI ds_12 fun i_5 ds_13 =>
      Option.bind (bif (!decide (i_4 = 0)) then (some true) else
       (bif (!decide (i_5 = 3)) then (some true) else
        (some false))) fun b_4 =>
      bif b_4 then (some [(.b false)]) else
      (Option.bind (F_offset_Parse [(.s (s_4 ++ ([58, 48, 48] : List UInt8)))]) fun r_5 =>
       onI r_5 fun i_6 ds_14 =>
       onI ds_14 fun i_7 ds_15 =>
       Option.bind (bif (!decide (i_6 = 0)) then (some true) else
        (bif (!decide (i_7 = 3)) then (some true) else
         (some false))) fun b_5 =>
       bif b_5 then (some [(.b false)]) else
       (Option.bind (F_offset_Parse [(.s (s_4 ++ ([58, 53, 57, 58, 53, 57] : List UInt8)))]) fun r_6 =>
        onI r_6 fun i_8 ds_16 =>
        onI ds_16 fun i_9 ds_17 =>
        Option.bind (bif (!decide (i_8 = 0)) then (some true) else
         (bif (!decide (i_9 = 3)) then (some true) else
          (some false))) fun b_6 =>
        bif b_6 then (some [(.b false)]) else
        (Option.bind (F_offset_Parse [(.s (([45] : List UInt8) ++ s_4))]) fun r_7 =>
         onI r_7 fun i_10 ds_18 =>
         onI ds_18 fun i_11 ds_19 =>
         Option.bind (bif (!decide (i_10 = 0)) then (some true) else
          (bif (!decide (i_11 = 3)) then (some true) else
           (some false))) fun b_7 =>
         bif b_7 then (some [(.b false)]) else
         (Option.bind (F_offset_Print [(.i (i64 (Int.tmod n_0 604800)))]) fun r_8 =>
          onS r_8 fun s_5 ds_20 =>
          onI ds_20 fun i_12 ds_21 =>
          bif (!decide (i_12 = 0)) then (some [(.b false)]) else
          (bif (decide ((1 + (s_5).length) ≤ 9223372036854775807)) then (bif (decide (((s_5).length + 1) ≤ 9223372036854775807)) then (bif (decide ((1 + (s_5).length) ≤ 9223372036854775807)) then (bif (decide ((2 + (s_5).length) ≤ 9223372036854775807)) then (bif (decide (((s_5).length + 1) ≤ 9223372036854775807)) then (bif (decide ((1 + (s_5).length) ≤ 9223372036854775807)) then (bif (decide (((s_5).length + 1) ≤ 9223372036854775807)) then (bif (decide ((2 + (s_5).length) ≤ 9223372036854775807)) then (Option.bind (F_offset_Parse [(.s (([32] : List UInt8) ++ s_5))]) fun r_9 =>
           onI r_9 fun i_13 ds_22 =>
           onI ds_22 fun i_14 ds_23 =>
           Option.bind (bif (!decide (i_13 = 0)) then (some true) else
            (bif (!decide (i_14 = 5)) then (some true) else
             (some false))) fun b_8 =>
           bif b_8 then (some [(.b false)]) else
           (Option.bind (F_offset_Parse [(.s (s_5 ++ ([32] : List UInt8)))]) fun r_10 =>
            onI r_10 fun i_15 ds_24 =>
            onI ds_24 fun i_16 ds_25 =>
            Option.bind (bif (!decide (i_15 = 0)) then (some true) else
             (bif (!decide (i_16 = 5)) then (some true) else
              (some false))) fun b_9 =>
            bif b_9 then (some [(.b false)]) else
            (Option.bind (F_offset_Parse [(.s (([43] : List UInt8) ++ s_5))]) fun r_11 =>
             onI r_11 fun i_17 ds_26 =>
             onI ds_26 fun i_18 ds_27 =>
             Option.bind (bif (!decide (i_17 = 0)) then (some true) else
              (bif (!decide (i_18 = 5)) then (some true) else
               (some false))) fun b_10 =>
             bif b_10 then (some [(.b false)]) else
             (Option.bind (F_offset_Parse [(.s (([45, 45] : List UInt8) ++ s_5))]) fun r_12 =>
              onI r_12 fun i_19 ds_28 =>
              onI ds_28 fun i_20 ds_29 =>
              Option.bind (bif (!decide (i_19 = 0)) then (some true) else
               (bif (!decide (i_20 = 5)) then (some true) else
                (some false))) fun b_11 =>
              bif b_11 then (some [(.b false)]) else
              (Option.bind (F_offset_Parse [(.s (s_5 ++ ([58] : List UInt8)))]) fun r_13 =>
               onI r_13 fun i_21 ds_30 =>
               onI ds_30 fun i_22 ds_31 =>
               Option.bind (bif (!decide (i_21 = 0)) then (some true) else
                (bif (!decide (i_22 = 5)) then (some true) else
                 (some false))) fun b_12 =>
               bif b_12 then (some [(.b false)]) else
               (Option.bind (F_offset_Parse [(.s (([58] : List UInt8) ++ s_5))]) fun r_14 =>
                onI r_14 fun i_23 ds_32 =>
                onI ds_32 fun i_24 ds_33 =>
                Option.bind (bif (!decide (i_23 = 0)) then (some true) else
                 (bif (!decide (i_24 = 5)) then (some true) else
                  (some false))) fun b_13 =>
                bif b_13 then (some [(.b false)]) else
                (Option.bind (F_offset_Parse [(.s (s_5 ++ ([45] : List UInt8)))]) fun r_15 =>
                 onI r_15 fun i_25 ds_34 =>
                 onI ds_34 fun i_26 ds_35 =>
                 Option.bind (bif (!decide (i_25 = 0)) then (some true) else
                  (bif (!decide (i_26 = 5)) then (some true) else
                   (some false))) fun b_14 =>
                 bif b_14 then (some [(.b false)]) else
                 (Option.bind (F_offset_Parse [(.s (([48, 48] : List UInt8) ++ s_5))]) fun r_16 =>
                  onI r_16 fun i_27 ds_36 =>
                  onI ds_36 fun i_28 ds_37 =>
                  Option.bind (bif (!decide (i_27 = 0)) then (some true) else
                   (bif (!decide (i_28 = 5)) then (some true) else
                    (some false))) fun b_15 =>
                  bif b_15 then (some [(.b false)]) else
                  (Option.bind (bif (decide (48 ≤ c_0)) then (bif (decide (c_0 ≤ 57)) then (some true) else
                     (bif (decide (c_0 = 58)) then (some true) else
                      (some false))) else
                    (bif (decide (c_0 = 58)) then (some true) else
                     (some false))) fun b_16 =>
                   bif b_16 then (Option.bind (F_law04_works []) fun r_17 =>
                    onB r_17 fun b_17 ds_38 =>
                    some [(.b b_17)]) else
                   (Option.bind (bytesOf [(Ax.AV.int .u8 (Ax.I.sym c_0))]) fun s_6 =>
                    bif (decide (((s_5).length + (s_6).length) ≤ 9223372036854775807)) then (Option.bind (F_offset_Parse [(.s (s_5 ++ s_6))]) fun r_18 =>
                    onI r_18 fun i_29 ds_39 =>
                    onI ds_39 fun i_30 ds_40 =>
                    bif (decide (i_29 = 0)) then (bif (decide (i_30 = 5)) then (Option.bind (F_law04_works []) fun r_19 =>
                      onB r_19 fun b_18 ds_41 =>
                      some [(.b b_18)]) else
                     (some [(.b false)])) else
                    (some [(.b false)])) else none)))))))))) else none) else none) else none) else none) else none) else none) else none) else none)))))) else none) else none) else none))))
end Go.Proofs.YtdpjkapaphelhaaDoor
