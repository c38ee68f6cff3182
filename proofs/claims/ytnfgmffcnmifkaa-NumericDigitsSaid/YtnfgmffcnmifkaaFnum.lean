/-
  The functions of plain data that the laws of this group reach, as the program has them.
-/
import Derived.Test.YtnfgmffcnmifkaaAx33
import Derived.Test.YtnfgmffcnmifkaaAx36
namespace Go.Proofs.Ytnfgmffcnmifkaa
open Go.Ax
set_option linter.all false
set_option maxRecDepth 100000
noncomputable def F_numeric_Text : List Dat → Option (List Dat) := fun ds_0 =>
  onI ds_0 fun off_0 ds_1 =>
  Option.bind (bif (decide (off_0 < (-86399))) then (some true) else
   (bif (decide (86399 < off_0)) then (some true) else
    (some false))) fun b_0 =>
  bif b_0 then (some [(.s ([] : List UInt8))]) else
  (bif (decide (off_0 < 0)) then (bif (decide ((Int.tmod (i64 (0 - off_0)) 60) = 0)) then (bif (decide ((Int.tmod (i64 (Int.tdiv (i64 (0 - off_0)) 60)) 60) = 0)) then (Option.bind (bytesOf [(Ax.AV.int .u8 (Ax.I.lit 45)), (Ax.AV.int .u8 (Ax.I.sym (u8 (48 + (u8 (i64 (Int.tdiv (i64 (Int.tdiv (i64 (0 - off_0)) 3600)) 10))))))), (Ax.AV.int .u8 (Ax.I.sym (u8 (48 + (u8 (Int.tmod (i64 (Int.tdiv (i64 (0 - off_0)) 3600)) 10))))))]) fun s_0 =>
      some [(.s s_0)]) else
     (Option.bind (bytesOf [(Ax.AV.int .u8 (Ax.I.lit 45)), (Ax.AV.int .u8 (Ax.I.sym (u8 (48 + (u8 (i64 (Int.tdiv (i64 (Int.tdiv (i64 (0 - off_0)) 3600)) 10))))))), (Ax.AV.int .u8 (Ax.I.sym (u8 (48 + (u8 (Int.tmod (i64 (Int.tdiv (i64 (0 - off_0)) 3600)) 10)))))), (Ax.AV.int .u8 (Ax.I.sym (u8 (48 + (u8 (i64 (Int.tdiv (Int.tmod (i64 (Int.tdiv (i64 (0 - off_0)) 60)) 60) 10))))))), (Ax.AV.int .u8 (Ax.I.sym (u8 (48 + (u8 (Int.tmod (Int.tmod (i64 (Int.tdiv (i64 (0 - off_0)) 60)) 60) 10))))))]) fun s_1 =>
      some [(.s s_1)])) else
    (Option.bind (bytesOf [(Ax.AV.int .u8 (Ax.I.lit 45)), (Ax.AV.int .u8 (Ax.I.sym (u8 (48 + (u8 (i64 (Int.tdiv (i64 (Int.tdiv (i64 (0 - off_0)) 3600)) 10))))))), (Ax.AV.int .u8 (Ax.I.sym (u8 (48 + (u8 (Int.tmod (i64 (Int.tdiv (i64 (0 - off_0)) 3600)) 10)))))), (Ax.AV.int .u8 (Ax.I.sym (u8 (48 + (u8 (i64 (Int.tdiv (Int.tmod (i64 (Int.tdiv (i64 (0 - off_0)) 60)) 60) 10))))))), (Ax.AV.int .u8 (Ax.I.sym (u8 (48 + (u8 (Int.tmod (Int.tmod (i64 (Int.tdiv (i64 (0 - off_0)) 60)) 60) 10)))))), (Ax.AV.int .u8 (Ax.I.sym (u8 (48 + (u8 (i64 (Int.tdiv (Int.tmod (i64 (0 - off_0)) 60) 10))))))), (Ax.AV.int .u8 (Ax.I.sym (u8 (48 + (u8 (Int.tmod (Int.tmod (i64 (0 - off_0)) 60) 10))))))]) fun s_2 =>
     some [(.s s_2)])) else
   (bif (decide ((Int.tmod off_0 60) = 0)) then (bif (decide ((Int.tmod (i64 (Int.tdiv off_0 60)) 60) = 0)) then (Option.bind (bytesOf [(Ax.AV.int .u8 (Ax.I.lit 43)), (Ax.AV.int .u8 (Ax.I.sym (u8 (48 + (u8 (i64 (Int.tdiv (i64 (Int.tdiv off_0 3600)) 10))))))), (Ax.AV.int .u8 (Ax.I.sym (u8 (48 + (u8 (Int.tmod (i64 (Int.tdiv off_0 3600)) 10))))))]) fun s_3 =>
      some [(.s s_3)]) else
     (Option.bind (bytesOf [(Ax.AV.int .u8 (Ax.I.lit 43)), (Ax.AV.int .u8 (Ax.I.sym (u8 (48 + (u8 (i64 (Int.tdiv (i64 (Int.tdiv off_0 3600)) 10))))))), (Ax.AV.int .u8 (Ax.I.sym (u8 (48 + (u8 (Int.tmod (i64 (Int.tdiv off_0 3600)) 10)))))), (Ax.AV.int .u8 (Ax.I.sym (u8 (48 + (u8 (i64 (Int.tdiv (Int.tmod (i64 (Int.tdiv off_0 60)) 60) 10))))))), (Ax.AV.int .u8 (Ax.I.sym (u8 (48 + (u8 (Int.tmod (Int.tmod (i64 (Int.tdiv off_0 60)) 60) 10))))))]) fun s_4 =>
      some [(.s s_4)])) else
    (Option.bind (bytesOf [(Ax.AV.int .u8 (Ax.I.lit 43)), (Ax.AV.int .u8 (Ax.I.sym (u8 (48 + (u8 (i64 (Int.tdiv (i64 (Int.tdiv off_0 3600)) 10))))))), (Ax.AV.int .u8 (Ax.I.sym (u8 (48 + (u8 (Int.tmod (i64 (Int.tdiv off_0 3600)) 10)))))), (Ax.AV.int .u8 (Ax.I.sym (u8 (48 + (u8 (i64 (Int.tdiv (Int.tmod (i64 (Int.tdiv off_0 60)) 60) 10))))))), (Ax.AV.int .u8 (Ax.I.sym (u8 (48 + (u8 (Int.tmod (Int.tmod (i64 (Int.tdiv off_0 60)) 60) 10)))))), (Ax.AV.int .u8 (Ax.I.sym (u8 (48 + (u8 (i64 (Int.tdiv (Int.tmod off_0 60) 10))))))), (Ax.AV.int .u8 (Ax.I.sym (u8 (48 + (u8 (Int.tmod (Int.tmod off_0 60) 10))))))]) fun s_5 =>
     some [(.s s_5)])))
noncomputable def F_numeric_Parse_L0 : List Dat → Option (List Dat ⊕ List Dat) := fun ds_2 =>
  onS ds_2 fun s_1 ds_3 =>
  onI ds_3 fun voff_0 ds_4 =>
  onI ds_4 fun unit_0 ds_5 =>
  onI ds_5 fun i_0 ds_6 =>
  bif (decide (i_0 < (((s_1).length : Nat) : Int))) then (bif (decide ((0 ≤ i_0) ∧ (i_0 < (((s_1).length : Nat) : Int)))) then (bif (decide ((0 ≤ (i64 (i_0 + 1))) ∧ ((i64 (i_0 + 1)) < (((s_1).length : Nat) : Int)))) then (some (.inl [(.s s_1), (.i (i64 (voff_0 + (i64 ((i64 ((i64 (10 * (i64 (u8 (((((List.getD s_1 (i_0).toNat 0)).toNat : Nat) : Int) - 48))))) + (i64 (u8 (((((List.getD s_1 ((i64 (i_0 + 1))).toNat 0)).toNat : Nat) : Int) - 48))))) * unit_0))))), (.i (i64 (Int.tdiv unit_0 60))), (.i (i64 (i_0 + 2)))])) else none) else none) else
  (Option.map .inr (bif (decide (((0 : Int) ≤ 0) ∧ (0 < (((s_1).length : Nat) : Int)))) then (bif (decide (((((List.getD s_1 0 0)).toNat : Nat) : Int) = 45)) then (Option.bind (F_numeric_Text [(.i (i64 (0 - voff_0)))]) fun r_0 =>
     onS r_0 fun s_2 ds_7 =>
     bif (!(s_2 == s_1)) then (some [(.i 0), (.i 5)]) else
     (some [(.i (i64 (0 - voff_0))), (.i 0)])) else
    (Option.bind (F_numeric_Text [(.i voff_0)]) fun r_1 =>
     onS r_1 fun s_3 ds_8 =>
     bif (!(s_3 == s_1)) then (some [(.i 0), (.i 5)]) else
     (some [(.i voff_0), (.i 0)]))) else none))
noncomputable def F_numeric_Parse : List Dat → Option (List Dat) := fun ds_0 =>
  onS ds_0 fun s_0 ds_1 =>
  Option.bind (bif (decide ((((s_0).length : Nat) : Int) < 3)) then (some true) else
   (bif (decide (7 < (((s_0).length : Nat) : Int))) then (some true) else
    (bif (decide ((Int.tmod (((s_0).length : Nat) : Int) 2) = 0)) then (some true) else
     (some false)))) fun b_0 =>
  bif b_0 then (some [(.i 0), (.i 5)]) else
  (iter F_numeric_Parse_L0 [(.s s_0), (.i 0), (.i 3600), (.i 1)])
noncomputable def F_law20_saves_L0 : List Dat → Option (List Dat ⊕ List Dat) := fun ds_3 =>
  onN ds_3 fun outn_0 ds_4 =>
  onN ds_4 fun vn_0 ds_5 =>
  onL ds_5 fun vl_0 ds_6 =>
  onI ds_6 fun v_0 ds_7 =>
  onI ds_7 fun v_1 ds_8 =>
  onL ds_8 fun cells_0 ds_9 =>
  bif (decide (v_1 < v_0)) then (bif (decide ((0 ≤ v_1) ∧ (v_1 < ((vn_0 : Nat) : Int)))) then (Option.bind (asI .i64 (vl_0)[(v_1).toNat]?) fun x_0 =>
   bif (decide ((cells_0).length = (outn_0 * 11))) then (bif (decide (((outn_0 + 1) * 104) ≤ 140737488355328)) then (bif (List.all (cells_0 ++ [(Ax.AV.str (Ax.S.lit ([82] : List UInt8))), (Ax.AV.int .i64 (Ax.I.lit 0)), (Ax.AV.int .i64 (Ax.I.lit 0)), (Ax.AV.int .i64 (Ax.I.lit 0)), (Ax.AV.int .i64 (Ax.I.lit 0)), (Ax.AV.int .i64 (Ax.I.lit 0)), (Ax.AV.int .i64 (Ax.I.lit 0)), (Ax.AV.int .i64 (Ax.I.lit 0)), (Ax.AV.int .i64 (Ax.I.lit 0)), (Ax.AV.int .i64 (Ax.I.sym x_0)), (Ax.AV.str (Ax.S.lit ([] : List UInt8)))]) (Ax.closedN 20)) then (some (.inl [(.n (outn_0 + 1)), (.n vn_0), (.l vl_0), (.i v_0), (.i (i64 (v_1 + 1))), (.l (cells_0 ++ [(Ax.AV.str (Ax.S.lit ([82] : List UInt8))), (Ax.AV.int .i64 (Ax.I.lit 0)), (Ax.AV.int .i64 (Ax.I.lit 0)), (Ax.AV.int .i64 (Ax.I.lit 0)), (Ax.AV.int .i64 (Ax.I.lit 0)), (Ax.AV.int .i64 (Ax.I.lit 0)), (Ax.AV.int .i64 (Ax.I.lit 0)), (Ax.AV.int .i64 (Ax.I.lit 0)), (Ax.AV.int .i64 (Ax.I.lit 0)), (Ax.AV.int .i64 (Ax.I.sym x_0)), (Ax.AV.str (Ax.S.lit ([] : List UInt8)))]))])) else
   (none)) else none) else none) else none) else
  (Option.map .inr (bif (decide ((cells_0).length = (outn_0 * 11))) then (bif (List.all cells_0 (Ax.closedN 20)) then (some [(.n outn_0), (.l cells_0)]) else
     (none)) else
    (none)))
noncomputable def F_law20_saves : List Dat → Option (List Dat) := fun ds_0 =>
  onN ds_0 fun ln_0 ds_1 =>
  onL ds_1 fun ll_0 ds_2 =>
  iter F_law20_saves_L0 [(.n 0), (.n ln_0), (.l ll_0), (.i ((ln_0 : Nat) : Int)), (.i 0), (.l [])]
noncomputable def F_numeric_join_L0 : List Dat → Option (List Dat ⊕ List Dat) := fun ds_3 =>
  onN ds_3 fun numbersn_1 ds_4 =>
  onL ds_4 fun numbersl_1 ds_5 =>
  onN ds_5 fun vn_0 ds_6 =>
  onL ds_6 fun vl_0 ds_7 =>
  onI ds_7 fun v_0 ds_8 =>
  onI ds_8 fun v_1 ds_9 =>
  bif (decide (v_1 < v_0)) then (bif (decide ((0 ≤ v_1) ∧ (v_1 < ((vn_0 : Nat) : Int)))) then (Option.bind (asS (vl_0)[(v_1).toNat]?) fun s_0 =>
   bif (s_0 == ([] : List UInt8)) then (Option.map .inr (some [(.s ([] : List UInt8)), (.i 3)])) else
   (some (.inl [(.n numbersn_1), (.l numbersl_1), (.n vn_0), (.l vl_0), (.i v_0), (.i (i64 (v_1 + 1)))]))) else none) else
  (Option.map .inr (Option.bind (Ax.strJoin [(.n numbersn_1), (.l numbersl_1), (.s ([47] : List UInt8))]) fun r_0 =>
    onS r_0 fun s_1 ds_10 =>
    some [(.s s_1), (.i 0)]))
noncomputable def F_numeric_join : List Dat → Option (List Dat) := fun ds_0 =>
  onN ds_0 fun numbersn_0 ds_1 =>
  onL ds_1 fun numbersl_0 ds_2 =>
  iter F_numeric_join_L0 [(.n numbersn_0), (.l numbersl_0), (.n numbersn_0), (.l numbersl_0), (.i ((numbersn_0 : Nat) : Int)), (.i 0)]
noncomputable def F_numeric_sum : List Dat → Option (List Dat) := fun ds_0 =>
  onI ds_0 fun a_0 ds_1 =>
  onI ds_1 fun b_0 ds_2 =>
  Option.bind (bif (decide ((i64 (a_0 + b_0)) < a_0)) then (bif (decide (b_0 < 0)) then (some false) else
    (some true)) else
   (bif (decide (b_0 < 0)) then (some true) else
    (some false))) fun b_1 =>
  bif b_1 then (some [(.s ([] : List UInt8))]) else
  (Option.bind (F_numeric_Text [(.i (i64 (a_0 + b_0)))]) fun r_0 =>
   onS r_0 fun s_0 ds_3 =>
   some [(.s s_0)])
noncomputable def F_ruleset_Other_L0 : List Dat → Option (List Dat ⊕ List Dat) := fun ds_3 =>
  onI ds_3 fun other_0 ds_4 =>
  onN ds_4 fun vn_0 ds_5 =>
  onL ds_5 fun vl_0 ds_6 =>
  onI ds_6 fun v_0 ds_7 =>
  onI ds_7 fun v_1 ds_8 =>
  bif (decide (v_1 < v_0)) then (bif (decide ((0 ≤ v_1) ∧ (v_1 < ((vn_0 : Nat) : Int)))) then (Option.bind (asS ((List.drop ((v_1).toNat * 11) vl_0))[0]?) fun s_0 =>
   Option.bind (asI .i64 ((List.drop 1 (List.drop ((v_1).toNat * 11) vl_0)))[0]?) fun x_0 =>
   Option.bind (asI .i64 ((List.drop 1 (List.drop 1 (List.drop ((v_1).toNat * 11) vl_0))))[0]?) fun x_1 =>
   Option.bind (asI .i64 ((List.drop 1 (List.drop 1 (List.drop 1 (List.drop ((v_1).toNat * 11) vl_0)))))[0]?) fun x_2 =>
   Option.bind (asI .i64 ((List.drop 1 (List.drop 1 (List.drop 1 (List.drop 1 (List.drop ((v_1).toNat * 11) vl_0))))))[0]?) fun x_3 =>
   Option.bind (asI .i64 ((List.drop 1 (List.drop 1 (List.drop 1 (List.drop 1 (List.drop 1 (List.drop ((v_1).toNat * 11) vl_0)))))))[0]?) fun x_4 =>
   Option.bind (asI .i64 ((List.drop 1 (List.drop 1 (List.drop 1 (List.drop 1 (List.drop 1 (List.drop 1 (List.drop ((v_1).toNat * 11) vl_0))))))))[0]?) fun x_5 =>
   Option.bind (asI .i64 ((List.drop 1 (List.drop 1 (List.drop 1 (List.drop 1 (List.drop 1 (List.drop 1 (List.drop 1 (List.drop ((v_1).toNat * 11) vl_0)))))))))[0]?) fun x_6 =>
   Option.bind (asI .i64 ((List.drop 1 (List.drop 1 (List.drop 1 (List.drop 1 (List.drop 1 (List.drop 1 (List.drop 1 (List.drop 1 (List.drop ((v_1).toNat * 11) vl_0))))))))))[0]?) fun x_7 =>
   Option.bind (asI .i64 ((List.drop 1 (List.drop 1 (List.drop 1 (List.drop 1 (List.drop 1 (List.drop 1 (List.drop 1 (List.drop 1 (List.drop 1 (List.drop ((v_1).toNat * 11) vl_0)))))))))))[0]?) fun x_8 =>
   Option.bind (asS ((List.drop 1 (List.drop 1 (List.drop 1 (List.drop 1 (List.drop 1 (List.drop 1 (List.drop 1 (List.drop 1 (List.drop 1 (List.drop 1 (List.drop ((v_1).toNat * 11) vl_0))))))))))))[0]?) fun s_1 =>
   Option.bind (bif (decide (x_8 = 0)) then (some true) else
    (bif (decide (x_8 = other_0)) then (some true) else
     (some false))) fun b_0 =>
   bif b_0 then (some (.inl [(.i other_0), (.n vn_0), (.l vl_0), (.i v_0), (.i (i64 (v_1 + 1)))])) else
   (bif (!decide (other_0 = 0)) then (Option.map .inr (some [(.i 0), (.b false)])) else
    (some (.inl [(.i x_8), (.n vn_0), (.l vl_0), (.i v_0), (.i (i64 (v_1 + 1)))])))) else none) else
  (Option.map .inr (bif (!decide (other_0 = 0)) then (some [(.i other_0), (.b true)]) else
    (some [(.i other_0), (.b false)])))
noncomputable def F_ruleset_Other : List Dat → Option (List Dat) := fun ds_0 =>
  onN ds_0 fun ln_0 ds_1 =>
  onL ds_1 fun ll_0 ds_2 =>
  iter F_ruleset_Other_L0 [(.i 0), (.n ln_0), (.l ll_0), (.i ((ln_0 : Nat) : Int)), (.i 0)]
noncomputable def F_numeric_saved_L0 : List Dat → Option (List Dat ⊕ List Dat) := fun ds_3 =>
  onN ds_3 fun vn_0 ds_4 =>
  onL ds_4 fun vl_0 ds_5 =>
  onI ds_5 fun v_0 ds_6 =>
  onI ds_6 fun v_1 ds_7 =>
  bif (decide (v_1 < v_0)) then (bif (decide ((0 ≤ v_1) ∧ (v_1 < ((vn_0 : Nat) : Int)))) then (Option.bind (asS ((List.drop ((v_1).toNat * 11) vl_0))[0]?) fun s_0 =>
   Option.bind (asI .i64 ((List.drop 1 (List.drop ((v_1).toNat * 11) vl_0)))[0]?) fun x_0 =>
   Option.bind (asI .i64 ((List.drop 1 (List.drop 1 (List.drop ((v_1).toNat * 11) vl_0))))[0]?) fun x_1 =>
   Option.bind (asI .i64 ((List.drop 1 (List.drop 1 (List.drop 1 (List.drop ((v_1).toNat * 11) vl_0)))))[0]?) fun x_2 =>
   Option.bind (asI .i64 ((List.drop 1 (List.drop 1 (List.drop 1 (List.drop 1 (List.drop ((v_1).toNat * 11) vl_0))))))[0]?) fun x_3 =>
   Option.bind (asI .i64 ((List.drop 1 (List.drop 1 (List.drop 1 (List.drop 1 (List.drop 1 (List.drop ((v_1).toNat * 11) vl_0)))))))[0]?) fun x_4 =>
   Option.bind (asI .i64 ((List.drop 1 (List.drop 1 (List.drop 1 (List.drop 1 (List.drop 1 (List.drop 1 (List.drop ((v_1).toNat * 11) vl_0))))))))[0]?) fun x_5 =>
   Option.bind (asI .i64 ((List.drop 1 (List.drop 1 (List.drop 1 (List.drop 1 (List.drop 1 (List.drop 1 (List.drop 1 (List.drop ((v_1).toNat * 11) vl_0)))))))))[0]?) fun x_6 =>
   Option.bind (asI .i64 ((List.drop 1 (List.drop 1 (List.drop 1 (List.drop 1 (List.drop 1 (List.drop 1 (List.drop 1 (List.drop 1 (List.drop ((v_1).toNat * 11) vl_0))))))))))[0]?) fun x_7 =>
   Option.bind (asI .i64 ((List.drop 1 (List.drop 1 (List.drop 1 (List.drop 1 (List.drop 1 (List.drop 1 (List.drop 1 (List.drop 1 (List.drop 1 (List.drop ((v_1).toNat * 11) vl_0)))))))))))[0]?) fun x_8 =>
   Option.bind (asS ((List.drop 1 (List.drop 1 (List.drop 1 (List.drop 1 (List.drop 1 (List.drop 1 (List.drop 1 (List.drop 1 (List.drop 1 (List.drop 1 (List.drop ((v_1).toNat * 11) vl_0))))))))))))[0]?) fun s_1 =>
   bif (!decide (x_8 = 0)) then (Option.map .inr (some [(.b true)])) else
   (some (.inl [(.n vn_0), (.l vl_0), (.i v_0), (.i (i64 (v_1 + 1)))]))) else none) else
  (Option.map .inr (some [(.b false)]))
noncomputable def F_numeric_saved : List Dat → Option (List Dat) := fun ds_0 =>
  onN ds_0 fun ln_0 ds_1 =>
  onL ds_1 fun ll_0 ds_2 =>
  iter F_numeric_saved_L0 [(.n ln_0), (.l ll_0), (.i ((ln_0 : Nat) : Int)), (.i 0)]
noncomputable def F_numeric_Expansion : List Dat → Option (List Dat) := fun ds_0 =>
  onI ds_0 fun e_0 ds_1 =>
  onI ds_1 fun e_1 ds_2 =>
  onI ds_2 fun e_2 ds_3 =>
  onS ds_3 fun e_3 ds_4 =>
  onS ds_4 fun e_4 ds_5 =>
  onB ds_5 fun e_5 ds_6 =>
  onI ds_6 fun e_6 ds_7 =>
  onI ds_7 fun e_7 ds_8 =>
  onI ds_8 fun e_8 ds_9 =>
  onI ds_9 fun e_9 ds_10 =>
  onI ds_10 fun e_10 ds_11 =>
  onI ds_11 fun e_11 ds_12 =>
  onI ds_12 fun e_12 ds_13 =>
  onN ds_13 fun ln_0 ds_14 =>
  onL ds_14 fun ll_0 ds_15 =>
  bif (decide (e_1 = 0)) then (Option.bind (F_numeric_Text [(.i e_0)]) fun r_0 =>
   onS r_0 fun s_0 ds_16 =>
   bif (decide (1 ≤ ([(Ax.AV.str (Ax.S.sym s_0))]).length)) then (Option.bind (F_numeric_join [(.n 1), (.l [(Ax.AV.str (Ax.S.sym s_0))])]) fun r_1 =>
    onS r_1 fun s_1 ds_17 =>
    onI ds_17 fun i_0 ds_18 =>
    some [(.s s_1), (.i i_0)]) else
   (none)) else
  (bif (decide (e_1 = 1)) then (Option.bind (F_numeric_sum [(.i e_0), (.i e_2)]) fun r_2 =>
    onS r_2 fun s_2 ds_19 =>
    bif (decide (1 ≤ ([(Ax.AV.str (Ax.S.sym s_2))]).length)) then (Option.bind (F_numeric_join [(.n 1), (.l [(Ax.AV.str (Ax.S.sym s_2))])]) fun r_3 =>
     onS r_3 fun s_3 ds_20 =>
     onI ds_20 fun i_1 ds_21 =>
     some [(.s s_3), (.i i_1)]) else
    (none)) else
   (bif (decide (e_1 = 2)) then (Option.bind (F_ruleset_Other [(.n ln_0), (.l ll_0)]) fun r_4 =>
     onI r_4 fun i_2 ds_22 =>
     onB ds_22 fun b_0 ds_23 =>
     bif b_0 then (Option.bind (F_numeric_Text [(.i e_0)]) fun r_5 =>
      onS r_5 fun s_4 ds_24 =>
      Option.bind (F_numeric_sum [(.i e_0), (.i i_2)]) fun r_6 =>
      onS r_6 fun s_5 ds_25 =>
      bif (decide (2 ≤ ([(Ax.AV.str (Ax.S.sym s_4)), (Ax.AV.str (Ax.S.sym s_5))]).length)) then (Option.bind (F_numeric_join [(.n 2), (.l [(Ax.AV.str (Ax.S.sym s_4)), (Ax.AV.str (Ax.S.sym s_5))])]) fun r_7 =>
       onS r_7 fun s_6 ds_26 =>
       onI ds_26 fun i_3 ds_27 =>
       some [(.s s_6), (.i i_3)]) else
      (none)) else
     (Option.bind (F_numeric_saved [(.n ln_0), (.l ll_0)]) fun r_8 =>
      onB r_8 fun b_1 ds_28 =>
      bif b_1 then (some [(.s ([] : List UInt8)), (.i 14)]) else
      (Option.bind (F_numeric_Text [(.i e_0)]) fun r_9 =>
       onS r_9 fun s_7 ds_29 =>
       bif (decide (1 ≤ ([(Ax.AV.str (Ax.S.sym s_7))]).length)) then (Option.bind (F_numeric_join [(.n 1), (.l [(Ax.AV.str (Ax.S.sym s_7))])]) fun r_10 =>
        onS r_10 fun s_8 ds_30 =>
        onI ds_30 fun i_4 ds_31 =>
        some [(.s s_8), (.i i_4)]) else
       (none)))) else
    (some [(.s ([] : List UInt8)), (.i 2)])))
noncomputable def F_law20_works : List Dat → Option (List Dat) := fun _ => some [.b true]
noncomputable def F_ref20_two : List Dat → Option (List Dat) := fun ds_0 =>
  onS ds_0 fun s_0 ds_1 =>
  onI ds_1 fun at_0 ds_2 =>
  Option.bind (bif (decide ((((s_0).length : Nat) : Int) < (i64 (at_0 + 2)))) then (some true) else
   (bif (decide ((0 ≤ at_0) ∧ (at_0 < (((s_0).length : Nat) : Int)))) then (bif (decide (((((List.getD s_0 (at_0).toNat 0)).toNat : Nat) : Int) < 48)) then (some true) else
    (bif (decide ((0 ≤ at_0) ∧ (at_0 < (((s_0).length : Nat) : Int)))) then (bif (decide (57 < ((((List.getD s_0 (at_0).toNat 0)).toNat : Nat) : Int))) then (some true) else
     (bif (decide ((0 ≤ (i64 (at_0 + 1))) ∧ ((i64 (at_0 + 1)) < (((s_0).length : Nat) : Int)))) then (bif (decide (((((List.getD s_0 ((i64 (at_0 + 1))).toNat 0)).toNat : Nat) : Int) < 48)) then (some true) else
      (bif (decide ((0 ≤ (i64 (at_0 + 1))) ∧ ((i64 (at_0 + 1)) < (((s_0).length : Nat) : Int)))) then (bif (decide (57 < ((((List.getD s_0 ((i64 (at_0 + 1))).toNat 0)).toNat : Nat) : Int))) then (some true) else
       (some false)) else none)) else none)) else none)) else none)) fun b_0 =>
  bif b_0 then (some [(.i (-1))]) else
  (bif (decide ((0 ≤ at_0) ∧ (at_0 < (((s_0).length : Nat) : Int)))) then (bif (decide ((0 ≤ (i64 (at_0 + 1))) ∧ ((i64 (at_0 + 1)) < (((s_0).length : Nat) : Int)))) then (some [(.i (i64 ((i64 (10 * (i64 (u8 (((((List.getD s_0 (at_0).toNat 0)).toNat : Nat) : Int) - 48))))) + (i64 (u8 (((((List.getD s_0 ((i64 (at_0 + 1))).toNat 0)).toNat : Nat) : Int) - 48))))))]) else none) else none)
noncomputable def F_ref04_Decimal_body (self : List Dat → Option (List Dat)) : List Dat → Option (List Dat) := fun ds_0 =>
  onI ds_0 fun n_0 ds_1 =>
  bif (decide (n_0 < 10)) then (bif (decide ((0 ≤ (i64 (n_0 + 1))) ∧ ((i64 (n_0 + 1)) ≤ 10))) then (bif (decide ((0 ≤ n_0) ∧ (n_0 ≤ ((((i64 (n_0 + 1))).toNat : Nat) : Int)))) then (some [(.s (List.take (((i64 (n_0 + 1))).toNat - (n_0).toNat) (List.drop (n_0).toNat ([48, 49, 50, 51, 52, 53, 54, 55, 56, 57] : List UInt8))))]) else none) else none) else
  (Option.bind (self [(.i (i64 (Int.tdiv n_0 10)))]) fun r_0 =>
   onS r_0 fun s_0 ds_2 =>
   Option.bind (self [(.i (Int.tmod n_0 10))]) fun r_1 =>
   onS r_1 fun s_1 ds_3 =>
   bif (decide (((s_0).length + (s_1).length) ≤ 9223372036854775807)) then (some [(.s (s_0 ++ s_1))]) else none)
noncomputable def F_ref04_Decimal : List Dat → Option (List Dat) := fun ds => fixN F_ref04_Decimal_body ((fun ds => match ds with | [.i n] => n.toNat + 1 | _ => 0 : List Dat → Nat) ds) ds
noncomputable def F_ref04_Two : List Dat → Option (List Dat) := fun ds_0 =>
  onI ds_0 fun n_0 ds_1 =>
  Option.bind (F_ref04_Decimal [(.i (i64 (Int.tdiv n_0 10)))]) fun r_0 =>
  onS r_0 fun s_0 ds_2 =>
  Option.bind (F_ref04_Decimal [(.i (Int.tmod n_0 10))]) fun r_1 =>
  onS r_1 fun s_1 ds_3 =>
  bif (decide (((s_0).length + (s_1).length) ≤ 9223372036854775807)) then (some [(.s (s_0 ++ s_1))]) else none
noncomputable def F_ref20_Text : List Dat → Option (List Dat) := fun ds_0 =>
  onI ds_0 fun off_0 ds_1 =>
  Option.bind (bif (decide (off_0 < (-86399))) then (some true) else
   (bif (decide (86399 < off_0)) then (some true) else
    (some false))) fun b_0 =>
  bif b_0 then (some [(.s ([] : List UInt8))]) else
  (bif (decide (off_0 < 0)) then (Option.bind (F_ref04_Two [(.i (i64 (Int.tdiv (i64 (0 - off_0)) 3600)))]) fun r_0 =>
    onS r_0 fun s_0 ds_2 =>
    bif (decide ((1 + (s_0).length) ≤ 9223372036854775807)) then (bif (!decide ((Int.tmod (i64 (0 - off_0)) 3600) = 0)) then (Option.bind (F_ref04_Two [(.i (Int.tmod (i64 (Int.tdiv (i64 (0 - off_0)) 60)) 60))]) fun r_1 =>
     onS r_1 fun s_1 ds_3 =>
     bif (decide ((((([45] : List UInt8) ++ s_0)).length + (s_1).length) ≤ 9223372036854775807)) then (bif (!decide ((Int.tmod (i64 (0 - off_0)) 60) = 0)) then (Option.bind (F_ref04_Two [(.i (Int.tmod (i64 (0 - off_0)) 60))]) fun r_2 =>
      onS r_2 fun s_2 ds_4 =>
      bif (decide (((((([45] : List UInt8) ++ s_0) ++ s_1)).length + (s_2).length) ≤ 9223372036854775807)) then (some [(.s (((([45] : List UInt8) ++ s_0) ++ s_1) ++ s_2))]) else none) else
     (some [(.s ((([45] : List UInt8) ++ s_0) ++ s_1))])) else none) else
    (bif (!decide ((Int.tmod (i64 (0 - off_0)) 60) = 0)) then (Option.bind (F_ref04_Two [(.i (Int.tmod (i64 (0 - off_0)) 60))]) fun r_3 =>
      onS r_3 fun s_3 ds_5 =>
      bif (decide ((((([45] : List UInt8) ++ s_0)).length + (s_3).length) ≤ 9223372036854775807)) then (some [(.s ((([45] : List UInt8) ++ s_0) ++ s_3))]) else none) else
     (some [(.s (([45] : List UInt8) ++ s_0))]))) else none) else
   (Option.bind (F_ref04_Two [(.i (i64 (Int.tdiv off_0 3600)))]) fun r_4 =>
    onS r_4 fun s_4 ds_6 =>
    bif (decide ((1 + (s_4).length) ≤ 9223372036854775807)) then (bif (!decide ((Int.tmod off_0 3600) = 0)) then (Option.bind (F_ref04_Two [(.i (Int.tmod (i64 (Int.tdiv off_0 60)) 60))]) fun r_5 =>
     onS r_5 fun s_5 ds_7 =>
     bif (decide ((((([43] : List UInt8) ++ s_4)).length + (s_5).length) ≤ 9223372036854775807)) then (bif (!decide ((Int.tmod off_0 60) = 0)) then (Option.bind (F_ref04_Two [(.i (Int.tmod off_0 60))]) fun r_6 =>
      onS r_6 fun s_6 ds_8 =>
      bif (decide (((((([43] : List UInt8) ++ s_4) ++ s_5)).length + (s_6).length) ≤ 9223372036854775807)) then (some [(.s (((([43] : List UInt8) ++ s_4) ++ s_5) ++ s_6))]) else none) else
     (some [(.s ((([43] : List UInt8) ++ s_4) ++ s_5))])) else none) else
    (bif (!decide ((Int.tmod off_0 60) = 0)) then (Option.bind (F_ref04_Two [(.i (Int.tmod off_0 60))]) fun r_7 =>
      onS r_7 fun s_7 ds_9 =>
      bif (decide ((((([43] : List UInt8) ++ s_4)).length + (s_7).length) ≤ 9223372036854775807)) then (some [(.s ((([43] : List UInt8) ++ s_4) ++ s_7))]) else none) else
     (some [(.s (([43] : List UInt8) ++ s_4))]))) else none))
noncomputable def F_ref20_Parse_L0 : List Dat → Option (List Dat ⊕ List Dat) := fun ds_2 =>
  onS ds_2 fun s_1 ds_3 =>
  onI ds_3 fun x_0 ds_4 =>
  onI ds_4 fun unit_0 ds_5 =>
  onI ds_5 fun vat_0 ds_6 =>
  Option.bind (bif (decide (vat_0 < (((s_1).length : Nat) : Int))) then (bif (decide (0 < unit_0)) then (some true) else
    (some false)) else
   (some false)) fun b_0 =>
  bif b_0 then (Option.bind (F_ref20_two [(.s s_1), (.i vat_0)]) fun r_0 =>
   onI r_0 fun i_0 ds_7 =>
   bif (decide (i_0 < 0)) then (Option.map .inr (some [(.i 0), (.i 5)])) else
   (some (.inl [(.s s_1), (.i (i64 (x_0 + (i64 (i_0 * unit_0))))), (.i (i64 (Int.tdiv unit_0 60))), (.i (i64 (vat_0 + 2)))]))) else
  (Option.map .inr (Option.bind (bif (decide (0 < (((s_1).length : Nat) : Int))) then (bif (decide (((0 : Int) ≤ 0) ∧ (0 < (((s_1).length : Nat) : Int)))) then (bif (decide (((((List.getD s_1 0 0)).toNat : Nat) : Int) = 45)) then (some true) else
      (some false)) else none) else
     (some false)) fun b_1 =>
    bif b_1 then (bif (s_1 == ([] : List UInt8)) then (some [(.i 0), (.i 5)]) else
     (Option.bind (F_ref20_Text [(.i (i64 (0 - x_0)))]) fun r_1 =>
      onS r_1 fun s_2 ds_8 =>
      bif (!(s_2 == s_1)) then (some [(.i 0), (.i 5)]) else
      (some [(.i (i64 (0 - x_0))), (.i 0)]))) else
    (bif (s_1 == ([] : List UInt8)) then (some [(.i 0), (.i 5)]) else
     (Option.bind (F_ref20_Text [(.i x_0)]) fun r_2 =>
      onS r_2 fun s_3 ds_9 =>
      bif (!(s_3 == s_1)) then (some [(.i 0), (.i 5)]) else
      (some [(.i x_0), (.i 0)])))))
noncomputable def F_ref20_Parse : List Dat → Option (List Dat) := fun ds_0 =>
  onS ds_0 fun s_0 ds_1 =>
  iter F_ref20_Parse_L0 [(.s s_0), (.i 0), (.i 3600), (.i 1)]
noncomputable def F_law20_NumericTexts : List Dat → Option (List Dat) := fun ds_0 =>
  onI ds_0 fun off_0 ds_1 =>
  onS ds_1 fun s_0 ds_2 =>
  bif (decide (100 < (((s_0).length : Nat) : Int))) then (Option.bind (F_law20_works []) fun r_0 =>
   onB r_0 fun b_0 ds_3 =>
   some [(.b b_0)]) else
  (Option.bind (F_numeric_Parse [(.s s_0)]) fun r_1 =>
   onI r_1 fun i_0 ds_4 =>
   onI ds_4 fun i_1 ds_5 =>
   Option.bind (F_ref20_Parse [(.s s_0)]) fun r_2 =>
   onI r_2 fun i_2 ds_6 =>
   onI ds_6 fun i_3 ds_7 =>
   Option.bind (F_numeric_Text [(.i off_0)]) fun r_3 =>
   onS r_3 fun s_1 ds_8 =>
   Option.bind (F_ref20_Text [(.i off_0)]) fun r_4 =>
   onS r_4 fun s_2 ds_9 =>
   bif (s_1 == s_2) then (bif (decide (i_0 = i_2)) then (bif (decide (i_1 = i_3)) then (Option.bind (F_law20_works []) fun r_5 =>
      onB r_5 fun b_1 ds_10 =>
      some [(.b b_1)]) else
     (some [(.b false)])) else
    (some [(.b false)])) else
   (some [(.b false)]))
noncomputable def F_ref20_sum : List Dat → Option (List Dat) := fun ds_0 =>
  onI ds_0 fun a_0 ds_1 =>
  onI ds_1 fun b_0 ds_2 =>
  Option.bind (bif (decide (0 < b_0)) then (bif (decide ((i64 (86399 - b_0)) < a_0)) then (some true) else
    (bif (decide (b_0 < 0)) then (bif (decide (a_0 < (i64 ((-86399) - b_0)))) then (some true) else
      (some false)) else
     (some false))) else
   (bif (decide (b_0 < 0)) then (bif (decide (a_0 < (i64 ((-86399) - b_0)))) then (some true) else
     (some false)) else
    (some false))) fun b_1 =>
  bif b_1 then (some [(.s ([] : List UInt8))]) else
  (Option.bind (F_ref20_Text [(.i (i64 (a_0 + b_0)))]) fun r_0 =>
   onS r_0 fun s_0 ds_3 =>
   some [(.s s_0)])
noncomputable def F_ref16_Other_L0 : List Dat → Option (List Dat ⊕ List Dat) := fun ds_3 =>
  onN ds_3 fun ln_1 ds_4 =>
  onL ds_4 fun ll_1 ds_5 =>
  onI ds_5 fun x_0 ds_6 =>
  onI ds_6 fun i_0 ds_7 =>
  bif (decide (i_0 < ((ln_1 : Nat) : Int))) then (Option.bind (bif (decide ((0 ≤ i_0) ∧ (i_0 < ((ln_1 : Nat) : Int)))) then (Option.bind (asI .i64 (ll_1)[(((i_0).toNat * 11) + 9)]?) fun x_1 =>
    bif (!decide (x_1 = 0)) then (bif (!decide (x_0 = 0)) then (bif (decide ((0 ≤ i_0) ∧ (i_0 < ((ln_1 : Nat) : Int)))) then (Option.bind (asI .i64 (ll_1)[(((i_0).toNat * 11) + 9)]?) fun x_2 =>
      bif (!decide (x_2 = x_0)) then (some true) else
      (some false)) else none) else
     (some false)) else
    (some false)) else none) fun b_0 =>
   bif b_0 then (Option.map .inr (some [(.i 0), (.b false)])) else
   (bif (decide ((0 ≤ i_0) ∧ (i_0 < ((ln_1 : Nat) : Int)))) then (Option.bind (asI .i64 (ll_1)[(((i_0).toNat * 11) + 9)]?) fun x_3 =>
    bif (!decide (x_3 = 0)) then (bif (decide ((0 ≤ i_0) ∧ (i_0 < ((ln_1 : Nat) : Int)))) then (Option.bind (asI .i64 (ll_1)[(((i_0).toNat * 11) + 9)]?) fun x_4 =>
     some (.inl [(.n ln_1), (.l ll_1), (.i x_4), (.i (i64 (i_0 + 1)))])) else none) else
    (some (.inl [(.n ln_1), (.l ll_1), (.i x_0), (.i (i64 (i_0 + 1)))]))) else none)) else
  (Option.map .inr (bif (!decide (x_0 = 0)) then (some [(.i x_0), (.b true)]) else
    (some [(.i x_0), (.b false)])))
noncomputable def F_ref16_Other : List Dat → Option (List Dat) := fun ds_0 =>
  onN ds_0 fun ln_0 ds_1 =>
  onL ds_1 fun ll_0 ds_2 =>
  iter F_ref16_Other_L0 [(.n ln_0), (.l ll_0), (.i 0), (.i 0)]
noncomputable def F_ref20_Expansion_L0 : List Dat → Option (List Dat ⊕ List Dat) := fun ds_20 =>
  onN ds_20 fun ln_1 ds_21 =>
  onL ds_21 fun ll_1 ds_22 =>
  onS ds_22 fun first_0 ds_23 =>
  onI ds_23 fun x_0 ds_24 =>
  onB ds_24 fun is_0 ds_25 =>
  onI ds_25 fun i_1 ds_26 =>
  onI ds_26 fun c_0 ds_27 =>
  onI ds_27 fun c_1 ds_28 =>
  onI ds_28 fun c_2 ds_29 =>
  onS ds_29 fun c_3 ds_30 =>
  onS ds_30 fun c_4 ds_31 =>
  onB ds_31 fun c_5 ds_32 =>
  onI ds_32 fun c_6 ds_33 =>
  onI ds_33 fun c_7 ds_34 =>
  onI ds_34 fun c_8 ds_35 =>
  onI ds_35 fun c_9 ds_36 =>
  onI ds_36 fun c_10 ds_37 =>
  onI ds_37 fun c_11 ds_38 =>
  onI ds_38 fun c_12 ds_39 =>
  bif (decide (i_1 < ((ln_1 : Nat) : Int))) then (Option.bind (bif (decide ((0 ≤ i_1) ∧ (i_1 < ((ln_1 : Nat) : Int)))) then (Option.bind (asI .i64 (ll_1)[(((i_1).toNat * 11) + 9)]?) fun x_1 =>
    bif (!decide (x_1 = 0)) then (some (!is_0)) else
    (some false)) else none) fun b_2 =>
   bif b_2 then (Option.map .inr (some [(.s ([] : List UInt8)), (.i 14)])) else
   (some (.inl [(.n ln_1), (.l ll_1), (.s first_0), (.i x_0), (.b is_0), (.i (i64 (i_1 + 1))), (.i c_0), (.i c_1), (.i c_2), (.s c_3), (.s c_4), (.b c_5), (.i c_6), (.i c_7), (.i c_8), (.i c_9), (.i c_10), (.i c_11), (.i c_12)]))) else
  (Option.map .inr (Option.bind (F_ref20_sum [(.i c_0), (.i x_0)]) fun r_3 =>
    onS r_3 fun s_2 ds_40 =>
    Option.bind (bif (first_0 == ([] : List UInt8)) then (some true) else
     (bif is_0 then (bif (s_2 == ([] : List UInt8)) then (some true) else
       (some false)) else
      (some false))) fun b_3 =>
    bif b_3 then (some [(.s ([] : List UInt8)), (.i 3)]) else
    (bif is_0 then (bif (decide (((first_0).length + 1) ≤ 9223372036854775807)) then (bif (decide ((((first_0 ++ ([47] : List UInt8))).length + (s_2).length) ≤ 9223372036854775807)) then (some [(.s ((first_0 ++ ([47] : List UInt8)) ++ s_2)), (.i 0)]) else none) else none) else
     (some [(.s first_0), (.i 0)]))))
noncomputable def F_ref20_Expansion_L1 : List Dat → Option (List Dat ⊕ List Dat) := fun ds_43 =>
  onN ds_43 fun n_0 ds_44 =>
  onL ds_44 fun l_0 ds_45 =>
  onS ds_45 fun s_3 ds_46 =>
  onI ds_46 fun i_3 ds_47 =>
  onB ds_47 fun b_6 ds_48 =>
  onI ds_48 fun i_4 ds_49 =>
  onI ds_49 fun i_5 ds_50 =>
  onI ds_50 fun i_6 ds_51 =>
  onI ds_51 fun i_7 ds_52 =>
  onS ds_52 fun s_4 ds_53 =>
  onS ds_53 fun s_5 ds_54 =>
  onB ds_54 fun b_7 ds_55 =>
  onI ds_55 fun i_8 ds_56 =>
  onI ds_56 fun i_9 ds_57 =>
  onI ds_57 fun i_10 ds_58 =>
  onI ds_58 fun i_11 ds_59 =>
  onI ds_59 fun i_12 ds_60 =>
  onI ds_60 fun i_13 ds_61 =>
  onI ds_61 fun i_14 ds_62 =>
  bif (decide (i_4 < ((n_0 : Nat) : Int))) then (Option.bind (bif (decide ((0 ≤ i_4) ∧ (i_4 < ((n_0 : Nat) : Int)))) then (Option.bind (asI .i64 (l_0)[(((i_4).toNat * 11) + 9)]?) fun x_2 =>
    bif (!decide (x_2 = 0)) then (some (!b_6)) else
    (some false)) else none) fun b_8 =>
   bif b_8 then (Option.map .inr (some [(.s ([] : List UInt8)), (.i 14)])) else
   (some (.inl [(.n n_0), (.l l_0), (.s s_3), (.i i_3), (.b b_6), (.i (i64 (i_4 + 1))), (.i i_5), (.i i_6), (.i i_7), (.s s_4), (.s s_5), (.b b_7), (.i i_8), (.i i_9), (.i i_10), (.i i_11), (.i i_12), (.i i_13), (.i i_14)]))) else
  (Option.map .inr (Option.bind (F_ref20_sum [(.i i_5), (.i i_3)]) fun r_5 =>
    onS r_5 fun s_6 ds_63 =>
    Option.bind (bif (s_3 == ([] : List UInt8)) then (some true) else
     (bif b_6 then (bif (s_6 == ([] : List UInt8)) then (some true) else
       (some false)) else
      (some false))) fun b_9 =>
    bif b_9 then (some [(.s ([] : List UInt8)), (.i 3)]) else
    (bif b_6 then (bif (decide (((s_3).length + 1) ≤ 9223372036854775807)) then (bif (decide ((((s_3 ++ ([47] : List UInt8))).length + (s_6).length) ≤ 9223372036854775807)) then (some [(.s ((s_3 ++ ([47] : List UInt8)) ++ s_6)), (.i 0)]) else none) else none) else
     (some [(.s s_3), (.i 0)]))))
noncomputable def F_ref20_Expansion : List Dat → Option (List Dat) := fun ds_0 =>
  onI ds_0 fun e_0 ds_1 =>
  onI ds_1 fun e_1 ds_2 =>
  onI ds_2 fun e_2 ds_3 =>
  onS ds_3 fun e_3 ds_4 =>
  onS ds_4 fun e_4 ds_5 =>
  onB ds_5 fun e_5 ds_6 =>
  onI ds_6 fun e_6 ds_7 =>
  onI ds_7 fun e_7 ds_8 =>
  onI ds_8 fun e_8 ds_9 =>
  onI ds_9 fun e_9 ds_10 =>
  onI ds_10 fun e_10 ds_11 =>
  onI ds_11 fun e_11 ds_12 =>
  onI ds_12 fun e_12 ds_13 =>
  onN ds_13 fun ln_0 ds_14 =>
  onL ds_14 fun ll_0 ds_15 =>
  Option.bind (bif (decide (e_1 < 0)) then (some true) else
   (bif (decide (2 < e_1)) then (some true) else
    (some false))) fun b_0 =>
  bif b_0 then (some [(.s ([] : List UInt8)), (.i 2)]) else
  (Option.bind (F_ref20_Text [(.i e_0)]) fun r_0 =>
   onS r_0 fun s_0 ds_16 =>
   bif (decide (e_1 = 1)) then (Option.bind (F_ref20_sum [(.i e_0), (.i e_2)]) fun r_1 =>
    onS r_1 fun s_1 ds_17 =>
    bif (decide (e_1 = 2)) then (Option.bind (F_ref16_Other [(.n ln_0), (.l ll_0)]) fun r_2 =>
     onI r_2 fun i_0 ds_18 =>
     onB ds_18 fun b_1 ds_19 =>
     iter F_ref20_Expansion_L0 [(.n ln_0), (.l ll_0), (.s s_1), (.i i_0), (.b b_1), (.i 0), (.i e_0), (.i e_1), (.i e_2), (.s e_3), (.s e_4), (.b e_5), (.i e_6), (.i e_7), (.i e_8), (.i e_9), (.i e_10), (.i e_11), (.i e_12)]) else
    (Option.bind (bif (s_1 == ([] : List UInt8)) then (some true) else
      (some false)) fun b_4 =>
     bif b_4 then (some [(.s ([] : List UInt8)), (.i 3)]) else
     (some [(.s s_1), (.i 0)]))) else
   (bif (decide (e_1 = 2)) then (Option.bind (F_ref16_Other [(.n ln_0), (.l ll_0)]) fun r_4 =>
     onI r_4 fun i_2 ds_41 =>
     onB ds_41 fun b_5 ds_42 =>
     iter F_ref20_Expansion_L1 [(.n ln_0), (.l ll_0), (.s s_0), (.i i_2), (.b b_5), (.i 0), (.i e_0), (.i e_1), (.i e_2), (.s e_3), (.s e_4), (.b e_5), (.i e_6), (.i e_7), (.i e_8), (.i e_9), (.i e_10), (.i e_11), (.i e_12)]) else
    (Option.bind (bif (s_0 == ([] : List UInt8)) then (some true) else
      (some false)) fun b_10 =>
     bif b_10 then (some [(.s ([] : List UInt8)), (.i 3)]) else
     (some [(.s s_0), (.i 0)]))))
noncomputable def F_law20_NumericExpands : List Dat → Option (List Dat) := fun ds_0 =>
  onI ds_0 fun x_0 ds_1 =>
  onI ds_1 fun x_1 ds_2 =>
  onI ds_2 fun x_2 ds_3 =>
  onS ds_3 fun x_3 ds_4 =>
  onS ds_4 fun x_4 ds_5 =>
  onB ds_5 fun x_5 ds_6 =>
  onI ds_6 fun x_6 ds_7 =>
  onI ds_7 fun x_7 ds_8 =>
  onI ds_8 fun x_8 ds_9 =>
  onI ds_9 fun x_9 ds_10 =>
  onI ds_10 fun x_10 ds_11 =>
  onI ds_11 fun x_11 ds_12 =>
  onI ds_12 fun x_12 ds_13 =>
  onN ds_13 fun ln_0 ds_14 =>
  onL ds_14 fun ll_0 ds_15 =>
  bif (decide (40 < ((ln_0 : Nat) : Int))) then (Option.bind (F_law20_works []) fun r_0 =>
   onB r_0 fun b_0 ds_16 =>
   some [(.b b_0)]) else
  (Option.bind (F_numeric_Expansion [(.i x_0), (.i x_1), (.i x_2), (.s x_3), (.s x_4), (.b x_5), (.i x_6), (.i x_7), (.i x_8), (.i x_9), (.i x_10), (.i x_11), (.i x_12), (.n ln_0), (.l ll_0)]) fun r_1 =>
   onS r_1 fun s_0 ds_17 =>
   onI ds_17 fun i_0 ds_18 =>
   Option.bind (F_ref20_Expansion [(.i x_0), (.i x_1), (.i x_2), (.s x_3), (.s x_4), (.b x_5), (.i x_6), (.i x_7), (.i x_8), (.i x_9), (.i x_10), (.i x_11), (.i x_12), (.n ln_0), (.l ll_0)]) fun r_2 =>
   onS r_2 fun s_1 ds_19 =>
   onI ds_19 fun i_1 ds_20 =>
   bif (s_0 == s_1) then (bif (decide (i_0 = i_1)) then (Option.bind (F_law20_works []) fun r_3 =>
     onB r_3 fun b_1 ds_21 =>
     some [(.b b_1)]) else
    (some [(.b false)])) else
   (some [(.b false)]))
noncomputable def F_law20_NumericBack : List Dat → Option (List Dat) := fun ds_0 =>
  onI ds_0 fun m_0 ds_1 =>
  onI ds_1 fun n_0 ds_2 =>
  Option.bind (F_numeric_Text [(.i (i64 (Int.tmod m_0 86400)))]) fun r_0 =>
  onS r_0 fun s_0 ds_3 =>
  Option.bind (F_numeric_Text [(.i (i64 (Int.tmod n_0 86400)))]) fun r_1 =>
  onS r_1 fun s_1 ds_4 =>
  Option.bind (F_numeric_Parse [(.s s_0)]) fun r_2 =>
  onI r_2 fun i_0 ds_5 =>
  onI ds_5 fun i_1 ds_6 =>
  Option.bind (bif (!decide (i_0 = (i64 (Int.tmod m_0 86400)))) then (some true) else
   (bif (!decide (i_1 = 0)) then (some true) else
    (bif (s_0 == s_1) then (bif (decide ((i64 (Int.tmod m_0 86400)) = (i64 (Int.tmod n_0 86400)))) then (bif (!decide ((((s_0).length : Nat) : Int) = 3)) then (bif (!decide ((((s_0).length : Nat) : Int) = 5)) then (bif (!decide ((((s_0).length : Nat) : Int) = 7)) then (some true) else
         (bif (decide (((0 : Int) ≤ 0) ∧ (0 < (((s_0).length : Nat) : Int)))) then (bif (!decide (((((List.getD s_0 0 0)).toNat : Nat) : Int) = 43)) then (some true) else
          (some false)) else none)) else
        (bif (decide (((0 : Int) ≤ 0) ∧ (0 < (((s_0).length : Nat) : Int)))) then (bif (!decide (((((List.getD s_0 0 0)).toNat : Nat) : Int) = 43)) then (some true) else
         (some false)) else none)) else
       (bif (decide (((0 : Int) ≤ 0) ∧ (0 < (((s_0).length : Nat) : Int)))) then (bif (!decide (((((List.getD s_0 0 0)).toNat : Nat) : Int) = 43)) then (some true) else
        (some false)) else none)) else
      (some true)) else
     (bif (decide ((i64 (Int.tmod m_0 86400)) = (i64 (Int.tmod n_0 86400)))) then (some true) else
      (bif (!decide ((((s_0).length : Nat) : Int) = 3)) then (bif (!decide ((((s_0).length : Nat) : Int) = 5)) then (bif (!decide ((((s_0).length : Nat) : Int) = 7)) then (some true) else
         (bif (decide (((0 : Int) ≤ 0) ∧ (0 < (((s_0).length : Nat) : Int)))) then (bif (!decide (((((List.getD s_0 0 0)).toNat : Nat) : Int) = 43)) then (some true) else
          (some false)) else none)) else
        (bif (decide (((0 : Int) ≤ 0) ∧ (0 < (((s_0).length : Nat) : Int)))) then (bif (!decide (((((List.getD s_0 0 0)).toNat : Nat) : Int) = 43)) then (some true) else
         (some false)) else none)) else
       (bif (decide (((0 : Int) ≤ 0) ∧ (0 < (((s_0).length : Nat) : Int)))) then (bif (!decide (((((List.getD s_0 0 0)).toNat : Nat) : Int) = 43)) then (some true) else
        (some false)) else none)))))) fun b_0 =>
  bif b_0 then (some [(.b false)]) else
  (Option.bind (F_numeric_Text [(.i (i64 (0 - (i64 (Int.tmod m_0 86400)))))]) fun r_3 =>
   onS r_3 fun s_2 ds_7 =>
   bif (decide ((i64 (Int.tmod m_0 86400)) = 0)) then (bif (s_2 == s_0) then (Option.bind (F_law20_works []) fun r_4 =>
     onB r_4 fun b_1 ds_8 =>
     some [(.b b_1)]) else
    (some [(.b false)])) else
   (Option.bind (F_numeric_Parse [(.s s_2)]) fun r_5 =>
    onI r_5 fun i_2 ds_9 =>
    onI ds_9 fun i_3 ds_10 =>
    bif (decide ((((s_2).length : Nat) : Int) = (((s_0).length : Nat) : Int))) then (bif (decide (((0 : Int) ≤ 0) ∧ (0 < (((s_2).length : Nat) : Int)))) then (bif (decide (((((List.getD s_2 0 0)).toNat : Nat) : Int) = 45)) then (bif (decide (((0 : Int) ≤ 1) ∧ (1 ≤ (((s_2).length : Nat) : Int)))) then (bif (decide (((0 : Int) ≤ 1) ∧ (1 ≤ (((s_0).length : Nat) : Int)))) then (bif ((List.take ((s_2).length - 1) (List.drop 1 s_2)) == (List.take ((s_0).length - 1) (List.drop 1 s_0))) then (bif (decide (i_2 = (i64 (0 - (i64 (Int.tmod m_0 86400)))))) then (bif (decide (i_3 = 0)) then (Option.bind (F_law20_works []) fun r_6 =>
         onB r_6 fun b_2 ds_11 =>
         some [(.b b_2)]) else
        (some [(.b false)])) else
       (some [(.b false)])) else
      (some [(.b false)])) else none) else none) else
     (some [(.b false)])) else none) else
    (some [(.b false)])))
noncomputable def F_law20_NumericDigits : List Dat → Option (List Dat) := fun ds_0 =>
  onI ds_0 fun hours_0 ds_1 =>
  onI ds_1 fun minutes_0 ds_2 =>
  onI ds_2 fun seconds_0 ds_3 =>
  onB ds_3 fun minus_0 ds_4 =>
  bif minus_0 then (Option.bind (bif (decide ((i64 (Int.tmod hours_0 100)) < 24)) then (bif (decide ((i64 (Int.tmod minutes_0 100)) < 60)) then (bif (decide ((i64 (Int.tmod seconds_0 100)) < 60)) then (bif (!decide ((i64 (0 - (i64 ((i64 ((i64 (3600 * (i64 (Int.tmod hours_0 100)))) + (i64 (60 * (i64 (Int.tmod minutes_0 100)))))) + (i64 (Int.tmod seconds_0 100)))))) = 0)) then (some true) else
       (some (!minus_0))) else
      (some false)) else
     (some false)) else
    (some false)) fun b_0 =>
   Option.bind (bytesOf [(Ax.AV.int .u8 (Ax.I.sym (u8 (48 + (u8 (i64 (Int.tdiv (i64 (Int.tmod hours_0 100)) 10))))))), (Ax.AV.int .u8 (Ax.I.sym (u8 (48 + (u8 (Int.tmod (i64 (Int.tmod hours_0 100)) 10))))))]) fun s_0 =>
   bif (decide ((1 + (s_0).length) ≤ 9223372036854775807)) then (Option.bind (bytesOf [(Ax.AV.int .u8 (Ax.I.sym (u8 (48 + (u8 (i64 (Int.tdiv (i64 (Int.tmod hours_0 100)) 10))))))), (Ax.AV.int .u8 (Ax.I.sym (u8 (48 + (u8 (Int.tmod (i64 (Int.tmod hours_0 100)) 10))))))]) fun s_1 =>
   bif (decide ((1 + (s_1).length) ≤ 9223372036854775807)) then (Option.bind (bytesOf [(Ax.AV.int .u8 (Ax.I.sym (u8 (48 + (u8 (i64 (Int.tdiv (i64 (Int.tmod minutes_0 100)) 10))))))), (Ax.AV.int .u8 (Ax.I.sym (u8 (48 + (u8 (Int.tmod (i64 (Int.tmod minutes_0 100)) 10))))))]) fun s_2 =>
   bif (decide ((((([45] : List UInt8) ++ s_1)).length + (s_2).length) ≤ 9223372036854775807)) then (Option.bind (bytesOf [(Ax.AV.int .u8 (Ax.I.sym (u8 (48 + (u8 (i64 (Int.tdiv (i64 (Int.tmod hours_0 100)) 10))))))), (Ax.AV.int .u8 (Ax.I.sym (u8 (48 + (u8 (Int.tmod (i64 (Int.tmod hours_0 100)) 10))))))]) fun s_3 =>
   bif (decide ((1 + (s_3).length) ≤ 9223372036854775807)) then (Option.bind (bytesOf [(Ax.AV.int .u8 (Ax.I.sym (u8 (48 + (u8 (i64 (Int.tdiv (i64 (Int.tmod minutes_0 100)) 10))))))), (Ax.AV.int .u8 (Ax.I.sym (u8 (48 + (u8 (Int.tmod (i64 (Int.tmod minutes_0 100)) 10))))))]) fun s_4 =>
   bif (decide ((((([45] : List UInt8) ++ s_3)).length + (s_4).length) ≤ 9223372036854775807)) then (Option.bind (bytesOf [(Ax.AV.int .u8 (Ax.I.sym (u8 (48 + (u8 (i64 (Int.tdiv (i64 (Int.tmod seconds_0 100)) 10))))))), (Ax.AV.int .u8 (Ax.I.sym (u8 (48 + (u8 (Int.tmod (i64 (Int.tmod seconds_0 100)) 10))))))]) fun s_5 =>
   bif (decide (((((([45] : List UInt8) ++ s_3) ++ s_4)).length + (s_5).length) ≤ 9223372036854775807)) then (Option.bind (bif (decide ((i64 (Int.tmod hours_0 100)) < 24)) then (bif (!decide ((i64 (Int.tmod hours_0 100)) = 0)) then (some true) else
     (some (!minus_0))) else
    (some false)) fun b_1 =>
   Option.bind (F_numeric_Parse [(.s (([45] : List UInt8) ++ s_0))]) fun r_0 =>
   onI r_0 fun i_0 ds_5 =>
   onI ds_5 fun i_1 ds_6 =>
   Option.bind (bif (decide (i_1 = 0)) then (bif (!(true == b_1)) then (some true) else
     (bif (!decide (i_1 = 0)) then (bif (!decide (i_0 = 0)) then (some true) else
       (bif (!decide (i_1 = 5)) then (some true) else
        (some false))) else
      (some false))) else
    (bif (!(false == b_1)) then (some true) else
     (bif (!decide (i_1 = 0)) then (bif (!decide (i_0 = 0)) then (some true) else
       (bif (!decide (i_1 = 5)) then (some true) else
        (some false))) else
      (some false)))) fun b_2 =>
   bif b_2 then (some [(.b false)]) else
   (bif (decide (i_1 = 0)) then (Option.bind (F_numeric_Text [(.i i_0)]) fun r_1 =>
     onS r_1 fun s_6 ds_7 =>
     bif (!(s_6 == (([45] : List UInt8) ++ s_0))) then (some [(.b false)]) else
     (Option.bind (some false) fun b_3 =>
      bif b_3 then (some [(.b false)]) else
      (Option.bind (bif (decide ((i64 (Int.tmod hours_0 100)) < 24)) then (bif (decide ((i64 (Int.tmod minutes_0 100)) < 60)) then (bif (!decide ((i64 (Int.tmod minutes_0 100)) = 0)) then (some true) else
          (some false)) else
         (some false)) else
        (some false)) fun b_4 =>
       Option.bind (F_numeric_Parse [(.s ((([45] : List UInt8) ++ s_1) ++ s_2))]) fun r_2 =>
       onI r_2 fun i_2 ds_8 =>
       onI ds_8 fun i_3 ds_9 =>
       Option.bind (bif (decide (i_3 = 0)) then (bif (!(true == b_4)) then (some true) else
         (bif (!decide (i_3 = 0)) then (bif (!decide (i_2 = 0)) then (some true) else
           (bif (!decide (i_3 = 5)) then (some true) else
            (some false))) else
          (some false))) else
        (bif (!(false == b_4)) then (some true) else
         (bif (!decide (i_3 = 0)) then (bif (!decide (i_2 = 0)) then (some true) else
           (bif (!decide (i_3 = 5)) then (some true) else
            (some false))) else
          (some false)))) fun b_5 =>
       bif b_5 then (some [(.b false)]) else
       (bif (decide (i_3 = 0)) then (Option.bind (F_numeric_Text [(.i i_2)]) fun r_3 =>
         onS r_3 fun s_7 ds_10 =>
         bif (!(s_7 == ((([45] : List UInt8) ++ s_1) ++ s_2))) then (some [(.b false)]) else
         (Option.bind (some false) fun b_6 =>
          bif b_6 then (some [(.b false)]) else
          (Option.bind (bif b_0 then (bif (!decide ((i64 (Int.tmod seconds_0 100)) = 0)) then (some true) else
             (some false)) else
            (some false)) fun b_7 =>
           Option.bind (F_numeric_Parse [(.s (((([45] : List UInt8) ++ s_3) ++ s_4) ++ s_5))]) fun r_4 =>
           onI r_4 fun i_4 ds_11 =>
           onI ds_11 fun i_5 ds_12 =>
           Option.bind (bif (decide (i_5 = 0)) then (bif (!(true == b_7)) then (some true) else
             (bif (!decide (i_5 = 0)) then (bif (!decide (i_4 = 0)) then (some true) else
               (bif (!decide (i_5 = 5)) then (some true) else
                (some false))) else
              (some false))) else
            (bif (!(false == b_7)) then (some true) else
             (bif (!decide (i_5 = 0)) then (bif (!decide (i_4 = 0)) then (some true) else
               (bif (!decide (i_5 = 5)) then (some true) else
                (some false))) else
              (some false)))) fun b_8 =>
           bif b_8 then (some [(.b false)]) else
           (bif (decide (i_5 = 0)) then (Option.bind (F_numeric_Text [(.i i_4)]) fun r_5 =>
             onS r_5 fun s_8 ds_13 =>
             bif (!(s_8 == (((([45] : List UInt8) ++ s_3) ++ s_4) ++ s_5))) then (some [(.b false)]) else
             (Option.bind (bif (decide (i_5 = 0)) then (bif (!decide (i_4 = (i64 (0 - (i64 ((i64 ((i64 (3600 * (i64 (Int.tmod hours_0 100)))) + (i64 (60 * (i64 (Int.tmod minutes_0 100)))))) + (i64 (Int.tmod seconds_0 100)))))))) then (some true) else
                (some false)) else
               (some false)) fun b_9 =>
              bif b_9 then (some [(.b false)]) else
              (Option.bind (F_law20_works []) fun r_6 =>
               onB r_6 fun b_10 ds_14 =>
               some [(.b b_10)]))) else
            (Option.bind (bif (decide (i_5 = 0)) then (bif (!decide (i_4 = (i64 (0 - (i64 ((i64 ((i64 (3600 * (i64 (Int.tmod hours_0 100)))) + (i64 (60 * (i64 (Int.tmod minutes_0 100)))))) + (i64 (Int.tmod seconds_0 100)))))))) then (some true) else
               (some false)) else
              (some false)) fun b_11 =>
             bif b_11 then (some [(.b false)]) else
             (Option.bind (F_law20_works []) fun r_7 =>
              onB r_7 fun b_12 ds_15 =>
              some [(.b b_12)])))))) else
        (Option.bind (some false) fun b_13 =>
         bif b_13 then (some [(.b false)]) else
         (Option.bind (bif b_0 then (bif (!decide ((i64 (Int.tmod seconds_0 100)) = 0)) then (some true) else
            (some false)) else
           (some false)) fun b_14 =>
          Option.bind (F_numeric_Parse [(.s (((([45] : List UInt8) ++ s_3) ++ s_4) ++ s_5))]) fun r_8 =>
          onI r_8 fun i_6 ds_16 =>
          onI ds_16 fun i_7 ds_17 =>
          Option.bind (bif (decide (i_7 = 0)) then (bif (!(true == b_14)) then (some true) else
            (bif (!decide (i_7 = 0)) then (bif (!decide (i_6 = 0)) then (some true) else
              (bif (!decide (i_7 = 5)) then (some true) else
               (some false))) else
             (some false))) else
           (bif (!(false == b_14)) then (some true) else
            (bif (!decide (i_7 = 0)) then (bif (!decide (i_6 = 0)) then (some true) else
              (bif (!decide (i_7 = 5)) then (some true) else
               (some false))) else
             (some false)))) fun b_15 =>
          bif b_15 then (some [(.b false)]) else
          (bif (decide (i_7 = 0)) then (Option.bind (F_numeric_Text [(.i i_6)]) fun r_9 =>
            onS r_9 fun s_9 ds_18 =>
            bif (!(s_9 == (((([45] : List UInt8) ++ s_3) ++ s_4) ++ s_5))) then (some [(.b false)]) else
            (Option.bind (bif (decide (i_7 = 0)) then (bif (!decide (i_6 = (i64 (0 - (i64 ((i64 ((i64 (3600 * (i64 (Int.tmod hours_0 100)))) + (i64 (60 * (i64 (Int.tmod minutes_0 100)))))) + (i64 (Int.tmod seconds_0 100)))))))) then (some true) else
               (some false)) else
              (some false)) fun b_16 =>
             bif b_16 then (some [(.b false)]) else
             (Option.bind (F_law20_works []) fun r_10 =>
              onB r_10 fun b_17 ds_19 =>
              some [(.b b_17)]))) else
           (Option.bind (bif (decide (i_7 = 0)) then (bif (!decide (i_6 = (i64 (0 - (i64 ((i64 ((i64 (3600 * (i64 (Int.tmod hours_0 100)))) + (i64 (60 * (i64 (Int.tmod minutes_0 100)))))) + (i64 (Int.tmod seconds_0 100)))))))) then (some true) else
              (some false)) else
             (some false)) fun b_18 =>
            bif b_18 then (some [(.b false)]) else
            (Option.bind (F_law20_works []) fun r_11 =>
             onB r_11 fun b_19 ds_20 =>
             some [(.b b_19)]))))))))) else
    (Option.bind (some false) fun b_20 =>
     bif b_20 then (some [(.b false)]) else
     (Option.bind (bif (decide ((i64 (Int.tmod hours_0 100)) < 24)) then (bif (decide ((i64 (Int.tmod minutes_0 100)) < 60)) then (bif (!decide ((i64 (Int.tmod minutes_0 100)) = 0)) then (some true) else
         (some false)) else
        (some false)) else
       (some false)) fun b_21 =>
      Option.bind (F_numeric_Parse [(.s ((([45] : List UInt8) ++ s_1) ++ s_2))]) fun r_12 =>
      onI r_12 fun i_8 ds_21 =>
      onI ds_21 fun i_9 ds_22 =>
      Option.bind (bif (decide (i_9 = 0)) then (bif (!(true == b_21)) then (some true) else
        (bif (!decide (i_9 = 0)) then (bif (!decide (i_8 = 0)) then (some true) else
          (bif (!decide (i_9 = 5)) then (some true) else
           (some false))) else
         (some false))) else
       (bif (!(false == b_21)) then (some true) else
        (bif (!decide (i_9 = 0)) then (bif (!decide (i_8 = 0)) then (some true) else
          (bif (!decide (i_9 = 5)) then (some true) else
           (some false))) else
         (some false)))) fun b_22 =>
      bif b_22 then (some [(.b false)]) else
      (bif (decide (i_9 = 0)) then (Option.bind (F_numeric_Text [(.i i_8)]) fun r_13 =>
        onS r_13 fun s_10 ds_23 =>
        bif (!(s_10 == ((([45] : List UInt8) ++ s_1) ++ s_2))) then (some [(.b false)]) else
        (Option.bind (some false) fun b_23 =>
         bif b_23 then (some [(.b false)]) else
         (Option.bind (bif b_0 then (bif (!decide ((i64 (Int.tmod seconds_0 100)) = 0)) then (some true) else
            (some false)) else
           (some false)) fun b_24 =>
          Option.bind (F_numeric_Parse [(.s (((([45] : List UInt8) ++ s_3) ++ s_4) ++ s_5))]) fun r_14 =>
          onI r_14 fun i_10 ds_24 =>
          onI ds_24 fun i_11 ds_25 =>
          Option.bind (bif (decide (i_11 = 0)) then (bif (!(true == b_24)) then (some true) else
            (bif (!decide (i_11 = 0)) then (bif (!decide (i_10 = 0)) then (some true) else
              (bif (!decide (i_11 = 5)) then (some true) else
               (some false))) else
             (some false))) else
           (bif (!(false == b_24)) then (some true) else
            (bif (!decide (i_11 = 0)) then (bif (!decide (i_10 = 0)) then (some true) else
              (bif (!decide (i_11 = 5)) then (some true) else
               (some false))) else
             (some false)))) fun b_25 =>
          bif b_25 then (some [(.b false)]) else
          (bif (decide (i_11 = 0)) then (Option.bind (F_numeric_Text [(.i i_10)]) fun r_15 =>
            onS r_15 fun s_11 ds_26 =>
            bif (!(s_11 == (((([45] : List UInt8) ++ s_3) ++ s_4) ++ s_5))) then (some [(.b false)]) else
            (Option.bind (bif (decide (i_11 = 0)) then (bif (!decide (i_10 = (i64 (0 - (i64 ((i64 ((i64 (3600 * (i64 (Int.tmod hours_0 100)))) + (i64 (60 * (i64 (Int.tmod minutes_0 100)))))) + (i64 (Int.tmod seconds_0 100)))))))) then (some true) else
               (some false)) else
              (some false)) fun b_26 =>
             bif b_26 then (some [(.b false)]) else
             (Option.bind (F_law20_works []) fun r_16 =>
              onB r_16 fun b_27 ds_27 =>
              some [(.b b_27)]))) else
           (Option.bind (bif (decide (i_11 = 0)) then (bif (!decide (i_10 = (i64 (0 - (i64 ((i64 ((i64 (3600 * (i64 (Int.tmod hours_0 100)))) + (i64 (60 * (i64 (Int.tmod minutes_0 100)))))) + (i64 (Int.tmod seconds_0 100)))))))) then (some true) else
              (some false)) else
             (some false)) fun b_28 =>
            bif b_28 then (some [(.b false)]) else
            (Option.bind (F_law20_works []) fun r_17 =>
             onB r_17 fun b_29 ds_28 =>
             some [(.b b_29)])))))) else
       (Option.bind (some false) fun b_30 =>
        bif b_30 then (some [(.b false)]) else
        (Option.bind (bif b_0 then (bif (!decide ((i64 (Int.tmod seconds_0 100)) = 0)) then (some true) else
           (some false)) else
          (some false)) fun b_31 =>
         Option.bind (F_numeric_Parse [(.s (((([45] : List UInt8) ++ s_3) ++ s_4) ++ s_5))]) fun r_18 =>
         onI r_18 fun i_12 ds_29 =>
         onI ds_29 fun i_13 ds_30 =>
         Option.bind (bif (decide (i_13 = 0)) then (bif (!(true == b_31)) then (some true) else
           (bif (!decide (i_13 = 0)) then (bif (!decide (i_12 = 0)) then (some true) else
             (bif (!decide (i_13 = 5)) then (some true) else
              (some false))) else
            (some false))) else
          (bif (!(false == b_31)) then (some true) else
           (bif (!decide (i_13 = 0)) then (bif (!decide (i_12 = 0)) then (some true) else
             (bif (!decide (i_13 = 5)) then (some true) else
              (some false))) else
            (some false)))) fun b_32 =>
         bif b_32 then (some [(.b false)]) else
         (bif (decide (i_13 = 0)) then (Option.bind (F_numeric_Text [(.i i_12)]) fun r_19 =>
           onS r_19 fun s_12 ds_31 =>
           bif (!(s_12 == (((([45] : List UInt8) ++ s_3) ++ s_4) ++ s_5))) then (some [(.b false)]) else
           (Option.bind (bif (decide (i_13 = 0)) then (bif (!decide (i_12 = (i64 (0 - (i64 ((i64 ((i64 (3600 * (i64 (Int.tmod hours_0 100)))) + (i64 (60 * (i64 (Int.tmod minutes_0 100)))))) + (i64 (Int.tmod seconds_0 100)))))))) then (some true) else
              (some false)) else
             (some false)) fun b_33 =>
            bif b_33 then (some [(.b false)]) else
            (Option.bind (F_law20_works []) fun r_20 =>
             onB r_20 fun b_34 ds_32 =>
             some [(.b b_34)]))) else
          (Option.bind (bif (decide (i_13 = 0)) then (bif (!decide (i_12 = (i64 (0 - (i64 ((i64 ((i64 (3600 * (i64 (Int.tmod hours_0 100)))) + (i64 (60 * (i64 (Int.tmod minutes_0 100)))))) + (i64 (Int.tmod seconds_0 100)))))))) then (some true) else
             (some false)) else
            (some false)) fun b_35 =>
           bif b_35 then (some [(.b false)]) else
           (Option.bind (F_law20_works []) fun r_21 =>
            onB r_21 fun b_36 ds_33 =>
            some [(.b b_36)])))))))))) else none) else none) else none) else none) else none) else none) else
  (Option.bind (bif (decide ((i64 (Int.tmod hours_0 100)) < 24)) then (bif (decide ((i64 (Int.tmod minutes_0 100)) < 60)) then (bif (decide ((i64 (Int.tmod seconds_0 100)) < 60)) then (bif (!decide ((i64 ((i64 ((i64 (3600 * (i64 (Int.tmod hours_0 100)))) + (i64 (60 * (i64 (Int.tmod minutes_0 100)))))) + (i64 (Int.tmod seconds_0 100)))) = 0)) then (some true) else
       (some (!minus_0))) else
      (some false)) else
     (some false)) else
    (some false)) fun b_37 =>
   Option.bind (bytesOf [(Ax.AV.int .u8 (Ax.I.sym (u8 (48 + (u8 (i64 (Int.tdiv (i64 (Int.tmod hours_0 100)) 10))))))), (Ax.AV.int .u8 (Ax.I.sym (u8 (48 + (u8 (Int.tmod (i64 (Int.tmod hours_0 100)) 10))))))]) fun s_13 =>
   bif (decide ((1 + (s_13).length) ≤ 9223372036854775807)) then (Option.bind (bytesOf [(Ax.AV.int .u8 (Ax.I.sym (u8 (48 + (u8 (i64 (Int.tdiv (i64 (Int.tmod hours_0 100)) 10))))))), (Ax.AV.int .u8 (Ax.I.sym (u8 (48 + (u8 (Int.tmod (i64 (Int.tmod hours_0 100)) 10))))))]) fun s_14 =>
   bif (decide ((1 + (s_14).length) ≤ 9223372036854775807)) then (Option.bind (bytesOf [(Ax.AV.int .u8 (Ax.I.sym (u8 (48 + (u8 (i64 (Int.tdiv (i64 (Int.tmod minutes_0 100)) 10))))))), (Ax.AV.int .u8 (Ax.I.sym (u8 (48 + (u8 (Int.tmod (i64 (Int.tmod minutes_0 100)) 10))))))]) fun s_15 =>
   bif (decide ((((([43] : List UInt8) ++ s_14)).length + (s_15).length) ≤ 9223372036854775807)) then (Option.bind (bytesOf [(Ax.AV.int .u8 (Ax.I.sym (u8 (48 + (u8 (i64 (Int.tdiv (i64 (Int.tmod hours_0 100)) 10))))))), (Ax.AV.int .u8 (Ax.I.sym (u8 (48 + (u8 (Int.tmod (i64 (Int.tmod hours_0 100)) 10))))))]) fun s_16 =>
   bif (decide ((1 + (s_16).length) ≤ 9223372036854775807)) then (Option.bind (bytesOf [(Ax.AV.int .u8 (Ax.I.sym (u8 (48 + (u8 (i64 (Int.tdiv (i64 (Int.tmod minutes_0 100)) 10))))))), (Ax.AV.int .u8 (Ax.I.sym (u8 (48 + (u8 (Int.tmod (i64 (Int.tmod minutes_0 100)) 10))))))]) fun s_17 =>
   bif (decide ((((([43] : List UInt8) ++ s_16)).length + (s_17).length) ≤ 9223372036854775807)) then (Option.bind (bytesOf [(Ax.AV.int .u8 (Ax.I.sym (u8 (48 + (u8 (i64 (Int.tdiv (i64 (Int.tmod seconds_0 100)) 10))))))), (Ax.AV.int .u8 (Ax.I.sym (u8 (48 + (u8 (Int.tmod (i64 (Int.tmod seconds_0 100)) 10))))))]) fun s_18 =>
   bif (decide (((((([43] : List UInt8) ++ s_16) ++ s_17)).length + (s_18).length) ≤ 9223372036854775807)) then (Option.bind (bif (decide ((i64 (Int.tmod hours_0 100)) < 24)) then (bif (!decide ((i64 (Int.tmod hours_0 100)) = 0)) then (some true) else
     (some (!minus_0))) else
    (some false)) fun b_38 =>
   Option.bind (F_numeric_Parse [(.s (([43] : List UInt8) ++ s_13))]) fun r_22 =>
   onI r_22 fun i_14 ds_34 =>
   onI ds_34 fun i_15 ds_35 =>
   Option.bind (bif (decide (i_15 = 0)) then (bif (!(true == b_38)) then (some true) else
     (bif (!decide (i_15 = 0)) then (bif (!decide (i_14 = 0)) then (some true) else
       (bif (!decide (i_15 = 5)) then (some true) else
        (some false))) else
      (some false))) else
    (bif (!(false == b_38)) then (some true) else
     (bif (!decide (i_15 = 0)) then (bif (!decide (i_14 = 0)) then (some true) else
       (bif (!decide (i_15 = 5)) then (some true) else
        (some false))) else
      (some false)))) fun b_39 =>
   bif b_39 then (some [(.b false)]) else
   (bif (decide (i_15 = 0)) then (Option.bind (F_numeric_Text [(.i i_14)]) fun r_23 =>
     onS r_23 fun s_19 ds_36 =>
     bif (!(s_19 == (([43] : List UInt8) ++ s_13))) then (some [(.b false)]) else
     (Option.bind (some false) fun b_40 =>
      bif b_40 then (some [(.b false)]) else
      (Option.bind (bif (decide ((i64 (Int.tmod hours_0 100)) < 24)) then (bif (decide ((i64 (Int.tmod minutes_0 100)) < 60)) then (bif (!decide ((i64 (Int.tmod minutes_0 100)) = 0)) then (some true) else
          (some false)) else
         (some false)) else
        (some false)) fun b_41 =>
       Option.bind (F_numeric_Parse [(.s ((([43] : List UInt8) ++ s_14) ++ s_15))]) fun r_24 =>
       onI r_24 fun i_16 ds_37 =>
       onI ds_37 fun i_17 ds_38 =>
       Option.bind (bif (decide (i_17 = 0)) then (bif (!(true == b_41)) then (some true) else
         (bif (!decide (i_17 = 0)) then (bif (!decide (i_16 = 0)) then (some true) else
           (bif (!decide (i_17 = 5)) then (some true) else
            (some false))) else
          (some false))) else
        (bif (!(false == b_41)) then (some true) else
         (bif (!decide (i_17 = 0)) then (bif (!decide (i_16 = 0)) then (some true) else
           (bif (!decide (i_17 = 5)) then (some true) else
            (some false))) else
          (some false)))) fun b_42 =>
       bif b_42 then (some [(.b false)]) else
       (bif (decide (i_17 = 0)) then (Option.bind (F_numeric_Text [(.i i_16)]) fun r_25 =>
         onS r_25 fun s_20 ds_39 =>
         bif (!(s_20 == ((([43] : List UInt8) ++ s_14) ++ s_15))) then (some [(.b false)]) else
         (Option.bind (some false) fun b_43 =>
          bif b_43 then (some [(.b false)]) else
          (Option.bind (bif b_37 then (bif (!decide ((i64 (Int.tmod seconds_0 100)) = 0)) then (some true) else
             (some false)) else
            (some false)) fun b_44 =>
           Option.bind (F_numeric_Parse [(.s (((([43] : List UInt8) ++ s_16) ++ s_17) ++ s_18))]) fun r_26 =>
           onI r_26 fun i_18 ds_40 =>
           onI ds_40 fun i_19 ds_41 =>
           Option.bind (bif (decide (i_19 = 0)) then (bif (!(true == b_44)) then (some true) else
             (bif (!decide (i_19 = 0)) then (bif (!decide (i_18 = 0)) then (some true) else
               (bif (!decide (i_19 = 5)) then (some true) else
                (some false))) else
              (some false))) else
            (bif (!(false == b_44)) then (some true) else
             (bif (!decide (i_19 = 0)) then (bif (!decide (i_18 = 0)) then (some true) else
               (bif (!decide (i_19 = 5)) then (some true) else
                (some false))) else
              (some false)))) fun b_45 =>
           bif b_45 then (some [(.b false)]) else
           (bif (decide (i_19 = 0)) then (Option.bind (F_numeric_Text [(.i i_18)]) fun r_27 =>
             onS r_27 fun s_21 ds_42 =>
             bif (!(s_21 == (((([43] : List UInt8) ++ s_16) ++ s_17) ++ s_18))) then (some [(.b false)]) else
             (Option.bind (bif (decide (i_19 = 0)) then (bif (!decide (i_18 = (i64 ((i64 ((i64 (3600 * (i64 (Int.tmod hours_0 100)))) + (i64 (60 * (i64 (Int.tmod minutes_0 100)))))) + (i64 (Int.tmod seconds_0 100)))))) then (some true) else
                (some false)) else
               (some false)) fun b_46 =>
              bif b_46 then (some [(.b false)]) else
              (Option.bind (F_law20_works []) fun r_28 =>
               onB r_28 fun b_47 ds_43 =>
               some [(.b b_47)]))) else
            (Option.bind (bif (decide (i_19 = 0)) then (bif (!decide (i_18 = (i64 ((i64 ((i64 (3600 * (i64 (Int.tmod hours_0 100)))) + (i64 (60 * (i64 (Int.tmod minutes_0 100)))))) + (i64 (Int.tmod seconds_0 100)))))) then (some true) else
               (some false)) else
              (some false)) fun b_48 =>
             bif b_48 then (some [(.b false)]) else
             (Option.bind (F_law20_works []) fun r_29 =>
              onB r_29 fun b_49 ds_44 =>
              some [(.b b_49)])))))) else
        (Option.bind (some false) fun b_50 =>
         bif b_50 then (some [(.b false)]) else
         (Option.bind (bif b_37 then (bif (!decide ((i64 (Int.tmod seconds_0 100)) = 0)) then (some true) else
            (some false)) else
           (some false)) fun b_51 =>
          Option.bind (F_numeric_Parse [(.s (((([43] : List UInt8) ++ s_16) ++ s_17) ++ s_18))]) fun r_30 =>
          onI r_30 fun i_20 ds_45 =>
          onI ds_45 fun i_21 ds_46 =>
          Option.bind (bif (decide (i_21 = 0)) then (bif (!(true == b_51)) then (some true) else
            (bif (!decide (i_21 = 0)) then (bif (!decide (i_20 = 0)) then (some true) else
              (bif (!decide (i_21 = 5)) then (some true) else
               (some false))) else
             (some false))) else
           (bif (!(false == b_51)) then (some true) else
            (bif (!decide (i_21 = 0)) then (bif (!decide (i_20 = 0)) then (some true) else
              (bif (!decide (i_21 = 5)) then (some true) else
               (some false))) else
             (some false)))) fun b_52 =>
          bif b_52 then (some [(.b false)]) else
          (bif (decide (i_21 = 0)) then (Option.bind (F_numeric_Text [(.i i_20)]) fun r_31 =>
            onS r_31 fun s_22 ds_47 =>
            bif (!(s_22 == (((([43] : List UInt8) ++ s_16) ++ s_17) ++ s_18))) then (some [(.b false)]) else
            (Option.bind (bif (decide (i_21 = 0)) then (bif (!decide (i_20 = (i64 ((i64 ((i64 (3600 * (i64 (Int.tmod hours_0 100)))) + (i64 (60 * (i64 (Int.tmod minutes_0 100)))))) + (i64 (Int.tmod seconds_0 100)))))) then (some true) else
               (some false)) else
              (some false)) fun b_53 =>
             bif b_53 then (some [(.b false)]) else
             (Option.bind (F_law20_works []) fun r_32 =>
              onB r_32 fun b_54 ds_48 =>
              some [(.b b_54)]))) else
           (Option.bind (bif (decide (i_21 = 0)) then (bif (!decide (i_20 = (i64 ((i64 ((i64 (3600 * (i64 (Int.tmod hours_0 100)))) + (i64 (60 * (i64 (Int.tmod minutes_0 100)))))) + (i64 (Int.tmod seconds_0 100)))))) then (some true) else
              (some false)) else
             (some false)) fun b_55 =>
            bif b_55 then (some [(.b false)]) else
            (Option.bind (F_law20_works []) fun r_33 =>
             onB r_33 fun b_56 ds_49 =>
             some [(.b b_56)]))))))))) else
    (Option.bind (some false) fun b_57 =>
     bif b_57 then (some [(.b false)]) else
     (Option.bind (bif (decide ((i64 (Int.tmod hours_0 100)) < 24)) then (bif (decide ((i64 (Int.tmod minutes_0 100)) < 60)) then (bif (!decide ((i64 (Int.tmod minutes_0 100)) = 0)) then (some true) else
         (some false)) else
        (some false)) else
       (some false)) fun b_58 =>
      Option.bind (F_numeric_Parse [(.s ((([43] : List UInt8) ++ s_14) ++ s_15))]) fun r_34 =>
      onI r_34 fun i_22 ds_50 =>
      onI ds_50 fun i_23 ds_51 =>
      Option.bind (bif (decide (i_23 = 0)) then (bif (!(true == b_58)) then (some true) else
        (bif (!decide (i_23 = 0)) then (bif (!decide (i_22 = 0)) then (some true) else
          (bif (!decide (i_23 = 5)) then (some true) else
           (some false))) else
         (some false))) else
       (bif (!(false == b_58)) then (some true) else
        (bif (!decide (i_23 = 0)) then (bif (!decide (i_22 = 0)) then (some true) else
          (bif (!decide (i_23 = 5)) then (some true) else
           (some false))) else
         (some false)))) fun b_59 =>
      bif b_59 then (some [(.b false)]) else
      (bif (decide (i_23 = 0)) then (Option.bind (F_numeric_Text [(.i i_22)]) fun r_35 =>
        onS r_35 fun s_23 ds_52 =>
        bif (!(s_23 == ((([43] : List UInt8) ++ s_14) ++ s_15))) then (some [(.b false)]) else
        (Option.bind (some false) fun b_60 =>
         bif b_60 then (some [(.b false)]) else
         (Option.bind (bif b_37 then (bif (!decide ((i64 (Int.tmod seconds_0 100)) = 0)) then (some true) else
            (some false)) else
           (some false)) fun b_61 =>
          Option.bind (F_numeric_Parse [(.s (((([43] : List UInt8) ++ s_16) ++ s_17) ++ s_18))]) fun r_36 =>
          onI r_36 fun i_24 ds_53 =>
          onI ds_53 fun i_25 ds_54 =>
          Option.bind (bif (decide (i_25 = 0)) then (bif (!(true == b_61)) then (some true) else
            (bif (!decide (i_25 = 0)) then (bif (!decide (i_24 = 0)) then (some true) else
              (bif (!decide (i_25 = 5)) then (some true) else
               (some false))) else
             (some false))) else
           (bif (!(false == b_61)) then (some true) else
            (bif (!decide (i_25 = 0)) then (bif (!decide (i_24 = 0)) then (some true) else
              (bif (!decide (i_25 = 5)) then (some true) else
               (some false))) else
             (some false)))) fun b_62 =>
          bif b_62 then (some [(.b false)]) else
          (bif (decide (i_25 = 0)) then (Option.bind (F_numeric_Text [(.i i_24)]) fun r_37 =>
            onS r_37 fun s_24 ds_55 =>
            bif (!(s_24 == (((([43] : List UInt8) ++ s_16) ++ s_17) ++ s_18))) then (some [(.b false)]) else
            (Option.bind (bif (decide (i_25 = 0)) then (bif (!decide (i_24 = (i64 ((i64 ((i64 (3600 * (i64 (Int.tmod hours_0 100)))) + (i64 (60 * (i64 (Int.tmod minutes_0 100)))))) + (i64 (Int.tmod seconds_0 100)))))) then (some true) else
               (some false)) else
              (some false)) fun b_63 =>
             bif b_63 then (some [(.b false)]) else
             (Option.bind (F_law20_works []) fun r_38 =>
              onB r_38 fun b_64 ds_56 =>
              some [(.b b_64)]))) else
           (Option.bind (bif (decide (i_25 = 0)) then (bif (!decide (i_24 = (i64 ((i64 ((i64 (3600 * (i64 (Int.tmod hours_0 100)))) + (i64 (60 * (i64 (Int.tmod minutes_0 100)))))) + (i64 (Int.tmod seconds_0 100)))))) then (some true) else
              (some false)) else
             (some false)) fun b_65 =>
            bif b_65 then (some [(.b false)]) else
            (Option.bind (F_law20_works []) fun r_39 =>
             onB r_39 fun b_66 ds_57 =>
             some [(.b b_66)])))))) else
       (Option.bind (some false) fun b_67 =>
        bif b_67 then (some [(.b false)]) else
        (Option.bind (bif b_37 then (bif (!decide ((i64 (Int.tmod seconds_0 100)) = 0)) then (some true) else
           (some false)) else
          (some false)) fun b_68 =>
         Option.bind (F_numeric_Parse [(.s (((([43] : List UInt8) ++ s_16) ++ s_17) ++ s_18))]) fun r_40 =>
         onI r_40 fun i_26 ds_58 =>
         onI ds_58 fun i_27 ds_59 =>
         Option.bind (bif (decide (i_27 = 0)) then (bif (!(true == b_68)) then (some true) else
           (bif (!decide (i_27 = 0)) then (bif (!decide (i_26 = 0)) then (some true) else
             (bif (!decide (i_27 = 5)) then (some true) else
              (some false))) else
            (some false))) else
          (bif (!(false == b_68)) then (some true) else
           (bif (!decide (i_27 = 0)) then (bif (!decide (i_26 = 0)) then (some true) else
             (bif (!decide (i_27 = 5)) then (some true) else
              (some false))) else
            (some false)))) fun b_69 =>
         bif b_69 then (some [(.b false)]) else
         (bif (decide (i_27 = 0)) then (Option.bind (F_numeric_Text [(.i i_26)]) fun r_41 =>
           onS r_41 fun s_25 ds_60 =>
           bif (!(s_25 == (((([43] : List UInt8) ++ s_16) ++ s_17) ++ s_18))) then (some [(.b false)]) else
           (Option.bind (bif (decide (i_27 = 0)) then (bif (!decide (i_26 = (i64 ((i64 ((i64 (3600 * (i64 (Int.tmod hours_0 100)))) + (i64 (60 * (i64 (Int.tmod minutes_0 100)))))) + (i64 (Int.tmod seconds_0 100)))))) then (some true) else
              (some false)) else
             (some false)) fun b_70 =>
            bif b_70 then (some [(.b false)]) else
            (Option.bind (F_law20_works []) fun r_42 =>
             onB r_42 fun b_71 ds_61 =>
             some [(.b b_71)]))) else
          (Option.bind (bif (decide (i_27 = 0)) then (bif (!decide (i_26 = (i64 ((i64 ((i64 (3600 * (i64 (Int.tmod hours_0 100)))) + (i64 (60 * (i64 (Int.tmod minutes_0 100)))))) + (i64 (Int.tmod seconds_0 100)))))) then (some true) else
             (some false)) else
            (some false)) fun b_72 =>
           bif b_72 then (some [(.b false)]) else
           (Option.bind (F_law20_works []) fun r_43 =>
            onB r_43 fun b_73 ds_62 =>
            some [(.b b_73)])))))))))) else none) else none) else none) else none) else none) else none)
noncomputable def F_law20_NumericEras_L1 : List Dat → Option (List Dat ⊕ List Dat) := fun ds_34 =>
  onN ds_34 fun rulesn_1 ds_35 =>
  onS ds_35 fun want_0 ds_36 =>
  onS ds_36 fun s_3 ds_37 =>
  onI ds_37 fun f_0 ds_38 =>
  onI ds_38 fun i_1 ds_39 =>
  onI ds_39 fun j_0 ds_40 =>
  onI ds_40 fun c_13 ds_41 =>
  onI ds_41 fun c_14 ds_42 =>
  onI ds_42 fun c_15 ds_43 =>
  onS ds_43 fun c_16 ds_44 =>
  onS ds_44 fun c_17 ds_45 =>
  onB ds_45 fun c_18 ds_46 =>
  onI ds_46 fun c_19 ds_47 =>
  onI ds_47 fun c_20 ds_48 =>
  onI ds_48 fun c_21 ds_49 =>
  onI ds_49 fun c_22 ds_50 =>
  onI ds_50 fun c_23 ds_51 =>
  onI ds_51 fun c_24 ds_52 =>
  onI ds_52 fun c_25 ds_53 =>
  onL ds_53 fun cells_1 ds_54 =>
  bif (decide (i_1 < j_0)) then (bif (decide ((0 ≤ j_0) ∧ (j_0 < ((rulesn_1 : Nat) : Int)))) then (Option.bind (asS ((List.drop ((j_0).toNat * 11) cells_1))[0]?) fun s_4 =>
   Option.bind (asI .i64 ((List.drop 1 (List.drop ((j_0).toNat * 11) cells_1)))[0]?) fun x_1 =>
   Option.bind (asI .i64 ((List.drop 1 (List.drop 1 (List.drop ((j_0).toNat * 11) cells_1))))[0]?) fun x_2 =>
   Option.bind (asI .i64 ((List.drop 1 (List.drop 1 (List.drop 1 (List.drop ((j_0).toNat * 11) cells_1)))))[0]?) fun x_3 =>
   Option.bind (asI .i64 ((List.drop 1 (List.drop 1 (List.drop 1 (List.drop 1 (List.drop ((j_0).toNat * 11) cells_1))))))[0]?) fun x_4 =>
   Option.bind (asI .i64 ((List.drop 1 (List.drop 1 (List.drop 1 (List.drop 1 (List.drop 1 (List.drop ((j_0).toNat * 11) cells_1)))))))[0]?) fun x_5 =>
   Option.bind (asI .i64 ((List.drop 1 (List.drop 1 (List.drop 1 (List.drop 1 (List.drop 1 (List.drop 1 (List.drop ((j_0).toNat * 11) cells_1))))))))[0]?) fun x_6 =>
   Option.bind (asI .i64 ((List.drop 1 (List.drop 1 (List.drop 1 (List.drop 1 (List.drop 1 (List.drop 1 (List.drop 1 (List.drop ((j_0).toNat * 11) cells_1)))))))))[0]?) fun x_7 =>
   Option.bind (asI .i64 ((List.drop 1 (List.drop 1 (List.drop 1 (List.drop 1 (List.drop 1 (List.drop 1 (List.drop 1 (List.drop 1 (List.drop ((j_0).toNat * 11) cells_1))))))))))[0]?) fun x_8 =>
   Option.bind (asI .i64 ((List.drop 1 (List.drop 1 (List.drop 1 (List.drop 1 (List.drop 1 (List.drop 1 (List.drop 1 (List.drop 1 (List.drop 1 (List.drop ((j_0).toNat * 11) cells_1)))))))))))[0]?) fun x_9 =>
   Option.bind (asS ((List.drop 1 (List.drop 1 (List.drop 1 (List.drop 1 (List.drop 1 (List.drop 1 (List.drop 1 (List.drop 1 (List.drop 1 (List.drop 1 (List.drop ((j_0).toNat * 11) cells_1))))))))))))[0]?) fun s_5 =>
   bif (decide ((0 ≤ i_1) ∧ (i_1 < ((rulesn_1 : Nat) : Int)))) then (Option.bind (asS ((List.drop ((i_1).toNat * 11) cells_1))[0]?) fun s_6 =>
   Option.bind (asI .i64 ((List.drop 1 (List.drop ((i_1).toNat * 11) cells_1)))[0]?) fun x_10 =>
   Option.bind (asI .i64 ((List.drop 1 (List.drop 1 (List.drop ((i_1).toNat * 11) cells_1))))[0]?) fun x_11 =>
   Option.bind (asI .i64 ((List.drop 1 (List.drop 1 (List.drop 1 (List.drop ((i_1).toNat * 11) cells_1)))))[0]?) fun x_12 =>
   Option.bind (asI .i64 ((List.drop 1 (List.drop 1 (List.drop 1 (List.drop 1 (List.drop ((i_1).toNat * 11) cells_1))))))[0]?) fun x_13 =>
   Option.bind (asI .i64 ((List.drop 1 (List.drop 1 (List.drop 1 (List.drop 1 (List.drop 1 (List.drop ((i_1).toNat * 11) cells_1)))))))[0]?) fun x_14 =>
   Option.bind (asI .i64 ((List.drop 1 (List.drop 1 (List.drop 1 (List.drop 1 (List.drop 1 (List.drop 1 (List.drop ((i_1).toNat * 11) cells_1))))))))[0]?) fun x_15 =>
   Option.bind (asI .i64 ((List.drop 1 (List.drop 1 (List.drop 1 (List.drop 1 (List.drop 1 (List.drop 1 (List.drop 1 (List.drop ((i_1).toNat * 11) cells_1)))))))))[0]?) fun x_16 =>
   Option.bind (asI .i64 ((List.drop 1 (List.drop 1 (List.drop 1 (List.drop 1 (List.drop 1 (List.drop 1 (List.drop 1 (List.drop 1 (List.drop ((i_1).toNat * 11) cells_1))))))))))[0]?) fun x_17 =>
   Option.bind (asI .i64 ((List.drop 1 (List.drop 1 (List.drop 1 (List.drop 1 (List.drop 1 (List.drop 1 (List.drop 1 (List.drop 1 (List.drop 1 (List.drop ((i_1).toNat * 11) cells_1)))))))))))[0]?) fun x_18 =>
   Option.bind (asS ((List.drop 1 (List.drop 1 (List.drop 1 (List.drop 1 (List.drop 1 (List.drop 1 (List.drop 1 (List.drop 1 (List.drop 1 (List.drop 1 (List.drop ((i_1).toNat * 11) cells_1))))))))))))[0]?) fun s_7 =>
   bif (decide ((0 ≤ i_1) ∧ (i_1 < ((rulesn_1 : Nat) : Int)))) then (none) else none) else none) else none) else
  (Option.map .inr none)
noncomputable def F_law20_NumericEras_L2 : List Dat → Option (List Dat ⊕ List Dat) := fun ds_59 =>
  onN ds_59 fun n_0 ds_60 =>
  onS ds_60 fun s_11 ds_61 =>
  onS ds_61 fun s_12 ds_62 =>
  onI ds_62 fun i_3 ds_63 =>
  onI ds_63 fun i_4 ds_64 =>
  onI ds_64 fun i_5 ds_65 =>
  onI ds_65 fun i_6 ds_66 =>
  onI ds_66 fun i_7 ds_67 =>
  onI ds_67 fun i_8 ds_68 =>
  onS ds_68 fun s_13 ds_69 =>
  onS ds_69 fun s_14 ds_70 =>
  onB ds_70 fun b_3 ds_71 =>
  onI ds_71 fun i_9 ds_72 =>
  onI ds_72 fun i_10 ds_73 =>
  onI ds_73 fun i_11 ds_74 =>
  onI ds_74 fun i_12 ds_75 =>
  onI ds_75 fun i_13 ds_76 =>
  onI ds_76 fun i_14 ds_77 =>
  onI ds_77 fun i_15 ds_78 =>
  onL ds_78 fun l_0 ds_79 =>
  bif (decide (i_4 < i_5)) then (bif (decide ((0 ≤ i_5) ∧ (i_5 < ((n_0 : Nat) : Int)))) then (Option.bind (asS ((List.drop ((i_5).toNat * 11) l_0))[0]?) fun s_15 =>
   Option.bind (asI .i64 ((List.drop 1 (List.drop ((i_5).toNat * 11) l_0)))[0]?) fun x_19 =>
   Option.bind (asI .i64 ((List.drop 1 (List.drop 1 (List.drop ((i_5).toNat * 11) l_0))))[0]?) fun x_20 =>
   Option.bind (asI .i64 ((List.drop 1 (List.drop 1 (List.drop 1 (List.drop ((i_5).toNat * 11) l_0)))))[0]?) fun x_21 =>
   Option.bind (asI .i64 ((List.drop 1 (List.drop 1 (List.drop 1 (List.drop 1 (List.drop ((i_5).toNat * 11) l_0))))))[0]?) fun x_22 =>
   Option.bind (asI .i64 ((List.drop 1 (List.drop 1 (List.drop 1 (List.drop 1 (List.drop 1 (List.drop ((i_5).toNat * 11) l_0)))))))[0]?) fun x_23 =>
   Option.bind (asI .i64 ((List.drop 1 (List.drop 1 (List.drop 1 (List.drop 1 (List.drop 1 (List.drop 1 (List.drop ((i_5).toNat * 11) l_0))))))))[0]?) fun x_24 =>
   Option.bind (asI .i64 ((List.drop 1 (List.drop 1 (List.drop 1 (List.drop 1 (List.drop 1 (List.drop 1 (List.drop 1 (List.drop ((i_5).toNat * 11) l_0)))))))))[0]?) fun x_25 =>
   Option.bind (asI .i64 ((List.drop 1 (List.drop 1 (List.drop 1 (List.drop 1 (List.drop 1 (List.drop 1 (List.drop 1 (List.drop 1 (List.drop ((i_5).toNat * 11) l_0))))))))))[0]?) fun x_26 =>
   Option.bind (asI .i64 ((List.drop 1 (List.drop 1 (List.drop 1 (List.drop 1 (List.drop 1 (List.drop 1 (List.drop 1 (List.drop 1 (List.drop 1 (List.drop ((i_5).toNat * 11) l_0)))))))))))[0]?) fun x_27 =>
   Option.bind (asS ((List.drop 1 (List.drop 1 (List.drop 1 (List.drop 1 (List.drop 1 (List.drop 1 (List.drop 1 (List.drop 1 (List.drop 1 (List.drop 1 (List.drop ((i_5).toNat * 11) l_0))))))))))))[0]?) fun s_16 =>
   bif (decide ((0 ≤ i_4) ∧ (i_4 < ((n_0 : Nat) : Int)))) then (Option.bind (asS ((List.drop ((i_4).toNat * 11) l_0))[0]?) fun s_17 =>
   Option.bind (asI .i64 ((List.drop 1 (List.drop ((i_4).toNat * 11) l_0)))[0]?) fun x_28 =>
   Option.bind (asI .i64 ((List.drop 1 (List.drop 1 (List.drop ((i_4).toNat * 11) l_0))))[0]?) fun x_29 =>
   Option.bind (asI .i64 ((List.drop 1 (List.drop 1 (List.drop 1 (List.drop ((i_4).toNat * 11) l_0)))))[0]?) fun x_30 =>
   Option.bind (asI .i64 ((List.drop 1 (List.drop 1 (List.drop 1 (List.drop 1 (List.drop ((i_4).toNat * 11) l_0))))))[0]?) fun x_31 =>
   Option.bind (asI .i64 ((List.drop 1 (List.drop 1 (List.drop 1 (List.drop 1 (List.drop 1 (List.drop ((i_4).toNat * 11) l_0)))))))[0]?) fun x_32 =>
   Option.bind (asI .i64 ((List.drop 1 (List.drop 1 (List.drop 1 (List.drop 1 (List.drop 1 (List.drop 1 (List.drop ((i_4).toNat * 11) l_0))))))))[0]?) fun x_33 =>
   Option.bind (asI .i64 ((List.drop 1 (List.drop 1 (List.drop 1 (List.drop 1 (List.drop 1 (List.drop 1 (List.drop 1 (List.drop ((i_4).toNat * 11) l_0)))))))))[0]?) fun x_34 =>
   Option.bind (asI .i64 ((List.drop 1 (List.drop 1 (List.drop 1 (List.drop 1 (List.drop 1 (List.drop 1 (List.drop 1 (List.drop 1 (List.drop ((i_4).toNat * 11) l_0))))))))))[0]?) fun x_35 =>
   Option.bind (asI .i64 ((List.drop 1 (List.drop 1 (List.drop 1 (List.drop 1 (List.drop 1 (List.drop 1 (List.drop 1 (List.drop 1 (List.drop 1 (List.drop ((i_4).toNat * 11) l_0)))))))))))[0]?) fun x_36 =>
   Option.bind (asS ((List.drop 1 (List.drop 1 (List.drop 1 (List.drop 1 (List.drop 1 (List.drop 1 (List.drop 1 (List.drop 1 (List.drop 1 (List.drop 1 (List.drop ((i_4).toNat * 11) l_0))))))))))))[0]?) fun s_18 =>
   bif (decide ((0 ≤ i_4) ∧ (i_4 < ((n_0 : Nat) : Int)))) then (none) else none) else none) else none) else
  (Option.map .inr none)
noncomputable def F_law20_NumericEras_L3 : List Dat → Option (List Dat ⊕ List Dat) := fun ds_82 =>
  onN ds_82 fun n_1 ds_83 =>
  onS ds_83 fun s_20 ds_84 =>
  onS ds_84 fun s_21 ds_85 =>
  onI ds_85 fun i_17 ds_86 =>
  onI ds_86 fun i_18 ds_87 =>
  onI ds_87 fun i_19 ds_88 =>
  onI ds_88 fun i_20 ds_89 =>
  onI ds_89 fun i_21 ds_90 =>
  onI ds_90 fun i_22 ds_91 =>
  onS ds_91 fun s_22 ds_92 =>
  onS ds_92 fun s_23 ds_93 =>
  onB ds_93 fun b_4 ds_94 =>
  onI ds_94 fun i_23 ds_95 =>
  onI ds_95 fun i_24 ds_96 =>
  onI ds_96 fun i_25 ds_97 =>
  onI ds_97 fun i_26 ds_98 =>
  onI ds_98 fun i_27 ds_99 =>
  onI ds_99 fun i_28 ds_100 =>
  onI ds_100 fun i_29 ds_101 =>
  onL ds_101 fun l_1 ds_102 =>
  bif (decide (i_18 < i_19)) then (bif (decide ((0 ≤ i_19) ∧ (i_19 < ((n_1 : Nat) : Int)))) then (Option.bind (asS ((List.drop ((i_19).toNat * 11) l_1))[0]?) fun s_24 =>
   Option.bind (asI .i64 ((List.drop 1 (List.drop ((i_19).toNat * 11) l_1)))[0]?) fun x_37 =>
   Option.bind (asI .i64 ((List.drop 1 (List.drop 1 (List.drop ((i_19).toNat * 11) l_1))))[0]?) fun x_38 =>
   Option.bind (asI .i64 ((List.drop 1 (List.drop 1 (List.drop 1 (List.drop ((i_19).toNat * 11) l_1)))))[0]?) fun x_39 =>
   Option.bind (asI .i64 ((List.drop 1 (List.drop 1 (List.drop 1 (List.drop 1 (List.drop ((i_19).toNat * 11) l_1))))))[0]?) fun x_40 =>
   Option.bind (asI .i64 ((List.drop 1 (List.drop 1 (List.drop 1 (List.drop 1 (List.drop 1 (List.drop ((i_19).toNat * 11) l_1)))))))[0]?) fun x_41 =>
   Option.bind (asI .i64 ((List.drop 1 (List.drop 1 (List.drop 1 (List.drop 1 (List.drop 1 (List.drop 1 (List.drop ((i_19).toNat * 11) l_1))))))))[0]?) fun x_42 =>
   Option.bind (asI .i64 ((List.drop 1 (List.drop 1 (List.drop 1 (List.drop 1 (List.drop 1 (List.drop 1 (List.drop 1 (List.drop ((i_19).toNat * 11) l_1)))))))))[0]?) fun x_43 =>
   Option.bind (asI .i64 ((List.drop 1 (List.drop 1 (List.drop 1 (List.drop 1 (List.drop 1 (List.drop 1 (List.drop 1 (List.drop 1 (List.drop ((i_19).toNat * 11) l_1))))))))))[0]?) fun x_44 =>
   Option.bind (asI .i64 ((List.drop 1 (List.drop 1 (List.drop 1 (List.drop 1 (List.drop 1 (List.drop 1 (List.drop 1 (List.drop 1 (List.drop 1 (List.drop ((i_19).toNat * 11) l_1)))))))))))[0]?) fun x_45 =>
   Option.bind (asS ((List.drop 1 (List.drop 1 (List.drop 1 (List.drop 1 (List.drop 1 (List.drop 1 (List.drop 1 (List.drop 1 (List.drop 1 (List.drop 1 (List.drop ((i_19).toNat * 11) l_1))))))))))))[0]?) fun s_25 =>
   bif (decide ((0 ≤ i_18) ∧ (i_18 < ((n_1 : Nat) : Int)))) then (Option.bind (asS ((List.drop ((i_18).toNat * 11) l_1))[0]?) fun s_26 =>
   Option.bind (asI .i64 ((List.drop 1 (List.drop ((i_18).toNat * 11) l_1)))[0]?) fun x_46 =>
   Option.bind (asI .i64 ((List.drop 1 (List.drop 1 (List.drop ((i_18).toNat * 11) l_1))))[0]?) fun x_47 =>
   Option.bind (asI .i64 ((List.drop 1 (List.drop 1 (List.drop 1 (List.drop ((i_18).toNat * 11) l_1)))))[0]?) fun x_48 =>
   Option.bind (asI .i64 ((List.drop 1 (List.drop 1 (List.drop 1 (List.drop 1 (List.drop ((i_18).toNat * 11) l_1))))))[0]?) fun x_49 =>
   Option.bind (asI .i64 ((List.drop 1 (List.drop 1 (List.drop 1 (List.drop 1 (List.drop 1 (List.drop ((i_18).toNat * 11) l_1)))))))[0]?) fun x_50 =>
   Option.bind (asI .i64 ((List.drop 1 (List.drop 1 (List.drop 1 (List.drop 1 (List.drop 1 (List.drop 1 (List.drop ((i_18).toNat * 11) l_1))))))))[0]?) fun x_51 =>
   Option.bind (asI .i64 ((List.drop 1 (List.drop 1 (List.drop 1 (List.drop 1 (List.drop 1 (List.drop 1 (List.drop 1 (List.drop ((i_18).toNat * 11) l_1)))))))))[0]?) fun x_52 =>
   Option.bind (asI .i64 ((List.drop 1 (List.drop 1 (List.drop 1 (List.drop 1 (List.drop 1 (List.drop 1 (List.drop 1 (List.drop 1 (List.drop ((i_18).toNat * 11) l_1))))))))))[0]?) fun x_53 =>
   Option.bind (asI .i64 ((List.drop 1 (List.drop 1 (List.drop 1 (List.drop 1 (List.drop 1 (List.drop 1 (List.drop 1 (List.drop 1 (List.drop 1 (List.drop ((i_18).toNat * 11) l_1)))))))))))[0]?) fun x_54 =>
   Option.bind (asS ((List.drop 1 (List.drop 1 (List.drop 1 (List.drop 1 (List.drop 1 (List.drop 1 (List.drop 1 (List.drop 1 (List.drop 1 (List.drop 1 (List.drop ((i_18).toNat * 11) l_1))))))))))))[0]?) fun s_27 =>
   bif (decide ((0 ≤ i_18) ∧ (i_18 < ((n_1 : Nat) : Int)))) then (none) else none) else none) else none) else
  (Option.map .inr none)
noncomputable def F_law20_NumericEras_L0 : List Dat → Option (List Dat ⊕ List Dat) := fun ds_7 =>
  onI ds_7 fun x_0 ds_8 =>
  onI ds_8 fun y_0 ds_9 =>
  onN ds_9 fun rulesn_0 ds_10 =>
  onB ds_10 fun both_0 ds_11 =>
  onN ds_11 fun vn_0 ds_12 =>
  onL ds_12 fun vl_0 ds_13 =>
  onI ds_13 fun v_0 ds_14 =>
  onI ds_14 fun v_1 ds_15 =>
  onI ds_15 fun c_0 ds_16 =>
  onI ds_16 fun c_1 ds_17 =>
  onI ds_17 fun c_2 ds_18 =>
  onS ds_18 fun c_3 ds_19 =>
  onS ds_19 fun c_4 ds_20 =>
  onB ds_20 fun c_5 ds_21 =>
  onI ds_21 fun c_6 ds_22 =>
  onI ds_22 fun c_7 ds_23 =>
  onI ds_23 fun c_8 ds_24 =>
  onI ds_24 fun c_9 ds_25 =>
  onI ds_25 fun c_10 ds_26 =>
  onI ds_26 fun c_11 ds_27 =>
  onI ds_27 fun c_12 ds_28 =>
  onL ds_28 fun cells_0 ds_29 =>
  bif (decide (v_1 < v_0)) then (bif (decide ((0 ≤ v_1) ∧ (v_1 < ((vn_0 : Nat) : Int)))) then (Option.bind (asB (vl_0)[(v_1).toNat]?) fun b_1 =>
   bif b_1 then (bif both_0 then (bif (decide ((cells_0).length = (rulesn_0 * 11))) then (bif (decide (((rulesn_0 + 1) * 104) ≤ 140737488355328)) then (bif (List.all (cells_0 ++ [(Ax.AV.str (Ax.S.lit ([] : List UInt8))), (Ax.AV.int .i64 (Ax.I.lit 0)), (Ax.AV.int .i64 (Ax.I.lit 0)), (Ax.AV.int .i64 (Ax.I.lit 0)), (Ax.AV.int .i64 (Ax.I.lit 0)), (Ax.AV.int .i64 (Ax.I.lit 0)), (Ax.AV.int .i64 (Ax.I.lit 0)), (Ax.AV.int .i64 (Ax.I.lit 0)), (Ax.AV.int .i64 (Ax.I.lit 0)), (Ax.AV.int .i64 (Ax.I.sym y_0)), (Ax.AV.str (Ax.S.lit ([] : List UInt8)))]) (Ax.closedN 20)) then (some (.inl [(.i x_0), (.i y_0), (.n (rulesn_0 + 1)), (.b true), (.n vn_0), (.l vl_0), (.i v_0), (.i (i64 (v_1 + 1))), (.i c_0), (.i c_1), (.i c_2), (.s c_3), (.s c_4), (.b c_5), (.i c_6), (.i c_7), (.i c_8), (.i c_9), (.i c_10), (.i c_11), (.i c_12), (.l (cells_0 ++ [(Ax.AV.str (Ax.S.lit ([] : List UInt8))), (Ax.AV.int .i64 (Ax.I.lit 0)), (Ax.AV.int .i64 (Ax.I.lit 0)), (Ax.AV.int .i64 (Ax.I.lit 0)), (Ax.AV.int .i64 (Ax.I.lit 0)), (Ax.AV.int .i64 (Ax.I.lit 0)), (Ax.AV.int .i64 (Ax.I.lit 0)), (Ax.AV.int .i64 (Ax.I.lit 0)), (Ax.AV.int .i64 (Ax.I.lit 0)), (Ax.AV.int .i64 (Ax.I.sym y_0)), (Ax.AV.str (Ax.S.lit ([] : List UInt8)))]))])) else
     (none)) else none) else none) else
    (bif (!decide (y_0 = 0)) then (bif (decide ((cells_0).length = (rulesn_0 * 11))) then (bif (decide (((rulesn_0 + 1) * 104) ≤ 140737488355328)) then (bif (List.all (cells_0 ++ [(Ax.AV.str (Ax.S.lit ([] : List UInt8))), (Ax.AV.int .i64 (Ax.I.lit 0)), (Ax.AV.int .i64 (Ax.I.lit 0)), (Ax.AV.int .i64 (Ax.I.lit 0)), (Ax.AV.int .i64 (Ax.I.lit 0)), (Ax.AV.int .i64 (Ax.I.lit 0)), (Ax.AV.int .i64 (Ax.I.lit 0)), (Ax.AV.int .i64 (Ax.I.lit 0)), (Ax.AV.int .i64 (Ax.I.lit 0)), (Ax.AV.int .i64 (Ax.I.sym y_0)), (Ax.AV.str (Ax.S.lit ([] : List UInt8)))]) (Ax.closedN 20)) then (some (.inl [(.i x_0), (.i y_0), (.n (rulesn_0 + 1)), (.b true), (.n vn_0), (.l vl_0), (.i v_0), (.i (i64 (v_1 + 1))), (.i c_0), (.i c_1), (.i c_2), (.s c_3), (.s c_4), (.b c_5), (.i c_6), (.i c_7), (.i c_8), (.i c_9), (.i c_10), (.i c_11), (.i c_12), (.l (cells_0 ++ [(Ax.AV.str (Ax.S.lit ([] : List UInt8))), (Ax.AV.int .i64 (Ax.I.lit 0)), (Ax.AV.int .i64 (Ax.I.lit 0)), (Ax.AV.int .i64 (Ax.I.lit 0)), (Ax.AV.int .i64 (Ax.I.lit 0)), (Ax.AV.int .i64 (Ax.I.lit 0)), (Ax.AV.int .i64 (Ax.I.lit 0)), (Ax.AV.int .i64 (Ax.I.lit 0)), (Ax.AV.int .i64 (Ax.I.lit 0)), (Ax.AV.int .i64 (Ax.I.sym y_0)), (Ax.AV.str (Ax.S.lit ([] : List UInt8)))]))])) else
      (none)) else none) else none) else
     (bif (decide ((cells_0).length = (rulesn_0 * 11))) then (bif (decide (((rulesn_0 + 1) * 104) ≤ 140737488355328)) then (bif (List.all (cells_0 ++ [(Ax.AV.str (Ax.S.lit ([] : List UInt8))), (Ax.AV.int .i64 (Ax.I.lit 0)), (Ax.AV.int .i64 (Ax.I.lit 0)), (Ax.AV.int .i64 (Ax.I.lit 0)), (Ax.AV.int .i64 (Ax.I.lit 0)), (Ax.AV.int .i64 (Ax.I.lit 0)), (Ax.AV.int .i64 (Ax.I.lit 0)), (Ax.AV.int .i64 (Ax.I.lit 0)), (Ax.AV.int .i64 (Ax.I.lit 0)), (Ax.AV.int .i64 (Ax.I.sym y_0)), (Ax.AV.str (Ax.S.lit ([] : List UInt8)))]) (Ax.closedN 20)) then (some (.inl [(.i x_0), (.i y_0), (.n (rulesn_0 + 1)), (.b false), (.n vn_0), (.l vl_0), (.i v_0), (.i (i64 (v_1 + 1))), (.i c_0), (.i c_1), (.i c_2), (.s c_3), (.s c_4), (.b c_5), (.i c_6), (.i c_7), (.i c_8), (.i c_9), (.i c_10), (.i c_11), (.i c_12), (.l (cells_0 ++ [(Ax.AV.str (Ax.S.lit ([] : List UInt8))), (Ax.AV.int .i64 (Ax.I.lit 0)), (Ax.AV.int .i64 (Ax.I.lit 0)), (Ax.AV.int .i64 (Ax.I.lit 0)), (Ax.AV.int .i64 (Ax.I.lit 0)), (Ax.AV.int .i64 (Ax.I.lit 0)), (Ax.AV.int .i64 (Ax.I.lit 0)), (Ax.AV.int .i64 (Ax.I.lit 0)), (Ax.AV.int .i64 (Ax.I.lit 0)), (Ax.AV.int .i64 (Ax.I.sym y_0)), (Ax.AV.str (Ax.S.lit ([] : List UInt8)))]))])) else
      (none)) else none) else none))) else
   (bif (decide ((cells_0).length = (rulesn_0 * 11))) then (bif (decide (((rulesn_0 + 1) * 104) ≤ 140737488355328)) then (bif (List.all (cells_0 ++ [(Ax.AV.str (Ax.S.lit ([] : List UInt8))), (Ax.AV.int .i64 (Ax.I.lit 0)), (Ax.AV.int .i64 (Ax.I.lit 0)), (Ax.AV.int .i64 (Ax.I.lit 0)), (Ax.AV.int .i64 (Ax.I.lit 0)), (Ax.AV.int .i64 (Ax.I.lit 0)), (Ax.AV.int .i64 (Ax.I.lit 0)), (Ax.AV.int .i64 (Ax.I.lit 0)), (Ax.AV.int .i64 (Ax.I.lit 0)), (Ax.AV.int .i64 (Ax.I.lit 0)), (Ax.AV.str (Ax.S.lit ([] : List UInt8)))]) (Ax.closedN 20)) then (some (.inl [(.i x_0), (.i y_0), (.n (rulesn_0 + 1)), (.b both_0), (.n vn_0), (.l vl_0), (.i v_0), (.i (i64 (v_1 + 1))), (.i c_0), (.i c_1), (.i c_2), (.s c_3), (.s c_4), (.b c_5), (.i c_6), (.i c_7), (.i c_8), (.i c_9), (.i c_10), (.i c_11), (.i c_12), (.l (cells_0 ++ [(Ax.AV.str (Ax.S.lit ([] : List UInt8))), (Ax.AV.int .i64 (Ax.I.lit 0)), (Ax.AV.int .i64 (Ax.I.lit 0)), (Ax.AV.int .i64 (Ax.I.lit 0)), (Ax.AV.int .i64 (Ax.I.lit 0)), (Ax.AV.int .i64 (Ax.I.lit 0)), (Ax.AV.int .i64 (Ax.I.lit 0)), (Ax.AV.int .i64 (Ax.I.lit 0)), (Ax.AV.int .i64 (Ax.I.lit 0)), (Ax.AV.int .i64 (Ax.I.lit 0)), (Ax.AV.str (Ax.S.lit ([] : List UInt8)))]))])) else
    (none)) else none) else none)) else none) else
  (Option.map .inr (Option.bind (F_numeric_Text [(.i x_0)]) fun r_1 =>
    onS r_1 fun s_0 ds_30 =>
    bif (decide (c_1 = 1)) then (Option.bind (F_numeric_Text [(.i (i64 (x_0 + y_0)))]) fun r_2 =>
     onS r_2 fun s_1 ds_31 =>
     bif (decide ((cells_0).length = (rulesn_0 * 11))) then (bif (List.all cells_0 (Ax.closedN 20)) then (Option.bind (F_numeric_Expansion [(.i c_0), (.i c_1), (.i c_2), (.s c_3), (.s c_4), (.b c_5), (.i c_6), (.i c_7), (.i c_8), (.i c_9), (.i c_10), (.i c_11), (.i c_12), (.n rulesn_0), (.l cells_0)]) fun r_3 =>
       onS r_3 fun s_2 ds_32 =>
       onI ds_32 fun i_0 ds_33 =>
       bif (List.all cells_0 (Ax.closedN 20)) then (iter F_law20_NumericEras_L1 [(.n rulesn_0), (.s s_1), (.s s_2), (.i i_0), (.i 0), (.i (i64 (((rulesn_0 : Nat) : Int) - 1))), (.i c_0), (.i c_1), (.i c_2), (.s c_3), (.s c_4), (.b c_5), (.i c_6), (.i c_7), (.i c_8), (.i c_9), (.i c_10), (.i c_11), (.i c_12), (.l cells_0)]) else
       (none)) else
      (none)) else
     (none)) else
    (Option.bind (bif (decide (c_1 = 2)) then (some both_0) else
      (some false)) fun b_2 =>
     bif b_2 then (Option.bind (F_numeric_Text [(.i x_0)]) fun r_4 =>
      onS r_4 fun s_8 ds_55 =>
      bif (decide (((s_8).length + 1) ≤ 9223372036854775807)) then (Option.bind (F_numeric_Text [(.i (i64 (x_0 + y_0)))]) fun r_5 =>
      onS r_5 fun s_9 ds_56 =>
      bif (decide ((((s_8 ++ ([47] : List UInt8))).length + (s_9).length) ≤ 9223372036854775807)) then (bif (decide ((cells_0).length = (rulesn_0 * 11))) then (bif (List.all cells_0 (Ax.closedN 20)) then (Option.bind (F_numeric_Expansion [(.i c_0), (.i c_1), (.i c_2), (.s c_3), (.s c_4), (.b c_5), (.i c_6), (.i c_7), (.i c_8), (.i c_9), (.i c_10), (.i c_11), (.i c_12), (.n rulesn_0), (.l cells_0)]) fun r_6 =>
        onS r_6 fun s_10 ds_57 =>
        onI ds_57 fun i_2 ds_58 =>
        bif (List.all cells_0 (Ax.closedN 20)) then (iter F_law20_NumericEras_L2 [(.n rulesn_0), (.s ((s_8 ++ ([47] : List UInt8)) ++ s_9)), (.s s_10), (.i i_2), (.i 0), (.i (i64 (((rulesn_0 : Nat) : Int) - 1))), (.i c_0), (.i c_1), (.i c_2), (.s c_3), (.s c_4), (.b c_5), (.i c_6), (.i c_7), (.i c_8), (.i c_9), (.i c_10), (.i c_11), (.i c_12), (.l cells_0)]) else
        (none)) else
       (none)) else
      (none)) else none) else none) else
     (bif (decide ((cells_0).length = (rulesn_0 * 11))) then (bif (List.all cells_0 (Ax.closedN 20)) then (Option.bind (F_numeric_Expansion [(.i c_0), (.i c_1), (.i c_2), (.s c_3), (.s c_4), (.b c_5), (.i c_6), (.i c_7), (.i c_8), (.i c_9), (.i c_10), (.i c_11), (.i c_12), (.n rulesn_0), (.l cells_0)]) fun r_7 =>
        onS r_7 fun s_19 ds_80 =>
        onI ds_80 fun i_16 ds_81 =>
        bif (List.all cells_0 (Ax.closedN 20)) then (iter F_law20_NumericEras_L3 [(.n rulesn_0), (.s s_0), (.s s_19), (.i i_16), (.i 0), (.i (i64 (((rulesn_0 : Nat) : Int) - 1))), (.i c_0), (.i c_1), (.i c_2), (.s c_3), (.s c_4), (.b c_5), (.i c_6), (.i c_7), (.i c_8), (.i c_9), (.i c_10), (.i c_11), (.i c_12), (.l cells_0)]) else
        (none)) else
       (none)) else
      (none)))))
noncomputable def F_law20_NumericEras : List Dat → Option (List Dat) := fun ds_0 =>
  onI ds_0 fun off_0 ds_1 =>
  onI ds_1 fun save_0 ds_2 =>
  onI ds_2 fun kind_0 ds_3 =>
  onN ds_3 fun ln_0 ds_4 =>
  onL ds_4 fun ll_0 ds_5 =>
  bif (decide (12 < ((ln_0 : Nat) : Int))) then (Option.bind (F_law20_works []) fun r_0 =>
   onB r_0 fun b_0 ds_6 =>
   some [(.b b_0)]) else
  (iter F_law20_NumericEras_L0 [(.i (i64 (Int.tmod off_0 54001))), (.i (i64 (Int.tmod save_0 10801))), (.n 0), (.b false), (.n ln_0), (.l ll_0), (.i ((ln_0 : Nat) : Int)), (.i 0), (.i (i64 (Int.tmod off_0 54001))), (.i (i64 (Int.tmod kind_0 3))), (.i (i64 (Int.tmod save_0 10801))), (.s ([] : List UInt8)), (.s ([] : List UInt8)), (.b false), (.i 0), (.i 0), (.i 0), (.i 0), (.i 0), (.i 0), (.i 0), (.l [])])
noncomputable def F_strings_Contains : List Dat → Option (List Dat) := fun ds_0 =>
  onS ds_0 fun s_0 ds_1 =>
  onS ds_1 fun substr_0 ds_2 =>
  Option.bind (Ax.strIndex [(.s s_0), (.s substr_0)]) fun r_0 =>
  onI r_0 fun i_0 ds_3 =>
  bif (decide (0 ≤ i_0)) then (some [(.b true)]) else
  (some [(.b false)])
noncomputable def F_internal_stringslite_Cut : List Dat → Option (List Dat) := fun ds_0 =>
  onS ds_0 fun s_0 ds_1 =>
  onS ds_1 fun sep_0 ds_2 =>
  Option.bind (Ax.strIndex [(.s s_0), (.s sep_0)]) fun r_0 =>
  onI r_0 fun i_0 ds_3 =>
  bif (decide (0 ≤ i_0)) then (bif (decide ((0 ≤ i_0) ∧ (i_0 ≤ (((s_0).length : Nat) : Int)))) then (bif (decide ((0 ≤ (i64 (i_0 + (((sep_0).length : Nat) : Int)))) ∧ ((i64 (i_0 + (((sep_0).length : Nat) : Int))) ≤ (((s_0).length : Nat) : Int)))) then (some [(.s (List.take (i_0).toNat (List.drop 0 s_0))), (.s (List.take ((s_0).length - ((i64 (i_0 + (((sep_0).length : Nat) : Int)))).toNat) (List.drop ((i64 (i_0 + (((sep_0).length : Nat) : Int)))).toNat s_0))), (.b true)]) else none) else none) else
  (some [(.s s_0), (.s ([] : List UInt8)), (.b false)])
noncomputable def F_strings_Cut : List Dat → Option (List Dat) := fun ds_0 =>
  onS ds_0 fun s_0 ds_1 =>
  onS ds_1 fun sep_0 ds_2 =>
  Option.bind (F_internal_stringslite_Cut [(.s s_0), (.s sep_0)]) fun r_0 =>
  onS r_0 fun s_1 ds_3 =>
  onS ds_3 fun s_2 ds_4 =>
  onB ds_4 fun b_0 ds_5 =>
  some [(.s s_1), (.s s_2), (.b b_0)]
noncomputable def F_law20_NumericTurned : List Dat → Option (List Dat) := fun ds_0 =>
  onI ds_0 fun off_0 ds_1 =>
  onI ds_1 fun save_0 ds_2 =>
  bif (decide (3 ≤ ([(Ax.AV.int .i64 (Ax.I.lit 0)), (Ax.AV.int .i64 (Ax.I.sym (i64 (Int.tmod save_0 10801)))), (Ax.AV.int .i64 (Ax.I.lit 0))]).length)) then (Option.bind (F_law20_saves [(.n 3), (.l [(Ax.AV.int .i64 (Ax.I.lit 0)), (Ax.AV.int .i64 (Ax.I.sym (i64 (Int.tmod save_0 10801)))), (Ax.AV.int .i64 (Ax.I.lit 0))])]) fun r_0 =>
   onN r_0 fun n_0 ds_3 =>
   onL ds_3 fun l_0 ds_4 =>
   bif (decide (3 ≤ ([(Ax.AV.int .i64 (Ax.I.lit 0)), (Ax.AV.int .i64 (Ax.I.sym (i64 (Int.tmod save_0 10801)))), (Ax.AV.int .i64 (Ax.I.lit 0))]).length)) then (Option.bind (F_law20_saves [(.n 3), (.l [(Ax.AV.int .i64 (Ax.I.lit 0)), (Ax.AV.int .i64 (Ax.I.sym (i64 (Int.tmod save_0 10801)))), (Ax.AV.int .i64 (Ax.I.lit 0))])]) fun r_1 =>
    onN r_1 fun n_1 ds_5 =>
    onL ds_5 fun l_1 ds_6 =>
    Option.bind (F_numeric_Expansion [(.i (i64 (Int.tmod off_0 54001))), (.i 2), (.i 0), (.s ([] : List UInt8)), (.s ([] : List UInt8)), (.b false), (.i 0), (.i 0), (.i 0), (.i 0), (.i 0), (.i 0), (.i 0), (.n n_1), (.l l_1)]) fun r_2 =>
    onS r_2 fun s_0 ds_7 =>
    onI ds_7 fun i_0 ds_8 =>
    bif (decide (3 ≤ ([(Ax.AV.int .i64 (Ax.I.sym (i64 (0 - (i64 (Int.tmod save_0 10801)))))), (Ax.AV.int .i64 (Ax.I.lit 0)), (Ax.AV.int .i64 (Ax.I.sym (i64 (0 - (i64 (Int.tmod save_0 10801))))))]).length)) then (Option.bind (F_law20_saves [(.n 3), (.l [(Ax.AV.int .i64 (Ax.I.sym (i64 (0 - (i64 (Int.tmod save_0 10801)))))), (Ax.AV.int .i64 (Ax.I.lit 0)), (Ax.AV.int .i64 (Ax.I.sym (i64 (0 - (i64 (Int.tmod save_0 10801))))))])]) fun r_3 =>
     onN r_3 fun n_2 ds_9 =>
     onL ds_9 fun l_2 ds_10 =>
     bif (decide (3 ≤ ([(Ax.AV.int .i64 (Ax.I.sym (i64 (0 - (i64 (Int.tmod save_0 10801)))))), (Ax.AV.int .i64 (Ax.I.lit 0)), (Ax.AV.int .i64 (Ax.I.sym (i64 (0 - (i64 (Int.tmod save_0 10801))))))]).length)) then (Option.bind (F_law20_saves [(.n 3), (.l [(Ax.AV.int .i64 (Ax.I.sym (i64 (0 - (i64 (Int.tmod save_0 10801)))))), (Ax.AV.int .i64 (Ax.I.lit 0)), (Ax.AV.int .i64 (Ax.I.sym (i64 (0 - (i64 (Int.tmod save_0 10801))))))])]) fun r_4 =>
      onN r_4 fun n_3 ds_11 =>
      onL ds_11 fun l_3 ds_12 =>
      Option.bind (F_numeric_Expansion [(.i (i64 ((i64 (Int.tmod off_0 54001)) + (i64 (Int.tmod save_0 10801))))), (.i 2), (.i 0), (.s ([] : List UInt8)), (.s ([] : List UInt8)), (.b false), (.i 0), (.i 0), (.i 0), (.i 0), (.i 0), (.i 0), (.i 0), (.n n_3), (.l l_3)]) fun r_5 =>
      onS r_5 fun s_1 ds_13 =>
      onI ds_13 fun i_1 ds_14 =>
      Option.bind (bif (!decide (i_0 = 0)) then (some true) else
       (bif (!decide (i_1 = 0)) then (some true) else
        (some false))) fun b_0 =>
      bif b_0 then (some [(.b false)]) else
      (bif (decide ((i64 (Int.tmod save_0 10801)) = 0)) then (bif (s_0 == s_1) then (Option.bind (F_strings_Contains [(.s s_0), (.s ([47] : List UInt8))]) fun r_6 =>
         onB r_6 fun b_1 ds_15 =>
         bif (!b_1) then (Option.bind (F_law20_works []) fun r_7 =>
          onB r_7 fun b_2 ds_16 =>
          some [(.b b_2)]) else
         (some [(.b false)])) else
        (some [(.b false)])) else
       (Option.bind (F_strings_Cut [(.s s_0), (.s ([47] : List UInt8))]) fun r_8 =>
        onS r_8 fun s_2 ds_17 =>
        onS ds_17 fun s_3 ds_18 =>
        onB ds_18 fun b_3 ds_19 =>
        Option.bind (F_strings_Cut [(.s s_1), (.s ([47] : List UInt8))]) fun r_9 =>
        onS r_9 fun s_4 ds_20 =>
        onS ds_20 fun s_5 ds_21 =>
        onB ds_21 fun b_4 ds_22 =>
        bif b_3 then (bif b_4 then (bif (s_2 == s_5) then (bif (s_3 == s_4) then (Option.bind (F_law20_works []) fun r_10 =>
            onB r_10 fun b_5 ds_23 =>
            some [(.b b_5)]) else
           (some [(.b false)])) else
          (some [(.b false)])) else
         (some [(.b false)])) else
        (some [(.b false)])))) else
     (none)) else
    (none)) else
   (none)) else
  (none)
noncomputable def F_law20_NumericRefuses : List Dat → Option (List Dat) := fun ds_0 =>
  onI ds_0 fun off_0 ds_1 =>
  onI ds_1 fun a_0 ds_2 =>
  onI ds_2 fun b_0 ds_3 =>
  onI ds_3 fun far_0 ds_4 =>
  bif (decide (2 ≤ ([(Ax.AV.int .i64 (Ax.I.sym (i64 (1 + (i64 a_0))))), (Ax.AV.int .i64 (Ax.I.sym (i64 ((-1) - (i64 b_0)))))]).length)) then (Option.bind (F_law20_saves [(.n 2), (.l [(Ax.AV.int .i64 (Ax.I.sym (i64 (1 + (i64 a_0))))), (Ax.AV.int .i64 (Ax.I.sym (i64 ((-1) - (i64 b_0)))))])]) fun r_0 =>
   onN r_0 fun n_0 ds_5 =>
   onL ds_5 fun l_0 ds_6 =>
   bif (decide (2 ≤ ([(Ax.AV.int .i64 (Ax.I.sym (i64 (1 + (i64 a_0))))), (Ax.AV.int .i64 (Ax.I.sym (i64 ((-1) - (i64 b_0)))))]).length)) then (Option.bind (F_law20_saves [(.n 2), (.l [(Ax.AV.int .i64 (Ax.I.sym (i64 (1 + (i64 a_0))))), (Ax.AV.int .i64 (Ax.I.sym (i64 ((-1) - (i64 b_0)))))])]) fun r_1 =>
    onN r_1 fun n_1 ds_7 =>
    onL ds_7 fun l_1 ds_8 =>
    Option.bind (F_numeric_Expansion [(.i 4611686018427387904), (.i (i64 ((-1) - (i64 far_0)))), (.i 0), (.s ([] : List UInt8)), (.s ([] : List UInt8)), (.b false), (.i 0), (.i 0), (.i 0), (.i 0), (.i 0), (.i 0), (.i 0), (.n n_1), (.l l_1)]) fun r_2 =>
    onS r_2 fun s_0 ds_9 =>
    onI ds_9 fun i_0 ds_10 =>
    Option.bind (bif (!(s_0 == ([] : List UInt8))) then (some true) else
     (bif (!decide (i_0 = 2)) then (some true) else
      (some false))) fun b_1 =>
    bif b_1 then (some [(.b false)]) else
    (bif (decide (2 ≤ ([(Ax.AV.int .i64 (Ax.I.sym (i64 (1 + (i64 a_0))))), (Ax.AV.int .i64 (Ax.I.sym (i64 ((-1) - (i64 b_0)))))]).length)) then (Option.bind (F_law20_saves [(.n 2), (.l [(Ax.AV.int .i64 (Ax.I.sym (i64 (1 + (i64 a_0))))), (Ax.AV.int .i64 (Ax.I.sym (i64 ((-1) - (i64 b_0)))))])]) fun r_3 =>
      onN r_3 fun n_2 ds_11 =>
      onL ds_11 fun l_2 ds_12 =>
      bif (decide (2 ≤ ([(Ax.AV.int .i64 (Ax.I.sym (i64 (1 + (i64 a_0))))), (Ax.AV.int .i64 (Ax.I.sym (i64 ((-1) - (i64 b_0)))))]).length)) then (Option.bind (F_law20_saves [(.n 2), (.l [(Ax.AV.int .i64 (Ax.I.sym (i64 (1 + (i64 a_0))))), (Ax.AV.int .i64 (Ax.I.sym (i64 ((-1) - (i64 b_0)))))])]) fun r_4 =>
       onN r_4 fun n_3 ds_13 =>
       onL ds_13 fun l_3 ds_14 =>
       Option.bind (F_numeric_Expansion [(.i 4611686018427387904), (.i (i64 (3 + (i64 far_0)))), (.i 0), (.s ([] : List UInt8)), (.s ([] : List UInt8)), (.b false), (.i 0), (.i 0), (.i 0), (.i 0), (.i 0), (.i 0), (.i 0), (.n n_3), (.l l_3)]) fun r_5 =>
       onS r_5 fun s_1 ds_15 =>
       onI ds_15 fun i_1 ds_16 =>
       Option.bind (bif (!(s_1 == ([] : List UInt8))) then (some true) else
        (bif (!decide (i_1 = 2)) then (some true) else
         (some false))) fun b_2 =>
       bif b_2 then (some [(.b false)]) else
       (bif (decide (4 ≤ ([(Ax.AV.int .i64 (Ax.I.lit 0)), (Ax.AV.int .i64 (Ax.I.sym (i64 (1 + (i64 a_0))))), (Ax.AV.int .i64 (Ax.I.lit 0)), (Ax.AV.int .i64 (Ax.I.sym (i64 ((-1) - (i64 b_0)))))]).length)) then (Option.bind (F_law20_saves [(.n 4), (.l [(Ax.AV.int .i64 (Ax.I.lit 0)), (Ax.AV.int .i64 (Ax.I.sym (i64 (1 + (i64 a_0))))), (Ax.AV.int .i64 (Ax.I.lit 0)), (Ax.AV.int .i64 (Ax.I.sym (i64 ((-1) - (i64 b_0)))))])]) fun r_6 =>
         onN r_6 fun n_4 ds_17 =>
         onL ds_17 fun l_4 ds_18 =>
         bif (decide (4 ≤ ([(Ax.AV.int .i64 (Ax.I.lit 0)), (Ax.AV.int .i64 (Ax.I.sym (i64 (1 + (i64 a_0))))), (Ax.AV.int .i64 (Ax.I.lit 0)), (Ax.AV.int .i64 (Ax.I.sym (i64 ((-1) - (i64 b_0)))))]).length)) then (Option.bind (F_law20_saves [(.n 4), (.l [(Ax.AV.int .i64 (Ax.I.lit 0)), (Ax.AV.int .i64 (Ax.I.sym (i64 (1 + (i64 a_0))))), (Ax.AV.int .i64 (Ax.I.lit 0)), (Ax.AV.int .i64 (Ax.I.sym (i64 ((-1) - (i64 b_0)))))])]) fun r_7 =>
          onN r_7 fun n_5 ds_19 =>
          onL ds_19 fun l_5 ds_20 =>
          Option.bind (F_numeric_Expansion [(.i (i64 (Int.tmod off_0 54001))), (.i 2), (.i 0), (.s ([] : List UInt8)), (.s ([] : List UInt8)), (.b false), (.i 0), (.i 0), (.i 0), (.i 0), (.i 0), (.i 0), (.i 0), (.n n_5), (.l l_5)]) fun r_8 =>
          onS r_8 fun s_2 ds_21 =>
          onI ds_21 fun i_2 ds_22 =>
          Option.bind (bif (!(s_2 == ([] : List UInt8))) then (some true) else
           (bif (!decide (i_2 = 14)) then (some true) else
            (some false))) fun b_3 =>
          bif b_3 then (some [(.b false)]) else
          (bif (decide (4 ≤ ([(Ax.AV.int .i64 (Ax.I.lit 0)), (Ax.AV.int .i64 (Ax.I.sym (i64 (1 + (i64 a_0))))), (Ax.AV.int .i64 (Ax.I.lit 0)), (Ax.AV.int .i64 (Ax.I.sym (i64 ((-1) - (i64 b_0)))))]).length)) then (Option.bind (F_law20_saves [(.n 4), (.l [(Ax.AV.int .i64 (Ax.I.lit 0)), (Ax.AV.int .i64 (Ax.I.sym (i64 (1 + (i64 a_0))))), (Ax.AV.int .i64 (Ax.I.lit 0)), (Ax.AV.int .i64 (Ax.I.sym (i64 ((-1) - (i64 b_0)))))])]) fun r_9 =>
            onN r_9 fun n_6 ds_23 =>
            onL ds_23 fun l_6 ds_24 =>
            bif (decide (4 ≤ ([(Ax.AV.int .i64 (Ax.I.lit 0)), (Ax.AV.int .i64 (Ax.I.sym (i64 (1 + (i64 a_0))))), (Ax.AV.int .i64 (Ax.I.lit 0)), (Ax.AV.int .i64 (Ax.I.sym (i64 ((-1) - (i64 b_0)))))]).length)) then (Option.bind (F_law20_saves [(.n 4), (.l [(Ax.AV.int .i64 (Ax.I.lit 0)), (Ax.AV.int .i64 (Ax.I.sym (i64 (1 + (i64 a_0))))), (Ax.AV.int .i64 (Ax.I.lit 0)), (Ax.AV.int .i64 (Ax.I.sym (i64 ((-1) - (i64 b_0)))))])]) fun r_10 =>
             onN r_10 fun n_7 ds_25 =>
             onL ds_25 fun l_7 ds_26 =>
             Option.bind (F_numeric_Expansion [(.i 4611686018427387904), (.i 2), (.i 0), (.s ([] : List UInt8)), (.s ([] : List UInt8)), (.b false), (.i 0), (.i 0), (.i 0), (.i 0), (.i 0), (.i 0), (.i 0), (.n n_7), (.l l_7)]) fun r_11 =>
             onS r_11 fun s_3 ds_27 =>
             onI ds_27 fun i_3 ds_28 =>
             Option.bind (bif (!(s_3 == ([] : List UInt8))) then (some true) else
              (bif (!decide (i_3 = 14)) then (some true) else
               (some false))) fun b_4 =>
             bif b_4 then (some [(.b false)]) else
             (bif (decide (4 ≤ ([(Ax.AV.int .i64 (Ax.I.lit 0)), (Ax.AV.int .i64 (Ax.I.sym (i64 (1 + (i64 a_0))))), (Ax.AV.int .i64 (Ax.I.lit 0)), (Ax.AV.int .i64 (Ax.I.sym (i64 ((-1) - (i64 b_0)))))]).length)) then (Option.bind (F_law20_saves [(.n 4), (.l [(Ax.AV.int .i64 (Ax.I.lit 0)), (Ax.AV.int .i64 (Ax.I.sym (i64 (1 + (i64 a_0))))), (Ax.AV.int .i64 (Ax.I.lit 0)), (Ax.AV.int .i64 (Ax.I.sym (i64 ((-1) - (i64 b_0)))))])]) fun r_12 =>
               onN r_12 fun n_8 ds_29 =>
               onL ds_29 fun l_8 ds_30 =>
               bif (decide (4 ≤ ([(Ax.AV.int .i64 (Ax.I.lit 0)), (Ax.AV.int .i64 (Ax.I.sym (i64 (1 + (i64 a_0))))), (Ax.AV.int .i64 (Ax.I.lit 0)), (Ax.AV.int .i64 (Ax.I.sym (i64 ((-1) - (i64 b_0)))))]).length)) then (Option.bind (F_law20_saves [(.n 4), (.l [(Ax.AV.int .i64 (Ax.I.lit 0)), (Ax.AV.int .i64 (Ax.I.sym (i64 (1 + (i64 a_0))))), (Ax.AV.int .i64 (Ax.I.lit 0)), (Ax.AV.int .i64 (Ax.I.sym (i64 ((-1) - (i64 b_0)))))])]) fun r_13 =>
                onN r_13 fun n_9 ds_31 =>
                onL ds_31 fun l_9 ds_32 =>
                Option.bind (F_numeric_Expansion [(.i (-9223372036854775808)), (.i 2), (.i 0), (.s ([] : List UInt8)), (.s ([] : List UInt8)), (.b false), (.i 0), (.i 0), (.i 0), (.i 0), (.i 0), (.i 0), (.i 0), (.n n_9), (.l l_9)]) fun r_14 =>
                onS r_14 fun s_4 ds_33 =>
                onI ds_33 fun i_4 ds_34 =>
                Option.bind (bif (!(s_4 == ([] : List UInt8))) then (some true) else
                 (bif (!decide (i_4 = 14)) then (some true) else
                  (some false))) fun b_5 =>
                bif b_5 then (some [(.b false)]) else
                (Option.bind (F_law20_saves [(.n 2), (.l [(Ax.AV.int .i64 (Ax.I.lit 0)), (Ax.AV.int .i64 (Ax.I.lit 60))])]) fun r_15 =>
                 onN r_15 fun n_10 ds_35 =>
                 onL ds_35 fun l_10 ds_36 =>
                 none)) else
               (none)) else
              (none))) else
            (none)) else
           (none))) else
         (none)) else
        (none))) else
      (none)) else
     (none))) else
   (none)) else
  (none)
end Go.Proofs.Ytnfgmffcnmifkaa
