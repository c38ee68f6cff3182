/-
  The functions of plain data that the laws of this group reach, as the program has them.
-/
import Derived.Test.YtdpjkapaphelhaaDoorAx33
import Derived.Test.YtdpjkapaphelhaaDoorAx36
import Derived.Test.YtdpjkapaphelhaaDoorAx37
import Derived.Test.YtdpjkapaphelhaaDoorAx39
import Derived.Test.YtdpjkapaphelhaaDoorHWordFind
namespace Go.Proofs.YtdpjkapaphelhaaDoor
open Go.Ax
set_option linter.all false
set_option maxRecDepth 100000
noncomputable def F_word_Line : List Dat → Option (List Dat) := fun ds_0 =>
  onS ds_0 fun s_0 ds_1 =>
  Option.bind (wordFind [(.s ([114, 117, 108, 101] : List UInt8)), (.s ([122, 111, 110, 101] : List UInt8)), (.s ([108, 105, 110, 107] : List UInt8)), (.s ([115, 104, 105, 102, 116] : List UInt8)), (.s ([] : List UInt8)), (.s ([] : List UInt8)), (.s ([] : List UInt8)), (.s ([] : List UInt8)), (.s ([] : List UInt8)), (.s ([] : List UInt8)), (.s ([] : List UInt8)), (.s ([] : List UInt8)), (.i 1), (.s s_0)]) fun r_0 =>
  onI r_0 fun i_0 ds_2 =>
  onI ds_2 fun i_1 ds_3 =>
  some [(.i i_0), (.i i_1)]
noncomputable def F_word_Month : List Dat → Option (List Dat) := fun ds_0 =>
  onS ds_0 fun s_0 ds_1 =>
  Option.bind (wordFind [(.s ([106, 97, 110, 117, 97, 114, 121] : List UInt8)), (.s ([102, 101, 98, 114, 117, 97, 114, 121] : List UInt8)), (.s ([109, 97, 114, 99, 104] : List UInt8)), (.s ([97, 112, 114, 105, 108] : List UInt8)), (.s ([109, 97, 121] : List UInt8)), (.s ([106, 117, 110, 101] : List UInt8)), (.s ([106, 117, 108, 121] : List UInt8)), (.s ([97, 117, 103, 117, 115, 116] : List UInt8)), (.s ([115, 101, 112, 116, 101, 109, 98, 101, 114] : List UInt8)), (.s ([111, 99, 116, 111, 98, 101, 114] : List UInt8)), (.s ([110, 111, 118, 101, 109, 98, 101, 114] : List UInt8)), (.s ([100, 101, 99, 101, 109, 98, 101, 114] : List UInt8)), (.i 1), (.s s_0)]) fun r_0 =>
  onI r_0 fun i_0 ds_2 =>
  onI ds_2 fun i_1 ds_3 =>
  some [(.i i_0), (.i i_1)]
noncomputable def F_word_Week : List Dat → Option (List Dat) := fun ds_0 =>
  onS ds_0 fun s_0 ds_1 =>
  Option.bind (wordFind [(.s ([115, 117, 110, 100, 97, 121] : List UInt8)), (.s ([109, 111, 110, 100, 97, 121] : List UInt8)), (.s ([116, 117, 101, 115, 100, 97, 121] : List UInt8)), (.s ([119, 101, 100, 110, 101, 115, 100, 97, 121] : List UInt8)), (.s ([116, 104, 117, 114, 115, 100, 97, 121] : List UInt8)), (.s ([102, 114, 105, 100, 97, 121] : List UInt8)), (.s ([115, 97, 116, 117, 114, 100, 97, 121] : List UInt8)), (.s ([] : List UInt8)), (.s ([] : List UInt8)), (.s ([] : List UInt8)), (.s ([] : List UInt8)), (.s ([] : List UInt8)), (.i 0), (.s s_0)]) fun r_0 =>
  onI r_0 fun i_0 ds_2 =>
  onI ds_2 fun i_1 ds_3 =>
  some [(.i i_0), (.i i_1)]
noncomputable def F_word_To : List Dat → Option (List Dat) := fun ds_0 =>
  onS ds_0 fun s_0 ds_1 =>
  Option.bind (wordFind [(.s ([111, 110, 108, 121] : List UInt8)), (.s ([109, 97, 120, 105, 109, 117, 109] : List UInt8)), (.s ([] : List UInt8)), (.s ([] : List UInt8)), (.s ([] : List UInt8)), (.s ([] : List UInt8)), (.s ([] : List UInt8)), (.s ([] : List UInt8)), (.s ([] : List UInt8)), (.s ([] : List UInt8)), (.s ([] : List UInt8)), (.s ([] : List UInt8)), (.i 1), (.s s_0)]) fun r_0 =>
  onI r_0 fun i_0 ds_2 =>
  onI ds_2 fun i_1 ds_3 =>
  some [(.i i_0), (.i i_1)]
noncomputable def F_word_short : List Dat → Option (List Dat) := fun ds_0 =>
  onS ds_0 fun l_0 ds_1 =>
  onS ds_1 fun l_1 ds_2 =>
  onS ds_2 fun l_2 ds_3 =>
  onS ds_3 fun l_3 ds_4 =>
  onS ds_4 fun l_4 ds_5 =>
  onS ds_5 fun l_5 ds_6 =>
  onS ds_6 fun l_6 ds_7 =>
  onS ds_7 fun l_7 ds_8 =>
  onS ds_8 fun l_8 ds_9 =>
  onS ds_9 fun l_9 ds_10 =>
  onS ds_10 fun l_10 ds_11 =>
  onS ds_11 fun l_11 ds_12 =>
  onI ds_12 fun i_0 ds_13 =>
  Option.bind (bif (decide (i_0 < 0)) then (some true) else
   (bif (decide (12 ≤ i_0)) then (some true) else
    (bif (decide ((0 ≤ i_0) ∧ (i_0 < 12))) then (Option.bind (asS ([(Ax.AV.str (Ax.S.sym l_0)), (Ax.AV.str (Ax.S.sym l_1)), (Ax.AV.str (Ax.S.sym l_2)), (Ax.AV.str (Ax.S.sym l_3)), (Ax.AV.str (Ax.S.sym l_4)), (Ax.AV.str (Ax.S.sym l_5)), (Ax.AV.str (Ax.S.sym l_6)), (Ax.AV.str (Ax.S.sym l_7)), (Ax.AV.str (Ax.S.sym l_8)), (Ax.AV.str (Ax.S.sym l_9)), (Ax.AV.str (Ax.S.sym l_10)), (Ax.AV.str (Ax.S.sym l_11))])[(i_0).toNat]?) fun s_0 =>
     bif (s_0 == ([] : List UInt8)) then (some true) else
     (some false)) else none))) fun b_0 =>
  bif b_0 then (some [(.s ([] : List UInt8))]) else
  (bif (decide ((0 ≤ i_0) ∧ (i_0 < 12))) then (Option.bind (asS ([(Ax.AV.str (Ax.S.sym l_0)), (Ax.AV.str (Ax.S.sym l_1)), (Ax.AV.str (Ax.S.sym l_2)), (Ax.AV.str (Ax.S.sym l_3)), (Ax.AV.str (Ax.S.sym l_4)), (Ax.AV.str (Ax.S.sym l_5)), (Ax.AV.str (Ax.S.sym l_6)), (Ax.AV.str (Ax.S.sym l_7)), (Ax.AV.str (Ax.S.sym l_8)), (Ax.AV.str (Ax.S.sym l_9)), (Ax.AV.str (Ax.S.sym l_10)), (Ax.AV.str (Ax.S.sym l_11))])[(i_0).toNat]?) fun s_1 =>
   bif (decide (((0 : Int) ≤ 0) ∧ (0 < (((s_1).length : Nat) : Int)))) then (bif (decide ((0 ≤ i_0) ∧ (i_0 < 12))) then (Option.bind (asS ([(Ax.AV.str (Ax.S.sym l_0)), (Ax.AV.str (Ax.S.sym l_1)), (Ax.AV.str (Ax.S.sym l_2)), (Ax.AV.str (Ax.S.sym l_3)), (Ax.AV.str (Ax.S.sym l_4)), (Ax.AV.str (Ax.S.sym l_5)), (Ax.AV.str (Ax.S.sym l_6)), (Ax.AV.str (Ax.S.sym l_7)), (Ax.AV.str (Ax.S.sym l_8)), (Ax.AV.str (Ax.S.sym l_9)), (Ax.AV.str (Ax.S.sym l_10)), (Ax.AV.str (Ax.S.sym l_11))])[(i_0).toNat]?) fun s_2 =>
   bif (decide (((0 : Int) ≤ 3) ∧ (3 ≤ (((s_2).length : Nat) : Int)))) then (bif (decide ((((Array.toList (ByteArray.data (Go.Utf8.encode (u8 ((u8 (((((List.getD s_1 0 0)).toNat : Nat) : Int) - 97)) + 65)))))).length + ((List.take 2 (List.drop 1 s_2))).length) ≤ 9223372036854775807)) then (some [(.s ((Array.toList (ByteArray.data (Go.Utf8.encode (u8 ((u8 (((((List.getD s_1 0 0)).toNat : Nat) : Int) - 97)) + 65))))) ++ (List.take 2 (List.drop 1 s_2))))]) else none) else none) else none) else none) else none)
noncomputable def F_word_MonthText : List Dat → Option (List Dat) := fun ds_0 =>
  onI ds_0 fun m_0 ds_1 =>
  Option.bind (F_word_short [(.s ([106, 97, 110, 117, 97, 114, 121] : List UInt8)), (.s ([102, 101, 98, 114, 117, 97, 114, 121] : List UInt8)), (.s ([109, 97, 114, 99, 104] : List UInt8)), (.s ([97, 112, 114, 105, 108] : List UInt8)), (.s ([109, 97, 121] : List UInt8)), (.s ([106, 117, 110, 101] : List UInt8)), (.s ([106, 117, 108, 121] : List UInt8)), (.s ([97, 117, 103, 117, 115, 116] : List UInt8)), (.s ([115, 101, 112, 116, 101, 109, 98, 101, 114] : List UInt8)), (.s ([111, 99, 116, 111, 98, 101, 114] : List UInt8)), (.s ([110, 111, 118, 101, 109, 98, 101, 114] : List UInt8)), (.s ([100, 101, 99, 101, 109, 98, 101, 114] : List UInt8)), (.i (i64 (m_0 - 1)))]) fun r_0 =>
  onS r_0 fun s_0 ds_2 =>
  some [(.s s_0)]
noncomputable def F_word_WeekText : List Dat → Option (List Dat) := fun ds_0 =>
  onI ds_0 fun w_0 ds_1 =>
  Option.bind (F_word_short [(.s ([115, 117, 110, 100, 97, 121] : List UInt8)), (.s ([109, 111, 110, 100, 97, 121] : List UInt8)), (.s ([116, 117, 101, 115, 100, 97, 121] : List UInt8)), (.s ([119, 101, 100, 110, 101, 115, 100, 97, 121] : List UInt8)), (.s ([116, 104, 117, 114, 115, 100, 97, 121] : List UInt8)), (.s ([102, 114, 105, 100, 97, 121] : List UInt8)), (.s ([115, 97, 116, 117, 114, 100, 97, 121] : List UInt8)), (.s ([] : List UInt8)), (.s ([] : List UInt8)), (.s ([] : List UInt8)), (.s ([] : List UInt8)), (.s ([] : List UInt8)), (.i w_0)]) fun r_0 =>
  onS r_0 fun s_0 ds_2 =>
  some [(.s s_0)]
noncomputable def F_law08_works : List Dat → Option (List Dat) := fun _ => some [.b true]
noncomputable def F_ref08_lines : List Dat → Option (List Dat) := fun ds_0 =>
  some [(.n 4), (.l [(Ax.AV.str (Ax.S.lit ([114, 117, 108, 101] : List UInt8))), (Ax.AV.str (Ax.S.lit ([122, 111, 110, 101] : List UInt8))), (Ax.AV.str (Ax.S.lit ([108, 105, 110, 107] : List UInt8))), (Ax.AV.str (Ax.S.lit ([115, 104, 105, 102, 116] : List UInt8)))])]
noncomputable def F_ref08_small_L0 : List Dat → Option (List Dat ⊕ List Dat) := fun ds_2 =>
  onS ds_2 fun s_1 ds_3 =>
  onN ds_3 fun outn_0 ds_4 =>
  onI ds_4 fun i_0 ds_5 =>
  onL ds_5 fun cells_0 ds_6 =>
  bif (decide (i_0 < (((s_1).length : Nat) : Int))) then (bif (decide ((0 ≤ i_0) ∧ (i_0 < (((s_1).length : Nat) : Int)))) then (Option.bind (bif (decide (65 ≤ ((((List.getD s_1 (i_0).toNat 0)).toNat : Nat) : Int))) then (bif (decide (((((List.getD s_1 (i_0).toNat 0)).toNat : Nat) : Int) ≤ 90)) then (some true) else
     (some false)) else
    (some false)) fun b_0 =>
   bif b_0 then (bif (decide ((cells_0).length = outn_0)) then (bif (decide (((outn_0 + 1) * 1) ≤ 140737488355328)) then (bif (List.all (cells_0 ++ [(Ax.AV.int .u8 (Ax.I.sym (u8 ((u8 (((((List.getD s_1 (i_0).toNat 0)).toNat : Nat) : Int) + 97)) - 65))))]) (Ax.closedN 20)) then (some (.inl [(.s s_1), (.n (outn_0 + 1)), (.i (i64 (i_0 + 1))), (.l (cells_0 ++ [(Ax.AV.int .u8 (Ax.I.sym (u8 ((u8 (((((List.getD s_1 (i_0).toNat 0)).toNat : Nat) : Int) + 97)) - 65))))]))])) else
    (none)) else none) else none) else
   (bif (decide ((cells_0).length = outn_0)) then (bif (decide (((outn_0 + 1) * 1) ≤ 140737488355328)) then (bif (List.all (cells_0 ++ [(Ax.AV.int .u8 (Ax.I.sym ((((List.getD s_1 (i_0).toNat 0)).toNat : Nat) : Int)))]) (Ax.closedN 20)) then (some (.inl [(.s s_1), (.n (outn_0 + 1)), (.i (i64 (i_0 + 1))), (.l (cells_0 ++ [(Ax.AV.int .u8 (Ax.I.sym ((((List.getD s_1 (i_0).toNat 0)).toNat : Nat) : Int)))]))])) else
    (none)) else none) else none)) else none) else
  (Option.map .inr (bif (decide ((cells_0).length = outn_0)) then (Option.bind (bytesOf cells_0) fun s_2 =>
    some [(.s s_2)]) else none))
noncomputable def F_ref08_small : List Dat → Option (List Dat) := fun ds_0 =>
  onS ds_0 fun s_0 ds_1 =>
  iter F_ref08_small_L0 [(.s s_0), (.n 0), (.i 0), (.l [])]
noncomputable def F_ref08_find_L0 : List Dat → Option (List Dat ⊕ List Dat) := fun ds_5 =>
  onN ds_5 fun ln_1 ds_6 =>
  onL ds_6 fun ll_1 ds_7 =>
  onS ds_7 fun s_2 ds_8 =>
  onI ds_8 fun found_0 ds_9 =>
  onI ds_9 fun n_0 ds_10 =>
  onI ds_10 fun i_0 ds_11 =>
  bif (decide (i_0 < ((ln_1 : Nat) : Int))) then (bif (decide ((0 ≤ i_0) ∧ (i_0 < ((ln_1 : Nat) : Int)))) then (Option.bind (asS (ll_1)[(i_0).toNat]?) fun s_3 =>
   bif (s_3 == s_2) then (Option.map .inr (some [(.i i_0), (.i 0)])) else
   (Option.bind (bif (!(s_2 == ([] : List UInt8))) then (bif (decide ((0 ≤ i_0) ∧ (i_0 < ((ln_1 : Nat) : Int)))) then (Option.bind (asS (ll_1)[(i_0).toNat]?) fun s_4 =>
      bif (decide ((((s_2).length : Nat) : Int) < (((s_4).length : Nat) : Int))) then (bif (decide ((0 ≤ i_0) ∧ (i_0 < ((ln_1 : Nat) : Int)))) then (Option.bind (asS (ll_1)[(i_0).toNat]?) fun s_5 =>
       bif (decide ((0 ≤ (((s_2).length : Nat) : Int)) ∧ ((((s_2).length : Nat) : Int) ≤ (((s_5).length : Nat) : Int)))) then (bif ((List.take ((((s_2).length : Nat) : Int)).toNat (List.drop 0 s_5)) == s_2) then (some true) else
       (some false)) else none) else none) else
      (some false)) else none) else
     (some false)) fun b_0 =>
    bif b_0 then (some (.inl [(.n ln_1), (.l ll_1), (.s s_2), (.i i_0), (.i (i64 (n_0 + 1))), (.i (i64 (i_0 + 1)))])) else
    (some (.inl [(.n ln_1), (.l ll_1), (.s s_2), (.i found_0), (.i n_0), (.i (i64 (i_0 + 1)))])))) else none) else
  (Option.map .inr (bif (!decide (n_0 = 1)) then (some [(.i 0), (.i 8)]) else
    (some [(.i found_0), (.i 0)])))
noncomputable def F_ref08_find : List Dat → Option (List Dat) := fun ds_0 =>
  onN ds_0 fun ln_0 ds_1 =>
  onL ds_1 fun ll_0 ds_2 =>
  onS ds_2 fun s_0 ds_3 =>
  Option.bind (F_ref08_small [(.s s_0)]) fun r_0 =>
  onS r_0 fun s_1 ds_4 =>
  iter F_ref08_find_L0 [(.n ln_0), (.l ll_0), (.s s_1), (.i (-1)), (.i 0), (.i 0)]
noncomputable def F_ref08_more : List Dat → Option (List Dat) := fun ds_0 =>
  onI ds_0 fun n_0 ds_1 =>
  onI ds_1 fun e_0 ds_2 =>
  bif (!decide (e_0 = 0)) then (some [(.i 0), (.i e_0)]) else
  (some [(.i (i64 (n_0 + 1))), (.i 0)])
noncomputable def F_ref08_Line : List Dat → Option (List Dat) := fun ds_0 =>
  onS ds_0 fun s_0 ds_1 =>
  Option.bind (F_ref08_lines []) fun r_0 =>
  onN r_0 fun n_0 ds_2 =>
  onL ds_2 fun l_0 ds_3 =>
  Option.bind (F_ref08_find [(.n n_0), (.l l_0), (.s s_0)]) fun r_1 =>
  onI r_1 fun i_0 ds_4 =>
  onI ds_4 fun i_1 ds_5 =>
  Option.bind (F_ref08_more [(.i i_0), (.i i_1)]) fun r_2 =>
  onI r_2 fun i_2 ds_6 =>
  onI ds_6 fun i_3 ds_7 =>
  some [(.i i_2), (.i i_3)]
noncomputable def F_ref08_months : List Dat → Option (List Dat) := fun ds_0 =>
  some [(.n 12), (.l [(Ax.AV.str (Ax.S.lit ([106, 97, 110, 117, 97, 114, 121] : List UInt8))), (Ax.AV.str (Ax.S.lit ([102, 101, 98, 114, 117, 97, 114, 121] : List UInt8))), (Ax.AV.str (Ax.S.lit ([109, 97, 114, 99, 104] : List UInt8))), (Ax.AV.str (Ax.S.lit ([97, 112, 114, 105, 108] : List UInt8))), (Ax.AV.str (Ax.S.lit ([109, 97, 121] : List UInt8))), (Ax.AV.str (Ax.S.lit ([106, 117, 110, 101] : List UInt8))), (Ax.AV.str (Ax.S.lit ([106, 117, 108, 121] : List UInt8))), (Ax.AV.str (Ax.S.lit ([97, 117, 103, 117, 115, 116] : List UInt8))), (Ax.AV.str (Ax.S.lit ([115, 101, 112, 116, 101, 109, 98, 101, 114] : List UInt8))), (Ax.AV.str (Ax.S.lit ([111, 99, 116, 111, 98, 101, 114] : List UInt8))), (Ax.AV.str (Ax.S.lit ([110, 111, 118, 101, 109, 98, 101, 114] : List UInt8))), (Ax.AV.str (Ax.S.lit ([100, 101, 99, 101, 109, 98, 101, 114] : List UInt8)))])]
noncomputable def F_ref08_Month : List Dat → Option (List Dat) := fun ds_0 =>
  onS ds_0 fun s_0 ds_1 =>
  Option.bind (F_ref08_months []) fun r_0 =>
  onN r_0 fun n_0 ds_2 =>
  onL ds_2 fun l_0 ds_3 =>
  Option.bind (F_ref08_find [(.n n_0), (.l l_0), (.s s_0)]) fun r_1 =>
  onI r_1 fun i_0 ds_4 =>
  onI ds_4 fun i_1 ds_5 =>
  Option.bind (F_ref08_more [(.i i_0), (.i i_1)]) fun r_2 =>
  onI r_2 fun i_2 ds_6 =>
  onI ds_6 fun i_3 ds_7 =>
  some [(.i i_2), (.i i_3)]
noncomputable def F_ref08_weeks : List Dat → Option (List Dat) := fun ds_0 =>
  some [(.n 7), (.l [(Ax.AV.str (Ax.S.lit ([115, 117, 110, 100, 97, 121] : List UInt8))), (Ax.AV.str (Ax.S.lit ([109, 111, 110, 100, 97, 121] : List UInt8))), (Ax.AV.str (Ax.S.lit ([116, 117, 101, 115, 100, 97, 121] : List UInt8))), (Ax.AV.str (Ax.S.lit ([119, 101, 100, 110, 101, 115, 100, 97, 121] : List UInt8))), (Ax.AV.str (Ax.S.lit ([116, 104, 117, 114, 115, 100, 97, 121] : List UInt8))), (Ax.AV.str (Ax.S.lit ([102, 114, 105, 100, 97, 121] : List UInt8))), (Ax.AV.str (Ax.S.lit ([115, 97, 116, 117, 114, 100, 97, 121] : List UInt8)))])]
noncomputable def F_ref08_Week : List Dat → Option (List Dat) := fun ds_0 =>
  onS ds_0 fun s_0 ds_1 =>
  Option.bind (F_ref08_weeks []) fun r_0 =>
  onN r_0 fun n_0 ds_2 =>
  onL ds_2 fun l_0 ds_3 =>
  Option.bind (F_ref08_find [(.n n_0), (.l l_0), (.s s_0)]) fun r_1 =>
  onI r_1 fun i_0 ds_4 =>
  onI ds_4 fun i_1 ds_5 =>
  some [(.i i_0), (.i i_1)]
noncomputable def F_ref08_years : List Dat → Option (List Dat) := fun ds_0 =>
  some [(.n 2), (.l [(Ax.AV.str (Ax.S.lit ([111, 110, 108, 121] : List UInt8))), (Ax.AV.str (Ax.S.lit ([109, 97, 120, 105, 109, 117, 109] : List UInt8)))])]
noncomputable def F_ref08_To : List Dat → Option (List Dat) := fun ds_0 =>
  onS ds_0 fun s_0 ds_1 =>
  Option.bind (F_ref08_years []) fun r_0 =>
  onN r_0 fun n_0 ds_2 =>
  onL ds_2 fun l_0 ds_3 =>
  Option.bind (F_ref08_find [(.n n_0), (.l l_0), (.s s_0)]) fun r_1 =>
  onI r_1 fun i_0 ds_4 =>
  onI ds_4 fun i_1 ds_5 =>
  Option.bind (F_ref08_more [(.i i_0), (.i i_1)]) fun r_2 =>
  onI r_2 fun i_2 ds_6 =>
  onI ds_6 fun i_3 ds_7 =>
  some [(.i i_2), (.i i_3)]
noncomputable def F_law08_WordFinds : List Dat → Option (List Dat) := fun ds_0 =>
  onS ds_0 fun s_0 ds_1 =>
  bif (decide (1000 < (((s_0).length : Nat) : Int))) then (Option.bind (F_law08_works []) fun r_0 =>
   onB r_0 fun b_0 ds_2 =>
   some [(.b b_0)]) else
  (Option.bind (F_word_Line [(.s s_0)]) fun r_1 =>
   onI r_1 fun i_0 ds_3 =>
   onI ds_3 fun i_1 ds_4 =>
   Option.bind (F_ref08_Line [(.s s_0)]) fun r_2 =>
   onI r_2 fun i_2 ds_5 =>
   onI ds_5 fun i_3 ds_6 =>
   Option.bind (F_word_Month [(.s s_0)]) fun r_3 =>
   onI r_3 fun i_4 ds_7 =>
   onI ds_7 fun i_5 ds_8 =>
   Option.bind (F_ref08_Month [(.s s_0)]) fun r_4 =>
   onI r_4 fun i_6 ds_9 =>
   onI ds_9 fun i_7 ds_10 =>
   Option.bind (bif (!decide (i_0 = i_2)) then (some true) else
    (bif (!decide (i_1 = i_3)) then (some true) else
     (bif (!decide (i_4 = i_6)) then (some true) else
      (bif (!decide (i_5 = i_7)) then (some true) else
       (some false))))) fun b_1 =>
   bif b_1 then (some [(.b false)]) else
   (Option.bind (F_word_Week [(.s s_0)]) fun r_5 =>
    onI r_5 fun i_8 ds_11 =>
    onI ds_11 fun i_9 ds_12 =>
    Option.bind (F_ref08_Week [(.s s_0)]) fun r_6 =>
    onI r_6 fun i_10 ds_13 =>
    onI ds_13 fun i_11 ds_14 =>
    Option.bind (F_word_To [(.s s_0)]) fun r_7 =>
    onI r_7 fun i_12 ds_15 =>
    onI ds_15 fun i_13 ds_16 =>
    Option.bind (F_ref08_To [(.s s_0)]) fun r_8 =>
    onI r_8 fun i_14 ds_17 =>
    onI ds_17 fun i_15 ds_18 =>
    bif (decide (i_8 = i_10)) then (bif (decide (i_9 = i_11)) then (bif (decide (i_12 = i_14)) then (bif (decide (i_13 = i_15)) then (Option.bind (F_law08_works []) fun r_9 =>
        onB r_9 fun b_2 ds_19 =>
        some [(.b b_2)]) else
       (some [(.b false)])) else
      (some [(.b false)])) else
     (some [(.b false)])) else
    (some [(.b false)])))
noncomputable def F_ref08_short : List Dat → Option (List Dat) := fun ds_0 =>
  onS ds_0 fun s_0 ds_1 =>
  bif (decide (((0 : Int) ≤ 0) ∧ (0 < (((s_0).length : Nat) : Int)))) then (Option.bind (bytesOf [(Ax.AV.int .u8 (Ax.I.sym (u8 ((u8 (((((List.getD s_0 0 0)).toNat : Nat) : Int) - 97)) + 65))))]) fun s_1 =>
  bif (decide (((0 : Int) ≤ 3) ∧ (3 ≤ (((s_0).length : Nat) : Int)))) then (bif (decide (((s_1).length + ((List.take 2 (List.drop 1 s_0))).length) ≤ 9223372036854775807)) then (some [(.s (s_1 ++ (List.take 2 (List.drop 1 s_0))))]) else none) else none) else none
noncomputable def F_ref08_MonthText : List Dat → Option (List Dat) := fun ds_0 =>
  onI ds_0 fun m_0 ds_1 =>
  Option.bind (bif (decide (m_0 < 1)) then (some true) else
   (bif (decide (12 < m_0)) then (some true) else
    (some false))) fun b_0 =>
  bif b_0 then (some [(.s ([] : List UInt8))]) else
  (Option.bind (F_ref08_months []) fun r_0 =>
   onN r_0 fun n_0 ds_2 =>
   onL ds_2 fun l_0 ds_3 =>
   bif (decide ((0 ≤ (i64 (m_0 - 1))) ∧ ((i64 (m_0 - 1)) < ((n_0 : Nat) : Int)))) then (Option.bind (asS (l_0)[((i64 (m_0 - 1))).toNat]?) fun s_0 =>
   Option.bind (F_ref08_short [(.s s_0)]) fun r_1 =>
   onS r_1 fun s_1 ds_4 =>
   some [(.s s_1)]) else none)
noncomputable def F_ref08_WeekText : List Dat → Option (List Dat) := fun ds_0 =>
  onI ds_0 fun w_0 ds_1 =>
  Option.bind (bif (decide (w_0 < 0)) then (some true) else
   (bif (decide (6 < w_0)) then (some true) else
    (some false))) fun b_0 =>
  bif b_0 then (some [(.s ([] : List UInt8))]) else
  (Option.bind (F_ref08_weeks []) fun r_0 =>
   onN r_0 fun n_0 ds_2 =>
   onL ds_2 fun l_0 ds_3 =>
   bif (decide ((0 ≤ w_0) ∧ (w_0 < ((n_0 : Nat) : Int)))) then (Option.bind (asS (l_0)[(w_0).toNat]?) fun s_0 =>
   Option.bind (F_ref08_short [(.s s_0)]) fun r_1 =>
   onS r_1 fun s_1 ds_4 =>
   some [(.s s_1)]) else none)
noncomputable def F_law08_WordTexts : List Dat → Option (List Dat) := fun ds_0 =>
  onI ds_0 fun n_0 ds_1 =>
  Option.bind (F_word_MonthText [(.i n_0)]) fun r_0 =>
  onS r_0 fun s_0 ds_2 =>
  Option.bind (F_ref08_MonthText [(.i n_0)]) fun r_1 =>
  onS r_1 fun s_1 ds_3 =>
  bif (s_0 == s_1) then (Option.bind (F_word_WeekText [(.i n_0)]) fun r_2 =>
   onS r_2 fun s_2 ds_4 =>
   Option.bind (F_ref08_WeekText [(.i n_0)]) fun r_3 =>
   onS r_3 fun s_3 ds_5 =>
   bif (s_2 == s_3) then (Option.bind (F_law08_works []) fun r_4 =>
    onB r_4 fun b_0 ds_6 =>
    some [(.b b_0)]) else
   (some [(.b false)])) else
  (some [(.b false)])
noncomputable def F_law08_cased_L0 : List Dat → Option (List Dat ⊕ List Dat) := fun ds_3 =>
  onI ds_3 fun bits_1 ds_4 =>
  onN ds_4 fun bn_0 ds_5 =>
  onI ds_5 fun v_0 ds_6 =>
  onI ds_6 fun v_1 ds_7 =>
  onL ds_7 fun cells_0 ds_8 =>
  bif (decide (v_1 < v_0)) then (Option.bind (bif (decide (0 ≤ (Int.tmod v_1 16))) then (bif (decide ((arith .and .u16 (arith .shr .u16 bits_1 (Int.tmod v_1 16)) 1) = 1)) then (bif (decide ((0 ≤ v_1) ∧ (v_1 < ((bn_0 : Nat) : Int)))) then (Option.bind (asI .u8 (cells_0)[(v_1).toNat]?) fun x_0 =>
     bif (decide (97 ≤ x_0)) then (bif (decide ((0 ≤ v_1) ∧ (v_1 < ((bn_0 : Nat) : Int)))) then (Option.bind (asI .u8 (cells_0)[(v_1).toNat]?) fun x_1 =>
      bif (decide (x_1 ≤ 122)) then (some true) else
      (some false)) else none) else
     (some false)) else none) else
    (some false)) else none) fun b_0 =>
   bif b_0 then (bif (decide ((0 ≤ v_1) ∧ (v_1 < ((bn_0 : Nat) : Int)))) then (Option.bind (asI .u8 (cells_0)[(v_1).toNat]?) fun x_2 =>
    bif (decide ((0 ≤ v_1) ∧ (v_1 < ((bn_0 : Nat) : Int)))) then (bif (decide (((v_1).toNat + 1) ≤ (cells_0).length)) then (bif (decide (([(Ax.AV.int .u8 (Ax.I.sym (u8 (x_2 - 32))))]).length = 1)) then (bif (List.all (Ax.write cells_0 (v_1).toNat [(Ax.AV.int .u8 (Ax.I.sym (u8 (x_2 - 32))))]) (Ax.closedN 20)) then (some (.inl [(.i bits_1), (.n bn_0), (.i v_0), (.i (i64 (v_1 + 1))), (.l (Ax.write cells_0 (v_1).toNat [(Ax.AV.int .u8 (Ax.I.sym (u8 (x_2 - 32))))]))])) else
    (none)) else none) else none) else none) else none) else
   (bif (List.all cells_0 (Ax.closedN 20)) then (some (.inl [(.i bits_1), (.n bn_0), (.i v_0), (.i (i64 (v_1 + 1))), (.l cells_0)])) else
    (none))) else
  (Option.map .inr (bif (decide ((0 + bn_0) ≤ (cells_0).length)) then (Option.bind (bytesOf (List.take bn_0 (List.drop 0 cells_0))) fun s_1 =>
    some [(.s s_1)]) else none))
noncomputable def F_law08_cased : List Dat → Option (List Dat) := fun ds_0 =>
  onS ds_0 fun s_0 ds_1 =>
  onI ds_1 fun bits_0 ds_2 =>
  bif (List.all (Ax.byteCells s_0) (Ax.closedN 20)) then (iter F_law08_cased_L0 [(.i bits_0), (.n (s_0).length), (.i (((s_0).length : Nat) : Int)), (.i 0), (.l (Ax.byteCells s_0))]) else
  (none)
noncomputable def F_law08_WordBack_L0 : List Dat → Option (List Dat ⊕ List Dat) := fun ds_5 =>
  onI ds_5 fun bits_1 ds_6 =>
  onI ds_6 fun i_0 ds_7 =>
  onS ds_7 fun w_0 ds_8 =>
  onI ds_8 fun n_0 ds_9 =>
  onI ds_9 fun others_0 ds_10 =>
  onI ds_10 fun k_0 ds_11 =>
  onI ds_11 fun c_0 ds_12 =>
  onS ds_12 fun c_1 ds_13 =>
  onS ds_13 fun c_2 ds_14 =>
  bif (decide (k_0 < 2)) then (bif (!decide (k_0 = i_0)) then (bif (decide ((0 ≤ k_0) ∧ (k_0 < 2))) then (Option.bind (asS ([(Ax.AV.str (Ax.S.sym c_1)), (Ax.AV.str (Ax.S.sym c_2))])[(k_0).toNat]?) fun s_1 =>
    bif (decide (n_0 ≤ (((s_1).length : Nat) : Int))) then (bif (decide ((0 ≤ k_0) ∧ (k_0 < 2))) then (Option.bind (asS ([(Ax.AV.str (Ax.S.sym c_1)), (Ax.AV.str (Ax.S.sym c_2))])[(k_0).toNat]?) fun s_2 =>
     bif (decide ((0 ≤ n_0) ∧ (n_0 ≤ (((s_2).length : Nat) : Int)))) then (bif (decide ((0 ≤ n_0) ∧ (n_0 ≤ (((w_0).length : Nat) : Int)))) then (bif ((List.take (n_0).toNat (List.drop 0 s_2)) == (List.take (n_0).toNat (List.drop 0 w_0))) then (some (.inl [(.i bits_1), (.i i_0), (.s w_0), (.i n_0), (.i (i64 (others_0 + 1))), (.i (i64 (k_0 + 1))), (.i c_0), (.s c_1), (.s c_2)])) else
     (some (.inl [(.i bits_1), (.i i_0), (.s w_0), (.i n_0), (.i others_0), (.i (i64 (k_0 + 1))), (.i c_0), (.s c_1), (.s c_2)]))) else none) else none) else none) else
    (some (.inl [(.i bits_1), (.i i_0), (.s w_0), (.i n_0), (.i others_0), (.i (i64 (k_0 + 1))), (.i c_0), (.s c_1), (.s c_2)]))) else none) else
   (some (.inl [(.i bits_1), (.i i_0), (.s w_0), (.i n_0), (.i others_0), (.i (i64 (k_0 + 1))), (.i c_0), (.s c_1), (.s c_2)]))) else
  (Option.map .inr (bif (decide ((0 ≤ n_0) ∧ (n_0 ≤ (((w_0).length : Nat) : Int)))) then (Option.bind (F_law08_cased [(.s (List.take (n_0).toNat (List.drop 0 w_0))), (.i bits_1)]) fun r_0 =>
    onS r_0 fun s_3 ds_15 =>
    Option.bind (F_word_To [(.s s_3)]) fun r_1 =>
    onI r_1 fun i_1 ds_16 =>
    onI ds_16 fun i_2 ds_17 =>
    Option.bind (bif (decide (0 < others_0)) then (bif (decide (n_0 < (((w_0).length : Nat) : Int))) then (some true) else
      (some false)) else
     (some false)) fun b_0 =>
    bif b_0 then (bif (decide (i_1 = 0)) then (bif (decide (i_2 = 8)) then (Option.bind (F_law08_works []) fun r_2 =>
       onB r_2 fun b_1 ds_18 =>
       some [(.b b_1)]) else
      (some [(.b false)])) else
     (some [(.b false)])) else
    (Option.bind (F_law08_cased [(.s w_0), (.i bits_1)]) fun r_3 =>
     onS r_3 fun s_4 ds_19 =>
     Option.bind (F_word_To [(.s s_4)]) fun r_4 =>
     onI r_4 fun i_3 ds_20 =>
     onI ds_20 fun i_4 ds_21 =>
     bif (decide (i_1 = (i64 (i_0 + c_0)))) then (bif (decide (i_2 = 0)) then (bif (decide (i_3 = (i64 (i_0 + c_0)))) then (bif (decide (i_4 = 0)) then (Option.bind (F_law08_works []) fun r_5 =>
         onB r_5 fun b_2 ds_22 =>
         some [(.b b_2)]) else
        (some [(.b false)])) else
       (some [(.b false)])) else
      (some [(.b false)])) else
     (some [(.b false)]))) else none))
noncomputable def F_law08_WordBack_L1 : List Dat → Option (List Dat ⊕ List Dat) := fun ds_23 =>
  onI ds_23 fun bits_2 ds_24 =>
  onI ds_24 fun i_5 ds_25 =>
  onS ds_25 fun w_1 ds_26 =>
  onI ds_26 fun n_1 ds_27 =>
  onI ds_27 fun others_1 ds_28 =>
  onI ds_28 fun k_1 ds_29 =>
  onI ds_29 fun c_3 ds_30 =>
  onS ds_30 fun c_4 ds_31 =>
  onS ds_31 fun c_5 ds_32 =>
  onS ds_32 fun c_6 ds_33 =>
  onS ds_33 fun c_7 ds_34 =>
  onS ds_34 fun c_8 ds_35 =>
  onS ds_35 fun c_9 ds_36 =>
  onS ds_36 fun c_10 ds_37 =>
  bif (decide (k_1 < 7)) then (bif (!decide (k_1 = i_5)) then (bif (decide ((0 ≤ k_1) ∧ (k_1 < 7))) then (Option.bind (asS ([(Ax.AV.str (Ax.S.sym c_4)), (Ax.AV.str (Ax.S.sym c_5)), (Ax.AV.str (Ax.S.sym c_6)), (Ax.AV.str (Ax.S.sym c_7)), (Ax.AV.str (Ax.S.sym c_8)), (Ax.AV.str (Ax.S.sym c_9)), (Ax.AV.str (Ax.S.sym c_10))])[(k_1).toNat]?) fun s_6 =>
    bif (decide (n_1 ≤ (((s_6).length : Nat) : Int))) then (bif (decide ((0 ≤ k_1) ∧ (k_1 < 7))) then (Option.bind (asS ([(Ax.AV.str (Ax.S.sym c_4)), (Ax.AV.str (Ax.S.sym c_5)), (Ax.AV.str (Ax.S.sym c_6)), (Ax.AV.str (Ax.S.sym c_7)), (Ax.AV.str (Ax.S.sym c_8)), (Ax.AV.str (Ax.S.sym c_9)), (Ax.AV.str (Ax.S.sym c_10))])[(k_1).toNat]?) fun s_7 =>
     bif (decide ((0 ≤ n_1) ∧ (n_1 ≤ (((s_7).length : Nat) : Int)))) then (bif (decide ((0 ≤ n_1) ∧ (n_1 ≤ (((w_1).length : Nat) : Int)))) then (bif ((List.take (n_1).toNat (List.drop 0 s_7)) == (List.take (n_1).toNat (List.drop 0 w_1))) then (some (.inl [(.i bits_2), (.i i_5), (.s w_1), (.i n_1), (.i (i64 (others_1 + 1))), (.i (i64 (k_1 + 1))), (.i c_3), (.s c_4), (.s c_5), (.s c_6), (.s c_7), (.s c_8), (.s c_9), (.s c_10)])) else
     (some (.inl [(.i bits_2), (.i i_5), (.s w_1), (.i n_1), (.i others_1), (.i (i64 (k_1 + 1))), (.i c_3), (.s c_4), (.s c_5), (.s c_6), (.s c_7), (.s c_8), (.s c_9), (.s c_10)]))) else none) else none) else none) else
    (some (.inl [(.i bits_2), (.i i_5), (.s w_1), (.i n_1), (.i others_1), (.i (i64 (k_1 + 1))), (.i c_3), (.s c_4), (.s c_5), (.s c_6), (.s c_7), (.s c_8), (.s c_9), (.s c_10)]))) else none) else
   (some (.inl [(.i bits_2), (.i i_5), (.s w_1), (.i n_1), (.i others_1), (.i (i64 (k_1 + 1))), (.i c_3), (.s c_4), (.s c_5), (.s c_6), (.s c_7), (.s c_8), (.s c_9), (.s c_10)]))) else
  (Option.map .inr (bif (decide ((0 ≤ n_1) ∧ (n_1 ≤ (((w_1).length : Nat) : Int)))) then (Option.bind (F_law08_cased [(.s (List.take (n_1).toNat (List.drop 0 w_1))), (.i bits_2)]) fun r_6 =>
    onS r_6 fun s_8 ds_38 =>
    Option.bind (F_word_Week [(.s s_8)]) fun r_7 =>
    onI r_7 fun i_6 ds_39 =>
    onI ds_39 fun i_7 ds_40 =>
    Option.bind (bif (decide (0 < others_1)) then (bif (decide (n_1 < (((w_1).length : Nat) : Int))) then (some true) else
      (some false)) else
     (some false)) fun b_3 =>
    bif b_3 then (bif (decide (i_6 = 0)) then (bif (decide (i_7 = 8)) then (Option.bind (F_law08_works []) fun r_8 =>
       onB r_8 fun b_4 ds_41 =>
       some [(.b b_4)]) else
      (some [(.b false)])) else
     (some [(.b false)])) else
    (Option.bind (F_law08_cased [(.s w_1), (.i bits_2)]) fun r_9 =>
     onS r_9 fun s_9 ds_42 =>
     Option.bind (F_word_Week [(.s s_9)]) fun r_10 =>
     onI r_10 fun i_8 ds_43 =>
     onI ds_43 fun i_9 ds_44 =>
     bif (decide (i_6 = (i64 (i_5 + c_3)))) then (bif (decide (i_7 = 0)) then (bif (decide (i_8 = (i64 (i_5 + c_3)))) then (bif (decide (i_9 = 0)) then (Option.bind (F_law08_works []) fun r_11 =>
         onB r_11 fun b_5 ds_45 =>
         some [(.b b_5)]) else
        (some [(.b false)])) else
       (some [(.b false)])) else
      (some [(.b false)])) else
     (some [(.b false)]))) else none))
noncomputable def F_law08_WordBack_L2 : List Dat → Option (List Dat ⊕ List Dat) := fun ds_46 =>
  onI ds_46 fun bits_3 ds_47 =>
  onI ds_47 fun i_10 ds_48 =>
  onS ds_48 fun w_2 ds_49 =>
  onI ds_49 fun n_2 ds_50 =>
  onI ds_50 fun others_2 ds_51 =>
  onI ds_51 fun k_2 ds_52 =>
  onI ds_52 fun c_11 ds_53 =>
  onS ds_53 fun c_12 ds_54 =>
  onS ds_54 fun c_13 ds_55 =>
  onS ds_55 fun c_14 ds_56 =>
  onS ds_56 fun c_15 ds_57 =>
  onS ds_57 fun c_16 ds_58 =>
  onS ds_58 fun c_17 ds_59 =>
  onS ds_59 fun c_18 ds_60 =>
  onS ds_60 fun c_19 ds_61 =>
  onS ds_61 fun c_20 ds_62 =>
  onS ds_62 fun c_21 ds_63 =>
  onS ds_63 fun c_22 ds_64 =>
  onS ds_64 fun c_23 ds_65 =>
  bif (decide (k_2 < 12)) then (bif (!decide (k_2 = i_10)) then (bif (decide ((0 ≤ k_2) ∧ (k_2 < 12))) then (Option.bind (asS ([(Ax.AV.str (Ax.S.sym c_12)), (Ax.AV.str (Ax.S.sym c_13)), (Ax.AV.str (Ax.S.sym c_14)), (Ax.AV.str (Ax.S.sym c_15)), (Ax.AV.str (Ax.S.sym c_16)), (Ax.AV.str (Ax.S.sym c_17)), (Ax.AV.str (Ax.S.sym c_18)), (Ax.AV.str (Ax.S.sym c_19)), (Ax.AV.str (Ax.S.sym c_20)), (Ax.AV.str (Ax.S.sym c_21)), (Ax.AV.str (Ax.S.sym c_22)), (Ax.AV.str (Ax.S.sym c_23))])[(k_2).toNat]?) fun s_11 =>
    bif (decide (n_2 ≤ (((s_11).length : Nat) : Int))) then (bif (decide ((0 ≤ k_2) ∧ (k_2 < 12))) then (Option.bind (asS ([(Ax.AV.str (Ax.S.sym c_12)), (Ax.AV.str (Ax.S.sym c_13)), (Ax.AV.str (Ax.S.sym c_14)), (Ax.AV.str (Ax.S.sym c_15)), (Ax.AV.str (Ax.S.sym c_16)), (Ax.AV.str (Ax.S.sym c_17)), (Ax.AV.str (Ax.S.sym c_18)), (Ax.AV.str (Ax.S.sym c_19)), (Ax.AV.str (Ax.S.sym c_20)), (Ax.AV.str (Ax.S.sym c_21)), (Ax.AV.str (Ax.S.sym c_22)), (Ax.AV.str (Ax.S.sym c_23))])[(k_2).toNat]?) fun s_12 =>
     bif (decide ((0 ≤ n_2) ∧ (n_2 ≤ (((s_12).length : Nat) : Int)))) then (bif (decide ((0 ≤ n_2) ∧ (n_2 ≤ (((w_2).length : Nat) : Int)))) then (bif ((List.take (n_2).toNat (List.drop 0 s_12)) == (List.take (n_2).toNat (List.drop 0 w_2))) then (some (.inl [(.i bits_3), (.i i_10), (.s w_2), (.i n_2), (.i (i64 (others_2 + 1))), (.i (i64 (k_2 + 1))), (.i c_11), (.s c_12), (.s c_13), (.s c_14), (.s c_15), (.s c_16), (.s c_17), (.s c_18), (.s c_19), (.s c_20), (.s c_21), (.s c_22), (.s c_23)])) else
     (some (.inl [(.i bits_3), (.i i_10), (.s w_2), (.i n_2), (.i others_2), (.i (i64 (k_2 + 1))), (.i c_11), (.s c_12), (.s c_13), (.s c_14), (.s c_15), (.s c_16), (.s c_17), (.s c_18), (.s c_19), (.s c_20), (.s c_21), (.s c_22), (.s c_23)]))) else none) else none) else none) else
    (some (.inl [(.i bits_3), (.i i_10), (.s w_2), (.i n_2), (.i others_2), (.i (i64 (k_2 + 1))), (.i c_11), (.s c_12), (.s c_13), (.s c_14), (.s c_15), (.s c_16), (.s c_17), (.s c_18), (.s c_19), (.s c_20), (.s c_21), (.s c_22), (.s c_23)]))) else none) else
   (some (.inl [(.i bits_3), (.i i_10), (.s w_2), (.i n_2), (.i others_2), (.i (i64 (k_2 + 1))), (.i c_11), (.s c_12), (.s c_13), (.s c_14), (.s c_15), (.s c_16), (.s c_17), (.s c_18), (.s c_19), (.s c_20), (.s c_21), (.s c_22), (.s c_23)]))) else
  (Option.map .inr (bif (decide ((0 ≤ n_2) ∧ (n_2 ≤ (((w_2).length : Nat) : Int)))) then (Option.bind (F_law08_cased [(.s (List.take (n_2).toNat (List.drop 0 w_2))), (.i bits_3)]) fun r_12 =>
    onS r_12 fun s_13 ds_66 =>
    Option.bind (F_word_Month [(.s s_13)]) fun r_13 =>
    onI r_13 fun i_11 ds_67 =>
    onI ds_67 fun i_12 ds_68 =>
    Option.bind (bif (decide (0 < others_2)) then (bif (decide (n_2 < (((w_2).length : Nat) : Int))) then (some true) else
      (some false)) else
     (some false)) fun b_6 =>
    bif b_6 then (bif (decide (i_11 = 0)) then (bif (decide (i_12 = 8)) then (Option.bind (F_law08_works []) fun r_14 =>
       onB r_14 fun b_7 ds_69 =>
       some [(.b b_7)]) else
      (some [(.b false)])) else
     (some [(.b false)])) else
    (Option.bind (F_law08_cased [(.s w_2), (.i bits_3)]) fun r_15 =>
     onS r_15 fun s_14 ds_70 =>
     Option.bind (F_word_Month [(.s s_14)]) fun r_16 =>
     onI r_16 fun i_13 ds_71 =>
     onI ds_71 fun i_14 ds_72 =>
     bif (decide (i_11 = (i64 (i_10 + c_11)))) then (bif (decide (i_12 = 0)) then (bif (decide (i_13 = (i64 (i_10 + c_11)))) then (bif (decide (i_14 = 0)) then (Option.bind (F_law08_works []) fun r_17 =>
         onB r_17 fun b_8 ds_73 =>
         some [(.b b_8)]) else
        (some [(.b false)])) else
       (some [(.b false)])) else
      (some [(.b false)])) else
     (some [(.b false)]))) else none))
noncomputable def F_law08_WordBack_L3 : List Dat → Option (List Dat ⊕ List Dat) := fun ds_74 =>
  onI ds_74 fun bits_4 ds_75 =>
  onI ds_75 fun i_15 ds_76 =>
  onS ds_76 fun w_3 ds_77 =>
  onI ds_77 fun n_3 ds_78 =>
  onI ds_78 fun others_3 ds_79 =>
  onI ds_79 fun k_3 ds_80 =>
  onI ds_80 fun c_24 ds_81 =>
  onS ds_81 fun c_25 ds_82 =>
  onS ds_82 fun c_26 ds_83 =>
  onS ds_83 fun c_27 ds_84 =>
  onS ds_84 fun c_28 ds_85 =>
  bif (decide (k_3 < 4)) then (bif (!decide (k_3 = i_15)) then (bif (decide ((0 ≤ k_3) ∧ (k_3 < 4))) then (Option.bind (asS ([(Ax.AV.str (Ax.S.sym c_25)), (Ax.AV.str (Ax.S.sym c_26)), (Ax.AV.str (Ax.S.sym c_27)), (Ax.AV.str (Ax.S.sym c_28))])[(k_3).toNat]?) fun s_16 =>
    bif (decide (n_3 ≤ (((s_16).length : Nat) : Int))) then (bif (decide ((0 ≤ k_3) ∧ (k_3 < 4))) then (Option.bind (asS ([(Ax.AV.str (Ax.S.sym c_25)), (Ax.AV.str (Ax.S.sym c_26)), (Ax.AV.str (Ax.S.sym c_27)), (Ax.AV.str (Ax.S.sym c_28))])[(k_3).toNat]?) fun s_17 =>
     bif (decide ((0 ≤ n_3) ∧ (n_3 ≤ (((s_17).length : Nat) : Int)))) then (bif (decide ((0 ≤ n_3) ∧ (n_3 ≤ (((w_3).length : Nat) : Int)))) then (bif ((List.take (n_3).toNat (List.drop 0 s_17)) == (List.take (n_3).toNat (List.drop 0 w_3))) then (some (.inl [(.i bits_4), (.i i_15), (.s w_3), (.i n_3), (.i (i64 (others_3 + 1))), (.i (i64 (k_3 + 1))), (.i c_24), (.s c_25), (.s c_26), (.s c_27), (.s c_28)])) else
     (some (.inl [(.i bits_4), (.i i_15), (.s w_3), (.i n_3), (.i others_3), (.i (i64 (k_3 + 1))), (.i c_24), (.s c_25), (.s c_26), (.s c_27), (.s c_28)]))) else none) else none) else none) else
    (some (.inl [(.i bits_4), (.i i_15), (.s w_3), (.i n_3), (.i others_3), (.i (i64 (k_3 + 1))), (.i c_24), (.s c_25), (.s c_26), (.s c_27), (.s c_28)]))) else none) else
   (some (.inl [(.i bits_4), (.i i_15), (.s w_3), (.i n_3), (.i others_3), (.i (i64 (k_3 + 1))), (.i c_24), (.s c_25), (.s c_26), (.s c_27), (.s c_28)]))) else
  (Option.map .inr (bif (decide ((0 ≤ n_3) ∧ (n_3 ≤ (((w_3).length : Nat) : Int)))) then (Option.bind (F_law08_cased [(.s (List.take (n_3).toNat (List.drop 0 w_3))), (.i bits_4)]) fun r_18 =>
    onS r_18 fun s_18 ds_86 =>
    Option.bind (F_word_Line [(.s s_18)]) fun r_19 =>
    onI r_19 fun i_16 ds_87 =>
    onI ds_87 fun i_17 ds_88 =>
    Option.bind (bif (decide (0 < others_3)) then (bif (decide (n_3 < (((w_3).length : Nat) : Int))) then (some true) else
      (some false)) else
     (some false)) fun b_9 =>
    bif b_9 then (bif (decide (i_16 = 0)) then (bif (decide (i_17 = 8)) then (Option.bind (F_law08_works []) fun r_20 =>
       onB r_20 fun b_10 ds_89 =>
       some [(.b b_10)]) else
      (some [(.b false)])) else
     (some [(.b false)])) else
    (Option.bind (F_law08_cased [(.s w_3), (.i bits_4)]) fun r_21 =>
     onS r_21 fun s_19 ds_90 =>
     Option.bind (F_word_Line [(.s s_19)]) fun r_22 =>
     onI r_22 fun i_18 ds_91 =>
     onI ds_91 fun i_19 ds_92 =>
     bif (decide (i_16 = (i64 (i_15 + c_24)))) then (bif (decide (i_17 = 0)) then (bif (decide (i_18 = (i64 (i_15 + c_24)))) then (bif (decide (i_19 = 0)) then (Option.bind (F_law08_works []) fun r_23 =>
         onB r_23 fun b_11 ds_93 =>
         some [(.b b_11)]) else
        (some [(.b false)])) else
       (some [(.b false)])) else
      (some [(.b false)])) else
     (some [(.b false)]))) else none))
noncomputable def F_law08_WordBack : List Dat → Option (List Dat) := fun ds_0 =>
  onI ds_0 fun list_0 ds_1 =>
  onI ds_1 fun which_0 ds_2 =>
  onI ds_2 fun length_0 ds_3 =>
  onI ds_3 fun bits_0 ds_4 =>
  bif (decide ((0 ≤ (Int.tmod (i64 list_0) 4)) ∧ ((Int.tmod (i64 list_0) 4) < 4))) then (bif (decide ((Int.tmod (i64 list_0) 4) = 3)) then (bif (decide ((0 ≤ (Int.tmod (i64 which_0) 2)) ∧ ((Int.tmod (i64 which_0) 2) < 2))) then (Option.bind (asS ([(Ax.AV.str (Ax.S.lit ([111, 110, 108, 121] : List UInt8))), (Ax.AV.str (Ax.S.lit ([109, 97, 120, 105, 109, 117, 109] : List UInt8)))])[((Int.tmod (i64 which_0) 2)).toNat]?) fun s_0 =>
   bif ((((s_0).length : Nat) : Int) != 0) then (iter F_law08_WordBack_L0 [(.i bits_0), (.i (Int.tmod (i64 which_0) 2)), (.s s_0), (.i (i64 (1 + (Int.tmod (i64 length_0) (((s_0).length : Nat) : Int))))), (.i 0), (.i 0), (.i 1), (.s ([111, 110, 108, 121] : List UInt8)), (.s ([109, 97, 120, 105, 109, 117, 109] : List UInt8))]) else none) else none) else
  (bif (decide ((Int.tmod (i64 list_0) 4) = 2)) then (bif (decide ((0 ≤ (Int.tmod (i64 which_0) 7)) ∧ ((Int.tmod (i64 which_0) 7) < 7))) then (Option.bind (asS ([(Ax.AV.str (Ax.S.lit ([115, 117, 110, 100, 97, 121] : List UInt8))), (Ax.AV.str (Ax.S.lit ([109, 111, 110, 100, 97, 121] : List UInt8))), (Ax.AV.str (Ax.S.lit ([116, 117, 101, 115, 100, 97, 121] : List UInt8))), (Ax.AV.str (Ax.S.lit ([119, 101, 100, 110, 101, 115, 100, 97, 121] : List UInt8))), (Ax.AV.str (Ax.S.lit ([116, 104, 117, 114, 115, 100, 97, 121] : List UInt8))), (Ax.AV.str (Ax.S.lit ([102, 114, 105, 100, 97, 121] : List UInt8))), (Ax.AV.str (Ax.S.lit ([115, 97, 116, 117, 114, 100, 97, 121] : List UInt8)))])[((Int.tmod (i64 which_0) 7)).toNat]?) fun s_5 =>
    bif ((((s_5).length : Nat) : Int) != 0) then (iter F_law08_WordBack_L1 [(.i bits_0), (.i (Int.tmod (i64 which_0) 7)), (.s s_5), (.i (i64 (1 + (Int.tmod (i64 length_0) (((s_5).length : Nat) : Int))))), (.i 0), (.i 0), (.i 0), (.s ([115, 117, 110, 100, 97, 121] : List UInt8)), (.s ([109, 111, 110, 100, 97, 121] : List UInt8)), (.s ([116, 117, 101, 115, 100, 97, 121] : List UInt8)), (.s ([119, 101, 100, 110, 101, 115, 100, 97, 121] : List UInt8)), (.s ([116, 104, 117, 114, 115, 100, 97, 121] : List UInt8)), (.s ([102, 114, 105, 100, 97, 121] : List UInt8)), (.s ([115, 97, 116, 117, 114, 100, 97, 121] : List UInt8))]) else none) else none) else
   (bif (decide ((Int.tmod (i64 list_0) 4) = 1)) then (bif (decide ((0 ≤ (Int.tmod (i64 which_0) 12)) ∧ ((Int.tmod (i64 which_0) 12) < 12))) then (Option.bind (asS ([(Ax.AV.str (Ax.S.lit ([106, 97, 110, 117, 97, 114, 121] : List UInt8))), (Ax.AV.str (Ax.S.lit ([102, 101, 98, 114, 117, 97, 114, 121] : List UInt8))), (Ax.AV.str (Ax.S.lit ([109, 97, 114, 99, 104] : List UInt8))), (Ax.AV.str (Ax.S.lit ([97, 112, 114, 105, 108] : List UInt8))), (Ax.AV.str (Ax.S.lit ([109, 97, 121] : List UInt8))), (Ax.AV.str (Ax.S.lit ([106, 117, 110, 101] : List UInt8))), (Ax.AV.str (Ax.S.lit ([106, 117, 108, 121] : List UInt8))), (Ax.AV.str (Ax.S.lit ([97, 117, 103, 117, 115, 116] : List UInt8))), (Ax.AV.str (Ax.S.lit ([115, 101, 112, 116, 101, 109, 98, 101, 114] : List UInt8))), (Ax.AV.str (Ax.S.lit ([111, 99, 116, 111, 98, 101, 114] : List UInt8))), (Ax.AV.str (Ax.S.lit ([110, 111, 118, 101, 109, 98, 101, 114] : List UInt8))), (Ax.AV.str (Ax.S.lit ([100, 101, 99, 101, 109, 98, 101, 114] : List UInt8)))])[((Int.tmod (i64 which_0) 12)).toNat]?) fun s_10 =>
     bif ((((s_10).length : Nat) : Int) != 0) then (iter F_law08_WordBack_L2 [(.i bits_0), (.i (Int.tmod (i64 which_0) 12)), (.s s_10), (.i (i64 (1 + (Int.tmod (i64 length_0) (((s_10).length : Nat) : Int))))), (.i 0), (.i 0), (.i 1), (.s ([106, 97, 110, 117, 97, 114, 121] : List UInt8)), (.s ([102, 101, 98, 114, 117, 97, 114, 121] : List UInt8)), (.s ([109, 97, 114, 99, 104] : List UInt8)), (.s ([97, 112, 114, 105, 108] : List UInt8)), (.s ([109, 97, 121] : List UInt8)), (.s ([106, 117, 110, 101] : List UInt8)), (.s ([106, 117, 108, 121] : List UInt8)), (.s ([97, 117, 103, 117, 115, 116] : List UInt8)), (.s ([115, 101, 112, 116, 101, 109, 98, 101, 114] : List UInt8)), (.s ([111, 99, 116, 111, 98, 101, 114] : List UInt8)), (.s ([110, 111, 118, 101, 109, 98, 101, 114] : List UInt8)), (.s ([100, 101, 99, 101, 109, 98, 101, 114] : List UInt8))]) else none) else none) else
    (bif (decide ((Int.tmod (i64 list_0) 4) = 0)) then (bif (decide ((0 ≤ (Int.tmod (i64 which_0) 4)) ∧ ((Int.tmod (i64 which_0) 4) < 4))) then (Option.bind (asS ([(Ax.AV.str (Ax.S.lit ([114, 117, 108, 101] : List UInt8))), (Ax.AV.str (Ax.S.lit ([122, 111, 110, 101] : List UInt8))), (Ax.AV.str (Ax.S.lit ([108, 105, 110, 107] : List UInt8))), (Ax.AV.str (Ax.S.lit ([115, 104, 105, 102, 116] : List UInt8)))])[((Int.tmod (i64 which_0) 4)).toNat]?) fun s_15 =>
      bif ((((s_15).length : Nat) : Int) != 0) then (iter F_law08_WordBack_L3 [(.i bits_0), (.i (Int.tmod (i64 which_0) 4)), (.s s_15), (.i (i64 (1 + (Int.tmod (i64 length_0) (((s_15).length : Nat) : Int))))), (.i 0), (.i 0), (.i 1), (.s ([114, 117, 108, 101] : List UInt8)), (.s ([122, 111, 110, 101] : List UInt8)), (.s ([108, 105, 110, 107] : List UInt8)), (.s ([115, 104, 105, 102, 116] : List UInt8))]) else none) else none) else
     (none))))) else none
noncomputable def F_law08_WordShort : List Dat → Option (List Dat) := fun ds_0 =>
  onI ds_0 fun n_0 ds_1 =>
  onI ds_1 fun bits_0 ds_2 =>
  Option.bind (F_word_MonthText [(.i (i64 (1 + (i64 (Int.tmod n_0 12)))))]) fun r_0 =>
  onS r_0 fun s_0 ds_3 =>
  Option.bind (F_word_WeekText [(.i (i64 (Int.tmod n_0 7)))]) fun r_1 =>
  onS r_1 fun s_1 ds_4 =>
  Option.bind (bif (!decide ((((s_0).length : Nat) : Int) = 3)) then (some true) else
   (bif (decide (((0 : Int) ≤ 0) ∧ (0 < (((s_0).length : Nat) : Int)))) then (bif (decide (((((List.getD s_0 0 0)).toNat : Nat) : Int) < 65)) then (some true) else
    (bif (decide (((0 : Int) ≤ 0) ∧ (0 < (((s_0).length : Nat) : Int)))) then (bif (decide (90 < ((((List.getD s_0 0 0)).toNat : Nat) : Int))) then (some true) else
     (bif (decide (((0 : Int) ≤ 1) ∧ (1 < (((s_0).length : Nat) : Int)))) then (bif (decide (((((List.getD s_0 1 0)).toNat : Nat) : Int) < 97)) then (some true) else
      (bif (decide (((0 : Int) ≤ 1) ∧ (1 < (((s_0).length : Nat) : Int)))) then (bif (decide (122 < ((((List.getD s_0 1 0)).toNat : Nat) : Int))) then (some true) else
       (bif (decide (((0 : Int) ≤ 2) ∧ (2 < (((s_0).length : Nat) : Int)))) then (bif (decide (((((List.getD s_0 2 0)).toNat : Nat) : Int) < 97)) then (some true) else
        (bif (decide (((0 : Int) ≤ 2) ∧ (2 < (((s_0).length : Nat) : Int)))) then (bif (decide (122 < ((((List.getD s_0 2 0)).toNat : Nat) : Int))) then (some true) else
         (some false)) else none)) else none)) else none)) else none)) else none)) else none)) fun b_0 =>
  bif b_0 then (some [(.b false)]) else
  (Option.bind (bif (!decide ((((s_1).length : Nat) : Int) = 3)) then (some true) else
    (bif (decide (((0 : Int) ≤ 0) ∧ (0 < (((s_1).length : Nat) : Int)))) then (bif (decide (((((List.getD s_1 0 0)).toNat : Nat) : Int) < 65)) then (some true) else
     (bif (decide (((0 : Int) ≤ 0) ∧ (0 < (((s_1).length : Nat) : Int)))) then (bif (decide (90 < ((((List.getD s_1 0 0)).toNat : Nat) : Int))) then (some true) else
      (bif (decide (((0 : Int) ≤ 1) ∧ (1 < (((s_1).length : Nat) : Int)))) then (bif (decide (((((List.getD s_1 1 0)).toNat : Nat) : Int) < 97)) then (some true) else
       (bif (decide (((0 : Int) ≤ 1) ∧ (1 < (((s_1).length : Nat) : Int)))) then (bif (decide (122 < ((((List.getD s_1 1 0)).toNat : Nat) : Int))) then (some true) else
        (bif (decide (((0 : Int) ≤ 2) ∧ (2 < (((s_1).length : Nat) : Int)))) then (bif (decide (((((List.getD s_1 2 0)).toNat : Nat) : Int) < 97)) then (some true) else
         (bif (decide (((0 : Int) ≤ 2) ∧ (2 < (((s_1).length : Nat) : Int)))) then (bif (decide (122 < ((((List.getD s_1 2 0)).toNat : Nat) : Int))) then (some true) else
          (some false)) else none)) else none)) else none)) else none)) else none)) else none)) fun b_1 =>
   bif b_1 then (some [(.b false)]) else
   (bif (decide (((0 : Int) ≤ 0) ∧ (0 < (((s_0).length : Nat) : Int)))) then (Option.bind (bytesOf [(Ax.AV.int .u8 (Ax.I.sym (u8 ((u8 (((((List.getD s_0 0 0)).toNat : Nat) : Int) + 97)) - 65))))]) fun s_2 =>
    bif (decide (((0 : Int) ≤ 1) ∧ (1 ≤ (((s_0).length : Nat) : Int)))) then (bif (decide (((s_2).length + ((List.take ((s_0).length - 1) (List.drop 1 s_0))).length) ≤ 9223372036854775807)) then (Option.bind (F_law08_cased [(.s (s_2 ++ (List.take ((s_0).length - 1) (List.drop 1 s_0)))), (.i bits_0)]) fun r_2 =>
    onS r_2 fun s_3 ds_5 =>
    Option.bind (F_word_Month [(.s s_3)]) fun r_3 =>
    onI r_3 fun i_0 ds_6 =>
    onI ds_6 fun i_1 ds_7 =>
    bif (decide (((0 : Int) ≤ 0) ∧ (0 < (((s_1).length : Nat) : Int)))) then (Option.bind (bytesOf [(Ax.AV.int .u8 (Ax.I.sym (u8 ((u8 (((((List.getD s_1 0 0)).toNat : Nat) : Int) + 97)) - 65))))]) fun s_4 =>
    bif (decide (((0 : Int) ≤ 1) ∧ (1 ≤ (((s_1).length : Nat) : Int)))) then (bif (decide (((s_4).length + ((List.take ((s_1).length - 1) (List.drop 1 s_1))).length) ≤ 9223372036854775807)) then (Option.bind (F_law08_cased [(.s (s_4 ++ (List.take ((s_1).length - 1) (List.drop 1 s_1)))), (.i bits_0)]) fun r_4 =>
    onS r_4 fun s_5 ds_8 =>
    Option.bind (F_word_Week [(.s s_5)]) fun r_5 =>
    onI r_5 fun i_2 ds_9 =>
    onI ds_9 fun i_3 ds_10 =>
    bif (decide (i_0 = (i64 (1 + (i64 (Int.tmod n_0 12)))))) then (bif (decide (i_1 = 0)) then (bif (decide (i_2 = (i64 (Int.tmod n_0 7)))) then (bif (decide (i_3 = 0)) then (Option.bind (F_law08_works []) fun r_6 =>
        onB r_6 fun b_2 ds_11 =>
        some [(.b b_2)]) else
       (some [(.b false)])) else
      (some [(.b false)])) else
     (some [(.b false)])) else
    (some [(.b false)])) else none) else none) else none) else none) else none) else none))
noncomputable def F_law08_WordMore : List Dat → Option (List Dat) := fun ds_0 =>
  onI ds_0 fun list_0 ds_1 =>
  onI ds_1 fun which_0 ds_2 =>
  onI ds_2 fun at_0 ds_3 =>
  onI ds_3 fun c_0 ds_4 =>
  bif (decide ((0 ≤ (Int.tmod (i64 list_0) 4)) ∧ ((Int.tmod (i64 list_0) 4) < 4))) then (bif (decide ((Int.tmod (i64 list_0) 4) = 3)) then (bif (decide ((0 ≤ (Int.tmod (i64 which_0) 2)) ∧ ((Int.tmod (i64 which_0) 2) < 2))) then (Option.bind (asS ([(Ax.AV.str (Ax.S.lit ([111, 110, 108, 121] : List UInt8))), (Ax.AV.str (Ax.S.lit ([109, 97, 120, 105, 109, 117, 109] : List UInt8)))])[((Int.tmod (i64 which_0) 2)).toNat]?) fun s_0 =>
   bif ((i64 ((((s_0).length : Nat) : Int) + 1)) != 0) then (bif (decide ((0 ≤ (Int.tmod (i64 at_0) (i64 ((((s_0).length : Nat) : Int) + 1)))) ∧ ((Int.tmod (i64 at_0) (i64 ((((s_0).length : Nat) : Int) + 1))) ≤ (((s_0).length : Nat) : Int)))) then (Option.bind (bytesOf [(Ax.AV.int .u8 (Ax.I.sym c_0))]) fun s_1 =>
   bif (decide ((((List.take ((Int.tmod (i64 at_0) (i64 ((((s_0).length : Nat) : Int) + 1)))).toNat (List.drop 0 s_0))).length + (s_1).length) ≤ 9223372036854775807)) then (bif (decide ((0 ≤ (Int.tmod (i64 at_0) (i64 ((((s_0).length : Nat) : Int) + 1)))) ∧ ((Int.tmod (i64 at_0) (i64 ((((s_0).length : Nat) : Int) + 1))) ≤ (((s_0).length : Nat) : Int)))) then (bif (decide (((((List.take ((Int.tmod (i64 at_0) (i64 ((((s_0).length : Nat) : Int) + 1)))).toNat (List.drop 0 s_0)) ++ s_1)).length + ((List.take ((s_0).length - ((Int.tmod (i64 at_0) (i64 ((((s_0).length : Nat) : Int) + 1)))).toNat) (List.drop ((Int.tmod (i64 at_0) (i64 ((((s_0).length : Nat) : Int) + 1)))).toNat s_0))).length) ≤ 9223372036854775807)) then (Option.bind (F_word_To [(.s (((List.take ((Int.tmod (i64 at_0) (i64 ((((s_0).length : Nat) : Int) + 1)))).toNat (List.drop 0 s_0)) ++ s_1) ++ (List.take ((s_0).length - ((Int.tmod (i64 at_0) (i64 ((((s_0).length : Nat) : Int) + 1)))).toNat) (List.drop ((Int.tmod (i64 at_0) (i64 ((((s_0).length : Nat) : Int) + 1)))).toNat s_0))))]) fun r_0 =>
   onI r_0 fun i_0 ds_5 =>
   onI ds_5 fun i_1 ds_6 =>
   bif (decide (i_0 = 0)) then (bif (decide (i_1 = 8)) then (Option.bind (F_law08_works []) fun r_1 =>
     onB r_1 fun b_0 ds_7 =>
     some [(.b b_0)]) else
    (some [(.b false)])) else
   (some [(.b false)])) else none) else none) else none) else none) else none) else none) else
  (bif (decide ((Int.tmod (i64 list_0) 4) = 2)) then (bif (decide ((0 ≤ (Int.tmod (i64 which_0) 7)) ∧ ((Int.tmod (i64 which_0) 7) < 7))) then (Option.bind (asS ([(Ax.AV.str (Ax.S.lit ([115, 117, 110, 100, 97, 121] : List UInt8))), (Ax.AV.str (Ax.S.lit ([109, 111, 110, 100, 97, 121] : List UInt8))), (Ax.AV.str (Ax.S.lit ([116, 117, 101, 115, 100, 97, 121] : List UInt8))), (Ax.AV.str (Ax.S.lit ([119, 101, 100, 110, 101, 115, 100, 97, 121] : List UInt8))), (Ax.AV.str (Ax.S.lit ([116, 104, 117, 114, 115, 100, 97, 121] : List UInt8))), (Ax.AV.str (Ax.S.lit ([102, 114, 105, 100, 97, 121] : List UInt8))), (Ax.AV.str (Ax.S.lit ([115, 97, 116, 117, 114, 100, 97, 121] : List UInt8)))])[((Int.tmod (i64 which_0) 7)).toNat]?) fun s_2 =>
    bif ((i64 ((((s_2).length : Nat) : Int) + 1)) != 0) then (bif (decide ((0 ≤ (Int.tmod (i64 at_0) (i64 ((((s_2).length : Nat) : Int) + 1)))) ∧ ((Int.tmod (i64 at_0) (i64 ((((s_2).length : Nat) : Int) + 1))) ≤ (((s_2).length : Nat) : Int)))) then (Option.bind (bytesOf [(Ax.AV.int .u8 (Ax.I.sym c_0))]) fun s_3 =>
    bif (decide ((((List.take ((Int.tmod (i64 at_0) (i64 ((((s_2).length : Nat) : Int) + 1)))).toNat (List.drop 0 s_2))).length + (s_3).length) ≤ 9223372036854775807)) then (bif (decide ((0 ≤ (Int.tmod (i64 at_0) (i64 ((((s_2).length : Nat) : Int) + 1)))) ∧ ((Int.tmod (i64 at_0) (i64 ((((s_2).length : Nat) : Int) + 1))) ≤ (((s_2).length : Nat) : Int)))) then (bif (decide (((((List.take ((Int.tmod (i64 at_0) (i64 ((((s_2).length : Nat) : Int) + 1)))).toNat (List.drop 0 s_2)) ++ s_3)).length + ((List.take ((s_2).length - ((Int.tmod (i64 at_0) (i64 ((((s_2).length : Nat) : Int) + 1)))).toNat) (List.drop ((Int.tmod (i64 at_0) (i64 ((((s_2).length : Nat) : Int) + 1)))).toNat s_2))).length) ≤ 9223372036854775807)) then (Option.bind (F_word_Week [(.s (((List.take ((Int.tmod (i64 at_0) (i64 ((((s_2).length : Nat) : Int) + 1)))).toNat (List.drop 0 s_2)) ++ s_3) ++ (List.take ((s_2).length - ((Int.tmod (i64 at_0) (i64 ((((s_2).length : Nat) : Int) + 1)))).toNat) (List.drop ((Int.tmod (i64 at_0) (i64 ((((s_2).length : Nat) : Int) + 1)))).toNat s_2))))]) fun r_2 =>
    onI r_2 fun i_2 ds_8 =>
    onI ds_8 fun i_3 ds_9 =>
    bif (decide (i_2 = 0)) then (bif (decide (i_3 = 8)) then (Option.bind (F_law08_works []) fun r_3 =>
      onB r_3 fun b_1 ds_10 =>
      some [(.b b_1)]) else
     (some [(.b false)])) else
    (some [(.b false)])) else none) else none) else none) else none) else none) else none) else
   (bif (decide ((Int.tmod (i64 list_0) 4) = 1)) then (bif (decide ((0 ≤ (Int.tmod (i64 which_0) 12)) ∧ ((Int.tmod (i64 which_0) 12) < 12))) then (Option.bind (asS ([(Ax.AV.str (Ax.S.lit ([106, 97, 110, 117, 97, 114, 121] : List UInt8))), (Ax.AV.str (Ax.S.lit ([102, 101, 98, 114, 117, 97, 114, 121] : List UInt8))), (Ax.AV.str (Ax.S.lit ([109, 97, 114, 99, 104] : List UInt8))), (Ax.AV.str (Ax.S.lit ([97, 112, 114, 105, 108] : List UInt8))), (Ax.AV.str (Ax.S.lit ([109, 97, 121] : List UInt8))), (Ax.AV.str (Ax.S.lit ([106, 117, 110, 101] : List UInt8))), (Ax.AV.str (Ax.S.lit ([106, 117, 108, 121] : List UInt8))), (Ax.AV.str (Ax.S.lit ([97, 117, 103, 117, 115, 116] : List UInt8))), (Ax.AV.str (Ax.S.lit ([115, 101, 112, 116, 101, 109, 98, 101, 114] : List UInt8))), (Ax.AV.str (Ax.S.lit ([111, 99, 116, 111, 98, 101, 114] : List UInt8))), (Ax.AV.str (Ax.S.lit ([110, 111, 118, 101, 109, 98, 101, 114] : List UInt8))), (Ax.AV.str (Ax.S.lit ([100, 101, 99, 101, 109, 98, 101, 114] : List UInt8)))])[((Int.tmod (i64 which_0) 12)).toNat]?) fun s_4 =>
     bif ((i64 ((((s_4).length : Nat) : Int) + 1)) != 0) then (bif (decide ((0 ≤ (Int.tmod (i64 at_0) (i64 ((((s_4).length : Nat) : Int) + 1)))) ∧ ((Int.tmod (i64 at_0) (i64 ((((s_4).length : Nat) : Int) + 1))) ≤ (((s_4).length : Nat) : Int)))) then (Option.bind (bytesOf [(Ax.AV.int .u8 (Ax.I.sym c_0))]) fun s_5 =>
     bif (decide ((((List.take ((Int.tmod (i64 at_0) (i64 ((((s_4).length : Nat) : Int) + 1)))).toNat (List.drop 0 s_4))).length + (s_5).length) ≤ 9223372036854775807)) then (bif (decide ((0 ≤ (Int.tmod (i64 at_0) (i64 ((((s_4).length : Nat) : Int) + 1)))) ∧ ((Int.tmod (i64 at_0) (i64 ((((s_4).length : Nat) : Int) + 1))) ≤ (((s_4).length : Nat) : Int)))) then (bif (decide (((((List.take ((Int.tmod (i64 at_0) (i64 ((((s_4).length : Nat) : Int) + 1)))).toNat (List.drop 0 s_4)) ++ s_5)).length + ((List.take ((s_4).length - ((Int.tmod (i64 at_0) (i64 ((((s_4).length : Nat) : Int) + 1)))).toNat) (List.drop ((Int.tmod (i64 at_0) (i64 ((((s_4).length : Nat) : Int) + 1)))).toNat s_4))).length) ≤ 9223372036854775807)) then (Option.bind (F_word_Month [(.s (((List.take ((Int.tmod (i64 at_0) (i64 ((((s_4).length : Nat) : Int) + 1)))).toNat (List.drop 0 s_4)) ++ s_5) ++ (List.take ((s_4).length - ((Int.tmod (i64 at_0) (i64 ((((s_4).length : Nat) : Int) + 1)))).toNat) (List.drop ((Int.tmod (i64 at_0) (i64 ((((s_4).length : Nat) : Int) + 1)))).toNat s_4))))]) fun r_4 =>
     onI r_4 fun i_4 ds_11 =>
     onI ds_11 fun i_5 ds_12 =>
     bif (decide (i_4 = 0)) then (bif (decide (i_5 = 8)) then (Option.bind (F_law08_works []) fun r_5 =>
       onB r_5 fun b_2 ds_13 =>
       some [(.b b_2)]) else
      (some [(.b false)])) else
     (some [(.b false)])) else none) else none) else none) else none) else none) else none) else
    (bif (decide ((Int.tmod (i64 list_0) 4) = 0)) then (bif (decide ((0 ≤ (Int.tmod (i64 which_0) 4)) ∧ ((Int.tmod (i64 which_0) 4) < 4))) then (Option.bind (asS ([(Ax.AV.str (Ax.S.lit ([114, 117, 108, 101] : List UInt8))), (Ax.AV.str (Ax.S.lit ([122, 111, 110, 101] : List UInt8))), (Ax.AV.str (Ax.S.lit ([108, 105, 110, 107] : List UInt8))), (Ax.AV.str (Ax.S.lit ([115, 104, 105, 102, 116] : List UInt8)))])[((Int.tmod (i64 which_0) 4)).toNat]?) fun s_6 =>
      bif ((i64 ((((s_6).length : Nat) : Int) + 1)) != 0) then (bif (decide ((0 ≤ (Int.tmod (i64 at_0) (i64 ((((s_6).length : Nat) : Int) + 1)))) ∧ ((Int.tmod (i64 at_0) (i64 ((((s_6).length : Nat) : Int) + 1))) ≤ (((s_6).length : Nat) : Int)))) then (Option.bind (bytesOf [(Ax.AV.int .u8 (Ax.I.sym c_0))]) fun s_7 =>
      bif (decide ((((List.take ((Int.tmod (i64 at_0) (i64 ((((s_6).length : Nat) : Int) + 1)))).toNat (List.drop 0 s_6))).length + (s_7).length) ≤ 9223372036854775807)) then (bif (decide ((0 ≤ (Int.tmod (i64 at_0) (i64 ((((s_6).length : Nat) : Int) + 1)))) ∧ ((Int.tmod (i64 at_0) (i64 ((((s_6).length : Nat) : Int) + 1))) ≤ (((s_6).length : Nat) : Int)))) then (bif (decide (((((List.take ((Int.tmod (i64 at_0) (i64 ((((s_6).length : Nat) : Int) + 1)))).toNat (List.drop 0 s_6)) ++ s_7)).length + ((List.take ((s_6).length - ((Int.tmod (i64 at_0) (i64 ((((s_6).length : Nat) : Int) + 1)))).toNat) (List.drop ((Int.tmod (i64 at_0) (i64 ((((s_6).length : Nat) : Int) + 1)))).toNat s_6))).length) ≤ 9223372036854775807)) then (Option.bind (F_word_Line [(.s (((List.take ((Int.tmod (i64 at_0) (i64 ((((s_6).length : Nat) : Int) + 1)))).toNat (List.drop 0 s_6)) ++ s_7) ++ (List.take ((s_6).length - ((Int.tmod (i64 at_0) (i64 ((((s_6).length : Nat) : Int) + 1)))).toNat) (List.drop ((Int.tmod (i64 at_0) (i64 ((((s_6).length : Nat) : Int) + 1)))).toNat s_6))))]) fun r_6 =>
      onI r_6 fun i_6 ds_14 =>
      onI ds_14 fun i_7 ds_15 =>
      bif (decide (i_6 = 0)) then (bif (decide (i_7 = 8)) then (Option.bind (F_law08_works []) fun r_7 =>
        onB r_7 fun b_3 ds_16 =>
        some [(.b b_3)]) else
       (some [(.b false)])) else
      (some [(.b false)])) else none) else none) else none) else none) else none) else none) else
     (none))))) else none
noncomputable def F_law08_WordOne_L0 : List Dat → Option (List Dat ⊕ List Dat) := fun ds_4 =>
  onN ds_4 fun ln_1 ds_5 =>
  onL ds_5 fun ll_1 ds_6 =>
  onN ds_6 fun bn_0 ds_7 =>
  onN ds_7 fun bc_0 ds_8 =>
  onI ds_8 fun v_0 ds_9 =>
  onI ds_9 fun v_1 ds_10 =>
  onL ds_10 fun cells_0 ds_11 =>
  bif (decide (v_1 < v_0)) then (bif (decide ((0 ≤ v_1) ∧ (v_1 < ((ln_1 : Nat) : Int)))) then (Option.bind (asI .u8 (ll_1)[(v_1).toNat]?) fun x_0 =>
   bif (decide ((0 ≤ v_1) ∧ (v_1 < ((bn_0 : Nat) : Int)))) then (bif (decide (((v_1).toNat + 1) ≤ (cells_0).length)) then (bif (decide (([(Ax.AV.int .u8 (Ax.I.sym (u8 (97 + (Int.tmod x_0 26)))))]).length = 1)) then (bif (List.all (Ax.write cells_0 (v_1).toNat [(Ax.AV.int .u8 (Ax.I.sym (u8 (97 + (Int.tmod x_0 26)))))]) (Ax.closedN 20)) then (some (.inl [(.n ln_1), (.l ll_1), (.n bn_0), (.n bc_0), (.i v_0), (.i (i64 (v_1 + 1))), (.l (Ax.write cells_0 (v_1).toNat [(Ax.AV.int .u8 (Ax.I.sym (u8 (97 + (Int.tmod x_0 26)))))]))])) else
   (none)) else none) else none) else none) else none) else
  (Option.map .inr (bif (decide ((0 + bn_0) ≤ (cells_0).length)) then (Option.bind (bytesOf (List.take bn_0 (List.drop 0 cells_0))) fun s_0 =>
    Option.bind (F_word_Line [(.s s_0)]) fun r_1 =>
    onI r_1 fun i_0 ds_12 =>
    onI ds_12 fun i_1 ds_13 =>
    bif (!decide (i_1 = 0)) then (Option.bind (bif (!decide (i_0 = 0)) then (some true) else
      (bif (!decide (i_1 = 8)) then (some true) else
       (some false))) fun b_1 =>
     bif b_1 then (some [(.b false)]) else
     (Option.bind (F_word_Month [(.s s_0)]) fun r_2 =>
      onI r_2 fun i_2 ds_14 =>
      onI ds_14 fun i_3 ds_15 =>
      bif (!decide (i_3 = 0)) then (Option.bind (bif (!decide (i_2 = 0)) then (some true) else
        (bif (!decide (i_3 = 8)) then (some true) else
         (some false))) fun b_2 =>
       bif b_2 then (some [(.b false)]) else
       (Option.bind (F_word_Week [(.s s_0)]) fun r_3 =>
        onI r_3 fun i_4 ds_16 =>
        onI ds_16 fun i_5 ds_17 =>
        bif (!decide (i_5 = 0)) then (Option.bind (bif (!decide (i_4 = 0)) then (some true) else
          (bif (!decide (i_5 = 8)) then (some true) else
           (some false))) fun b_3 =>
         bif b_3 then (some [(.b false)]) else
         (Option.bind (F_word_To [(.s s_0)]) fun r_4 =>
          onI r_4 fun i_6 ds_18 =>
          onI ds_18 fun i_7 ds_19 =>
          bif (!decide (i_7 = 0)) then (Option.bind (bif (!decide (i_6 = 0)) then (some true) else
            (bif (!decide (i_7 = 8)) then (some true) else
             (some false))) fun b_4 =>
           bif b_4 then (some [(.b false)]) else
           (Option.bind (F_law08_works []) fun r_5 =>
            onB r_5 fun b_5 ds_20 =>
            some [(.b b_5)])) else
          (Option.bind (bif (decide (i_6 < 1)) then (some true) else
            (bif (decide (2 ≤ (i64 (i_6 - 1)))) then (some true) else
             (some false))) fun b_6 =>
           bif b_6 then (some [(.b false)]) else
           (bif (decide ((0 ≤ (i64 (i_6 - 1))) ∧ ((i64 (i_6 - 1)) < 2))) then (Option.bind (asS ([(Ax.AV.str (Ax.S.lit ([111, 110, 108, 121] : List UInt8))), (Ax.AV.str (Ax.S.lit ([109, 97, 120, 105, 109, 117, 109] : List UInt8)))])[((i64 (i_6 - 1))).toNat]?) fun s_1 =>
            Option.bind (bif (decide ((((s_0).length : Nat) : Int) = 0)) then (some true) else
             (bif (decide ((((s_1).length : Nat) : Int) < (((s_0).length : Nat) : Int))) then (some true) else
              (bif (decide ((0 ≤ (((s_0).length : Nat) : Int)) ∧ ((((s_0).length : Nat) : Int) ≤ (((s_1).length : Nat) : Int)))) then (bif (!((List.take ((((s_0).length : Nat) : Int)).toNat (List.drop 0 s_1)) == s_0)) then (some true) else
               (some false)) else none))) fun b_7 =>
            bif b_7 then (some [(.b false)]) else
            (bif (decide ((0 ≤ (i64 ((((s_0).length : Nat) : Int) - 1))) ∧ ((i64 ((((s_0).length : Nat) : Int) - 1)) ≤ (((s_0).length : Nat) : Int)))) then (Option.bind (F_word_To [(.s (List.take ((i64 ((((s_0).length : Nat) : Int) - 1))).toNat (List.drop 0 s_0)))]) fun r_6 =>
             onI r_6 fun i_8 ds_21 =>
             onI ds_21 fun i_9 ds_22 =>
             Option.bind (bif (decide (i_9 = 0)) then (bif (!decide (i_8 = i_6)) then (some true) else
               (some false)) else
              (some false)) fun b_8 =>
             bif b_8 then (some [(.b false)]) else
             (Option.bind (F_law08_works []) fun r_7 =>
              onB r_7 fun b_9 ds_23 =>
              some [(.b b_9)])) else none)) else none)))) else
        (Option.bind (bif (decide (i_4 < 0)) then (some true) else
          (bif (decide (7 ≤ (i64 (i_4 - 0)))) then (some true) else
           (some false))) fun b_10 =>
         bif b_10 then (some [(.b false)]) else
         (bif (decide ((0 ≤ (i64 (i_4 - 0))) ∧ ((i64 (i_4 - 0)) < 7))) then (Option.bind (asS ([(Ax.AV.str (Ax.S.lit ([115, 117, 110, 100, 97, 121] : List UInt8))), (Ax.AV.str (Ax.S.lit ([109, 111, 110, 100, 97, 121] : List UInt8))), (Ax.AV.str (Ax.S.lit ([116, 117, 101, 115, 100, 97, 121] : List UInt8))), (Ax.AV.str (Ax.S.lit ([119, 101, 100, 110, 101, 115, 100, 97, 121] : List UInt8))), (Ax.AV.str (Ax.S.lit ([116, 104, 117, 114, 115, 100, 97, 121] : List UInt8))), (Ax.AV.str (Ax.S.lit ([102, 114, 105, 100, 97, 121] : List UInt8))), (Ax.AV.str (Ax.S.lit ([115, 97, 116, 117, 114, 100, 97, 121] : List UInt8)))])[((i64 (i_4 - 0))).toNat]?) fun s_2 =>
          Option.bind (bif (decide ((((s_0).length : Nat) : Int) = 0)) then (some true) else
           (bif (decide ((((s_2).length : Nat) : Int) < (((s_0).length : Nat) : Int))) then (some true) else
            (bif (decide ((0 ≤ (((s_0).length : Nat) : Int)) ∧ ((((s_0).length : Nat) : Int) ≤ (((s_2).length : Nat) : Int)))) then (bif (!((List.take ((((s_0).length : Nat) : Int)).toNat (List.drop 0 s_2)) == s_0)) then (some true) else
             (some false)) else none))) fun b_11 =>
          bif b_11 then (some [(.b false)]) else
          (bif (decide ((0 ≤ (i64 ((((s_0).length : Nat) : Int) - 1))) ∧ ((i64 ((((s_0).length : Nat) : Int) - 1)) ≤ (((s_0).length : Nat) : Int)))) then (Option.bind (F_word_Week [(.s (List.take ((i64 ((((s_0).length : Nat) : Int) - 1))).toNat (List.drop 0 s_0)))]) fun r_8 =>
           onI r_8 fun i_10 ds_24 =>
           onI ds_24 fun i_11 ds_25 =>
           Option.bind (bif (decide (i_11 = 0)) then (bif (!decide (i_10 = i_4)) then (some true) else
             (some false)) else
            (some false)) fun b_12 =>
           bif b_12 then (some [(.b false)]) else
           (Option.bind (F_word_To [(.s s_0)]) fun r_9 =>
            onI r_9 fun i_12 ds_26 =>
            onI ds_26 fun i_13 ds_27 =>
            bif (!decide (i_13 = 0)) then (Option.bind (bif (!decide (i_12 = 0)) then (some true) else
              (bif (!decide (i_13 = 8)) then (some true) else
               (some false))) fun b_13 =>
             bif b_13 then (some [(.b false)]) else
             (Option.bind (F_law08_works []) fun r_10 =>
              onB r_10 fun b_14 ds_28 =>
              some [(.b b_14)])) else
            (Option.bind (bif (decide (i_12 < 1)) then (some true) else
              (bif (decide (2 ≤ (i64 (i_12 - 1)))) then (some true) else
               (some false))) fun b_15 =>
             bif b_15 then (some [(.b false)]) else
             (bif (decide ((0 ≤ (i64 (i_12 - 1))) ∧ ((i64 (i_12 - 1)) < 2))) then (Option.bind (asS ([(Ax.AV.str (Ax.S.lit ([111, 110, 108, 121] : List UInt8))), (Ax.AV.str (Ax.S.lit ([109, 97, 120, 105, 109, 117, 109] : List UInt8)))])[((i64 (i_12 - 1))).toNat]?) fun s_3 =>
              Option.bind (bif (decide ((((s_0).length : Nat) : Int) = 0)) then (some true) else
               (bif (decide ((((s_3).length : Nat) : Int) < (((s_0).length : Nat) : Int))) then (some true) else
                (bif (decide ((0 ≤ (((s_0).length : Nat) : Int)) ∧ ((((s_0).length : Nat) : Int) ≤ (((s_3).length : Nat) : Int)))) then (bif (!((List.take ((((s_0).length : Nat) : Int)).toNat (List.drop 0 s_3)) == s_0)) then (some true) else
                 (some false)) else none))) fun b_16 =>
              bif b_16 then (some [(.b false)]) else
              (bif (decide ((0 ≤ (i64 ((((s_0).length : Nat) : Int) - 1))) ∧ ((i64 ((((s_0).length : Nat) : Int) - 1)) ≤ (((s_0).length : Nat) : Int)))) then (Option.bind (F_word_To [(.s (List.take ((i64 ((((s_0).length : Nat) : Int) - 1))).toNat (List.drop 0 s_0)))]) fun r_11 =>
               onI r_11 fun i_14 ds_29 =>
               onI ds_29 fun i_15 ds_30 =>
               Option.bind (bif (decide (i_15 = 0)) then (bif (!decide (i_14 = i_12)) then (some true) else
                 (some false)) else
                (some false)) fun b_17 =>
               bif b_17 then (some [(.b false)]) else
               (Option.bind (F_law08_works []) fun r_12 =>
                onB r_12 fun b_18 ds_31 =>
                some [(.b b_18)])) else none)) else none)))) else none)) else none)))) else
      (Option.bind (bif (decide (i_2 < 1)) then (some true) else
        (bif (decide (12 ≤ (i64 (i_2 - 1)))) then (some true) else
         (some false))) fun b_19 =>
       bif b_19 then (some [(.b false)]) else
       (bif (decide ((0 ≤ (i64 (i_2 - 1))) ∧ ((i64 (i_2 - 1)) < 12))) then (Option.bind (asS ([(Ax.AV.str (Ax.S.lit ([106, 97, 110, 117, 97, 114, 121] : List UInt8))), (Ax.AV.str (Ax.S.lit ([102, 101, 98, 114, 117, 97, 114, 121] : List UInt8))), (Ax.AV.str (Ax.S.lit ([109, 97, 114, 99, 104] : List UInt8))), (Ax.AV.str (Ax.S.lit ([97, 112, 114, 105, 108] : List UInt8))), (Ax.AV.str (Ax.S.lit ([109, 97, 121] : List UInt8))), (Ax.AV.str (Ax.S.lit ([106, 117, 110, 101] : List UInt8))), (Ax.AV.str (Ax.S.lit ([106, 117, 108, 121] : List UInt8))), (Ax.AV.str (Ax.S.lit ([97, 117, 103, 117, 115, 116] : List UInt8))), (Ax.AV.str (Ax.S.lit ([115, 101, 112, 116, 101, 109, 98, 101, 114] : List UInt8))), (Ax.AV.str (Ax.S.lit ([111, 99, 116, 111, 98, 101, 114] : List UInt8))), (Ax.AV.str (Ax.S.lit ([110, 111, 118, 101, 109, 98, 101, 114] : List UInt8))), (Ax.AV.str (Ax.S.lit ([100, 101, 99, 101, 109, 98, 101, 114] : List UInt8)))])[((i64 (i_2 - 1))).toNat]?) fun s_4 =>
        Option.bind (bif (decide ((((s_0).length : Nat) : Int) = 0)) then (some true) else
         (bif (decide ((((s_4).length : Nat) : Int) < (((s_0).length : Nat) : Int))) then (some true) else
          (bif (decide ((0 ≤ (((s_0).length : Nat) : Int)) ∧ ((((s_0).length : Nat) : Int) ≤ (((s_4).length : Nat) : Int)))) then (bif (!((List.take ((((s_0).length : Nat) : Int)).toNat (List.drop 0 s_4)) == s_0)) then (some true) else
           (some false)) else none))) fun b_20 =>
        bif b_20 then (some [(.b false)]) else
        (bif (decide ((0 ≤ (i64 ((((s_0).length : Nat) : Int) - 1))) ∧ ((i64 ((((s_0).length : Nat) : Int) - 1)) ≤ (((s_0).length : Nat) : Int)))) then (Option.bind (F_word_Month [(.s (List.take ((i64 ((((s_0).length : Nat) : Int) - 1))).toNat (List.drop 0 s_0)))]) fun r_13 =>
         onI r_13 fun i_16 ds_32 =>
         onI ds_32 fun i_17 ds_33 =>
         Option.bind (bif (decide (i_17 = 0)) then (bif (!decide (i_16 = i_2)) then (some true) else
           (some false)) else
          (some false)) fun b_21 =>
         bif b_21 then (some [(.b false)]) else
         (Option.bind (F_word_Week [(.s s_0)]) fun r_14 =>
          onI r_14 fun i_18 ds_34 =>
          onI ds_34 fun i_19 ds_35 =>
          bif (!decide (i_19 = 0)) then (Option.bind (bif (!decide (i_18 = 0)) then (some true) else
            (bif (!decide (i_19 = 8)) then (some true) else
             (some false))) fun b_22 =>
           bif b_22 then (some [(.b false)]) else
           (Option.bind (F_word_To [(.s s_0)]) fun r_15 =>
            onI r_15 fun i_20 ds_36 =>
            onI ds_36 fun i_21 ds_37 =>
            bif (!decide (i_21 = 0)) then (Option.bind (bif (!decide (i_20 = 0)) then (some true) else
              (bif (!decide (i_21 = 8)) then (some true) else
               (some false))) fun b_23 =>
             bif b_23 then (some [(.b false)]) else
             (Option.bind (F_law08_works []) fun r_16 =>
              onB r_16 fun b_24 ds_38 =>
              some [(.b b_24)])) else
            (Option.bind (bif (decide (i_20 < 1)) then (some true) else
              (bif (decide (2 ≤ (i64 (i_20 - 1)))) then (some true) else
               (some false))) fun b_25 =>
             bif b_25 then (some [(.b false)]) else
             (bif (decide ((0 ≤ (i64 (i_20 - 1))) ∧ ((i64 (i_20 - 1)) < 2))) then (Option.bind (asS ([(Ax.AV.str (Ax.S.lit ([111, 110, 108, 121] : List UInt8))), (Ax.AV.str (Ax.S.lit ([109, 97, 120, 105, 109, 117, 109] : List UInt8)))])[((i64 (i_20 - 1))).toNat]?) fun s_5 =>
              Option.bind (bif (decide ((((s_0).length : Nat) : Int) = 0)) then (some true) else
               (bif (decide ((((s_5).length : Nat) : Int) < (((s_0).length : Nat) : Int))) then (some true) else
                (bif (decide ((0 ≤ (((s_0).length : Nat) : Int)) ∧ ((((s_0).length : Nat) : Int) ≤ (((s_5).length : Nat) : Int)))) then (bif (!((List.take ((((s_0).length : Nat) : Int)).toNat (List.drop 0 s_5)) == s_0)) then (some true) else
                 (some false)) else none))) fun b_26 =>
              bif b_26 then (some [(.b false)]) else
              (bif (decide ((0 ≤ (i64 ((((s_0).length : Nat) : Int) - 1))) ∧ ((i64 ((((s_0).length : Nat) : Int) - 1)) ≤ (((s_0).length : Nat) : Int)))) then (Option.bind (F_word_To [(.s (List.take ((i64 ((((s_0).length : Nat) : Int) - 1))).toNat (List.drop 0 s_0)))]) fun r_17 =>
               onI r_17 fun i_22 ds_39 =>
               onI ds_39 fun i_23 ds_40 =>
               Option.bind (bif (decide (i_23 = 0)) then (bif (!decide (i_22 = i_20)) then (some true) else
                 (some false)) else
                (some false)) fun b_27 =>
               bif b_27 then (some [(.b false)]) else
               (Option.bind (F_law08_works []) fun r_18 =>
                onB r_18 fun b_28 ds_41 =>
                some [(.b b_28)])) else none)) else none)))) else
          (Option.bind (bif (decide (i_18 < 0)) then (some true) else
            (bif (decide (7 ≤ (i64 (i_18 - 0)))) then (some true) else
             (some false))) fun b_29 =>
           bif b_29 then (some [(.b false)]) else
           (bif (decide ((0 ≤ (i64 (i_18 - 0))) ∧ ((i64 (i_18 - 0)) < 7))) then (Option.bind (asS ([(Ax.AV.str (Ax.S.lit ([115, 117, 110, 100, 97, 121] : List UInt8))), (Ax.AV.str (Ax.S.lit ([109, 111, 110, 100, 97, 121] : List UInt8))), (Ax.AV.str (Ax.S.lit ([116, 117, 101, 115, 100, 97, 121] : List UInt8))), (Ax.AV.str (Ax.S.lit ([119, 101, 100, 110, 101, 115, 100, 97, 121] : List UInt8))), (Ax.AV.str (Ax.S.lit ([116, 104, 117, 114, 115, 100, 97, 121] : List UInt8))), (Ax.AV.str (Ax.S.lit ([102, 114, 105, 100, 97, 121] : List UInt8))), (Ax.AV.str (Ax.S.lit ([115, 97, 116, 117, 114, 100, 97, 121] : List UInt8)))])[((i64 (i_18 - 0))).toNat]?) fun s_6 =>
            Option.bind (bif (decide ((((s_0).length : Nat) : Int) = 0)) then (some true) else
             (bif (decide ((((s_6).length : Nat) : Int) < (((s_0).length : Nat) : Int))) then (some true) else
              (bif (decide ((0 ≤ (((s_0).length : Nat) : Int)) ∧ ((((s_0).length : Nat) : Int) ≤ (((s_6).length : Nat) : Int)))) then (bif (!((List.take ((((s_0).length : Nat) : Int)).toNat (List.drop 0 s_6)) == s_0)) then (some true) else
               (some false)) else none))) fun b_30 =>
            bif b_30 then (some [(.b false)]) else
            (bif (decide ((0 ≤ (i64 ((((s_0).length : Nat) : Int) - 1))) ∧ ((i64 ((((s_0).length : Nat) : Int) - 1)) ≤ (((s_0).length : Nat) : Int)))) then (Option.bind (F_word_Week [(.s (List.take ((i64 ((((s_0).length : Nat) : Int) - 1))).toNat (List.drop 0 s_0)))]) fun r_19 =>
             onI r_19 fun i_24 ds_42 =>
             onI ds_42 fun i_25 ds_43 =>
             Option.bind (bif (decide (i_25 = 0)) then (bif (!decide (i_24 = i_18)) then (some true) else
               (some false)) else
              (some false)) fun b_31 =>
             bif b_31 then (some [(.b false)]) else
             (Option.bind (F_word_To [(.s s_0)]) fun r_20 =>
              onI r_20 fun i_26 ds_44 =>
              onI ds_44 fun i_27 ds_45 =>
              bif (!decide (i_27 = 0)) then (Option.bind (bif (!decide (i_26 = 0)) then (some true) else
                (bif (!decide (i_27 = 8)) then (some true) else
                 (some false))) fun b_32 =>
               bif b_32 then (some [(.b false)]) else
               (Option.bind (F_law08_works []) fun r_21 =>
                onB r_21 fun b_33 ds_46 =>
                some [(.b b_33)])) else
              (Option.bind (bif (decide (i_26 < 1)) then (some true) else
                (bif (decide (2 ≤ (i64 (i_26 - 1)))) then (some true) else
                 (some false))) fun b_34 =>
               bif b_34 then (some [(.b false)]) else
               (bif (decide ((0 ≤ (i64 (i_26 - 1))) ∧ ((i64 (i_26 - 1)) < 2))) then (Option.bind (asS ([(Ax.AV.str (Ax.S.lit ([111, 110, 108, 121] : List UInt8))), (Ax.AV.str (Ax.S.lit ([109, 97, 120, 105, 109, 117, 109] : List UInt8)))])[((i64 (i_26 - 1))).toNat]?) fun s_7 =>
                Option.bind (bif (decide ((((s_0).length : Nat) : Int) = 0)) then (some true) else
                 (bif (decide ((((s_7).length : Nat) : Int) < (((s_0).length : Nat) : Int))) then (some true) else
                  (bif (decide ((0 ≤ (((s_0).length : Nat) : Int)) ∧ ((((s_0).length : Nat) : Int) ≤ (((s_7).length : Nat) : Int)))) then (bif (!((List.take ((((s_0).length : Nat) : Int)).toNat (List.drop 0 s_7)) == s_0)) then (some true) else
                   (some false)) else none))) fun b_35 =>
                bif b_35 then (some [(.b false)]) else
                (bif (decide ((0 ≤ (i64 ((((s_0).length : Nat) : Int) - 1))) ∧ ((i64 ((((s_0).length : Nat) : Int) - 1)) ≤ (((s_0).length : Nat) : Int)))) then (Option.bind (F_word_To [(.s (List.take ((i64 ((((s_0).length : Nat) : Int) - 1))).toNat (List.drop 0 s_0)))]) fun r_22 =>
                 onI r_22 fun i_28 ds_47 =>
                 onI ds_47 fun i_29 ds_48 =>
                 Option.bind (bif (decide (i_29 = 0)) then (bif (!decide (i_28 = i_26)) then (some true) else
                   (some false)) else
                  (some false)) fun b_36 =>
                 bif b_36 then (some [(.b false)]) else
                 (Option.bind (F_law08_works []) fun r_23 =>
                  onB r_23 fun b_37 ds_49 =>
                  some [(.b b_37)])) else none)) else none)))) else none)) else none)))) else none)) else none)))) else
    (Option.bind (bif (decide (i_0 < 1)) then (some true) else
      (bif (decide (4 ≤ (i64 (i_0 - 1)))) then (some true) else
       (some false))) fun b_38 =>
     bif b_38 then (some [(.b false)]) else
     (bif (decide ((0 ≤ (i64 (i_0 - 1))) ∧ ((i64 (i_0 - 1)) < 4))) then (Option.bind (asS ([(Ax.AV.str (Ax.S.lit ([114, 117, 108, 101] : List UInt8))), (Ax.AV.str (Ax.S.lit ([122, 111, 110, 101] : List UInt8))), (Ax.AV.str (Ax.S.lit ([108, 105, 110, 107] : List UInt8))), (Ax.AV.str (Ax.S.lit ([115, 104, 105, 102, 116] : List UInt8)))])[((i64 (i_0 - 1))).toNat]?) fun s_8 =>
      Option.bind (bif (decide ((((s_0).length : Nat) : Int) = 0)) then (some true) else
       (bif (decide ((((s_8).length : Nat) : Int) < (((s_0).length : Nat) : Int))) then (some true) else
        (bif (decide ((0 ≤ (((s_0).length : Nat) : Int)) ∧ ((((s_0).length : Nat) : Int) ≤ (((s_8).length : Nat) : Int)))) then (bif (!((List.take ((((s_0).length : Nat) : Int)).toNat (List.drop 0 s_8)) == s_0)) then (some true) else
         (some false)) else none))) fun b_39 =>
      bif b_39 then (some [(.b false)]) else
      (bif (decide ((0 ≤ (i64 ((((s_0).length : Nat) : Int) - 1))) ∧ ((i64 ((((s_0).length : Nat) : Int) - 1)) ≤ (((s_0).length : Nat) : Int)))) then (Option.bind (F_word_Line [(.s (List.take ((i64 ((((s_0).length : Nat) : Int) - 1))).toNat (List.drop 0 s_0)))]) fun r_24 =>
       onI r_24 fun i_30 ds_50 =>
       onI ds_50 fun i_31 ds_51 =>
       Option.bind (bif (decide (i_31 = 0)) then (bif (!decide (i_30 = i_0)) then (some true) else
         (some false)) else
        (some false)) fun b_40 =>
       bif b_40 then (some [(.b false)]) else
       (Option.bind (F_word_Month [(.s s_0)]) fun r_25 =>
        onI r_25 fun i_32 ds_52 =>
        onI ds_52 fun i_33 ds_53 =>
        bif (!decide (i_33 = 0)) then (Option.bind (bif (!decide (i_32 = 0)) then (some true) else
          (bif (!decide (i_33 = 8)) then (some true) else
           (some false))) fun b_41 =>
         bif b_41 then (some [(.b false)]) else
         (Option.bind (F_word_Week [(.s s_0)]) fun r_26 =>
          onI r_26 fun i_34 ds_54 =>
          onI ds_54 fun i_35 ds_55 =>
          bif (!decide (i_35 = 0)) then (Option.bind (bif (!decide (i_34 = 0)) then (some true) else
            (bif (!decide (i_35 = 8)) then (some true) else
             (some false))) fun b_42 =>
           bif b_42 then (some [(.b false)]) else
           (Option.bind (F_word_To [(.s s_0)]) fun r_27 =>
            onI r_27 fun i_36 ds_56 =>
            onI ds_56 fun i_37 ds_57 =>
            bif (!decide (i_37 = 0)) then (Option.bind (bif (!decide (i_36 = 0)) then (some true) else
              (bif (!decide (i_37 = 8)) then (some true) else
               (some false))) fun b_43 =>
             bif b_43 then (some [(.b false)]) else
             (Option.bind (F_law08_works []) fun r_28 =>
              onB r_28 fun b_44 ds_58 =>
              some [(.b b_44)])) else
            (Option.bind (bif (decide (i_36 < 1)) then (some true) else
              (bif (decide (2 ≤ (i64 (i_36 - 1)))) then (some true) else
               (some false))) fun b_45 =>
             bif b_45 then (some [(.b false)]) else
             (bif (decide ((0 ≤ (i64 (i_36 - 1))) ∧ ((i64 (i_36 - 1)) < 2))) then (Option.bind (asS ([(Ax.AV.str (Ax.S.lit ([111, 110, 108, 121] : List UInt8))), (Ax.AV.str (Ax.S.lit ([109, 97, 120, 105, 109, 117, 109] : List UInt8)))])[((i64 (i_36 - 1))).toNat]?) fun s_9 =>
              Option.bind (bif (decide ((((s_0).length : Nat) : Int) = 0)) then (some true) else
               (bif (decide ((((s_9).length : Nat) : Int) < (((s_0).length : Nat) : Int))) then (some true) else
                (bif (decide ((0 ≤ (((s_0).length : Nat) : Int)) ∧ ((((s_0).length : Nat) : Int) ≤ (((s_9).length : Nat) : Int)))) then (bif (!((List.take ((((s_0).length : Nat) : Int)).toNat (List.drop 0 s_9)) == s_0)) then (some true) else
                 (some false)) else none))) fun b_46 =>
              bif b_46 then (some [(.b false)]) else
              (bif (decide ((0 ≤ (i64 ((((s_0).length : Nat) : Int) - 1))) ∧ ((i64 ((((s_0).length : Nat) : Int) - 1)) ≤ (((s_0).length : Nat) : Int)))) then (Option.bind (F_word_To [(.s (List.take ((i64 ((((s_0).length : Nat) : Int) - 1))).toNat (List.drop 0 s_0)))]) fun r_29 =>
               onI r_29 fun i_38 ds_59 =>
               onI ds_59 fun i_39 ds_60 =>
               Option.bind (bif (decide (i_39 = 0)) then (bif (!decide (i_38 = i_36)) then (some true) else
                 (some false)) else
                (some false)) fun b_47 =>
               bif b_47 then (some [(.b false)]) else
               (Option.bind (F_law08_works []) fun r_30 =>
                onB r_30 fun b_48 ds_61 =>
                some [(.b b_48)])) else none)) else none)))) else
          (Option.bind (bif (decide (i_34 < 0)) then (some true) else
            (bif (decide (7 ≤ (i64 (i_34 - 0)))) then (some true) else
             (some false))) fun b_49 =>
           bif b_49 then (some [(.b false)]) else
           (bif (decide ((0 ≤ (i64 (i_34 - 0))) ∧ ((i64 (i_34 - 0)) < 7))) then (Option.bind (asS ([(Ax.AV.str (Ax.S.lit ([115, 117, 110, 100, 97, 121] : List UInt8))), (Ax.AV.str (Ax.S.lit ([109, 111, 110, 100, 97, 121] : List UInt8))), (Ax.AV.str (Ax.S.lit ([116, 117, 101, 115, 100, 97, 121] : List UInt8))), (Ax.AV.str (Ax.S.lit ([119, 101, 100, 110, 101, 115, 100, 97, 121] : List UInt8))), (Ax.AV.str (Ax.S.lit ([116, 104, 117, 114, 115, 100, 97, 121] : List UInt8))), (Ax.AV.str (Ax.S.lit ([102, 114, 105, 100, 97, 121] : List UInt8))), (Ax.AV.str (Ax.S.lit ([115, 97, 116, 117, 114, 100, 97, 121] : List UInt8)))])[((i64 (i_34 - 0))).toNat]?) fun s_10 =>
            Option.bind (bif (decide ((((s_0).length : Nat) : Int) = 0)) then (some true) else
             (bif (decide ((((s_10).length : Nat) : Int) < (((s_0).length : Nat) : Int))) then (some true) else
              (bif (decide ((0 ≤ (((s_0).length : Nat) : Int)) ∧ ((((s_0).length : Nat) : Int) ≤ (((s_10).length : Nat) : Int)))) then (bif (!((List.take ((((s_0).length : Nat) : Int)).toNat (List.drop 0 s_10)) == s_0)) then (some true) else
               (some false)) else none))) fun b_50 =>
            bif b_50 then (some [(.b false)]) else
            (bif (decide ((0 ≤ (i64 ((((s_0).length : Nat) : Int) - 1))) ∧ ((i64 ((((s_0).length : Nat) : Int) - 1)) ≤ (((s_0).length : Nat) : Int)))) then (Option.bind (F_word_Week [(.s (List.take ((i64 ((((s_0).length : Nat) : Int) - 1))).toNat (List.drop 0 s_0)))]) fun r_31 =>
             onI r_31 fun i_40 ds_62 =>
             onI ds_62 fun i_41 ds_63 =>
             Option.bind (bif (decide (i_41 = 0)) then (bif (!decide (i_40 = i_34)) then (some true) else
               (some false)) else
              (some false)) fun b_51 =>
             bif b_51 then (some [(.b false)]) else
             (Option.bind (F_word_To [(.s s_0)]) fun r_32 =>
              onI r_32 fun i_42 ds_64 =>
              onI ds_64 fun i_43 ds_65 =>
              bif (!decide (i_43 = 0)) then (Option.bind (bif (!decide (i_42 = 0)) then (some true) else
                (bif (!decide (i_43 = 8)) then (some true) else
                 (some false))) fun b_52 =>
               bif b_52 then (some [(.b false)]) else
               (Option.bind (F_law08_works []) fun r_33 =>
                onB r_33 fun b_53 ds_66 =>
                some [(.b b_53)])) else
              (Option.bind (bif (decide (i_42 < 1)) then (some true) else
                (bif (decide (2 ≤ (i64 (i_42 - 1)))) then (some true) else
                 (some false))) fun b_54 =>
               bif b_54 then (some [(.b false)]) else
               (bif (decide ((0 ≤ (i64 (i_42 - 1))) ∧ ((i64 (i_42 - 1)) < 2))) then (Option.bind (asS ([(Ax.AV.str (Ax.S.lit ([111, 110, 108, 121] : List UInt8))), (Ax.AV.str (Ax.S.lit ([109, 97, 120, 105, 109, 117, 109] : List UInt8)))])[((i64 (i_42 - 1))).toNat]?) fun s_11 =>
                Option.bind (bif (decide ((((s_0).length : Nat) : Int) = 0)) then (some true) else
                 (bif (decide ((((s_11).length : Nat) : Int) < (((s_0).length : Nat) : Int))) then (some true) else
                  (bif (decide ((0 ≤ (((s_0).length : Nat) : Int)) ∧ ((((s_0).length : Nat) : Int) ≤ (((s_11).length : Nat) : Int)))) then (bif (!((List.take ((((s_0).length : Nat) : Int)).toNat (List.drop 0 s_11)) == s_0)) then (some true) else
                   (some false)) else none))) fun b_55 =>
                bif b_55 then (some [(.b false)]) else
                (bif (decide ((0 ≤ (i64 ((((s_0).length : Nat) : Int) - 1))) ∧ ((i64 ((((s_0).length : Nat) : Int) - 1)) ≤ (((s_0).length : Nat) : Int)))) then (Option.bind (F_word_To [(.s (List.take ((i64 ((((s_0).length : Nat) : Int) - 1))).toNat (List.drop 0 s_0)))]) fun r_34 =>
                 onI r_34 fun i_44 ds_67 =>
                 onI ds_67 fun i_45 ds_68 =>
                 Option.bind (bif (decide (i_45 = 0)) then (bif (!decide (i_44 = i_42)) then (some true) else
                   (some false)) else
                  (some false)) fun b_56 =>
                 bif b_56 then (some [(.b false)]) else
                 (Option.bind (F_law08_works []) fun r_35 =>
                  onB r_35 fun b_57 ds_69 =>
                  some [(.b b_57)])) else none)) else none)))) else none)) else none)))) else
        (Option.bind (bif (decide (i_32 < 1)) then (some true) else
          (bif (decide (12 ≤ (i64 (i_32 - 1)))) then (some true) else
           (some false))) fun b_58 =>
         bif b_58 then (some [(.b false)]) else
         (bif (decide ((0 ≤ (i64 (i_32 - 1))) ∧ ((i64 (i_32 - 1)) < 12))) then (Option.bind (asS ([(Ax.AV.str (Ax.S.lit ([106, 97, 110, 117, 97, 114, 121] : List UInt8))), (Ax.AV.str (Ax.S.lit ([102, 101, 98, 114, 117, 97, 114, 121] : List UInt8))), (Ax.AV.str (Ax.S.lit ([109, 97, 114, 99, 104] : List UInt8))), (Ax.AV.str (Ax.S.lit ([97, 112, 114, 105, 108] : List UInt8))), (Ax.AV.str (Ax.S.lit ([109, 97, 121] : List UInt8))), (Ax.AV.str (Ax.S.lit ([106, 117, 110, 101] : List UInt8))), (Ax.AV.str (Ax.S.lit ([106, 117, 108, 121] : List UInt8))), (Ax.AV.str (Ax.S.lit ([97, 117, 103, 117, 115, 116] : List UInt8))), (Ax.AV.str (Ax.S.lit ([115, 101, 112, 116, 101, 109, 98, 101, 114] : List UInt8))), (Ax.AV.str (Ax.S.lit ([111, 99, 116, 111, 98, 101, 114] : List UInt8))), (Ax.AV.str (Ax.S.lit ([110, 111, 118, 101, 109, 98, 101, 114] : List UInt8))), (Ax.AV.str (Ax.S.lit ([100, 101, 99, 101, 109, 98, 101, 114] : List UInt8)))])[((i64 (i_32 - 1))).toNat]?) fun s_12 =>
          Option.bind (bif (decide ((((s_0).length : Nat) : Int) = 0)) then (some true) else
           (bif (decide ((((s_12).length : Nat) : Int) < (((s_0).length : Nat) : Int))) then (some true) else
            (bif (decide ((0 ≤ (((s_0).length : Nat) : Int)) ∧ ((((s_0).length : Nat) : Int) ≤ (((s_12).length : Nat) : Int)))) then (bif (!((List.take ((((s_0).length : Nat) : Int)).toNat (List.drop 0 s_12)) == s_0)) then (some true) else
             (some false)) else none))) fun b_59 =>
          bif b_59 then (some [(.b false)]) else
          (bif (decide ((0 ≤ (i64 ((((s_0).length : Nat) : Int) - 1))) ∧ ((i64 ((((s_0).length : Nat) : Int) - 1)) ≤ (((s_0).length : Nat) : Int)))) then (Option.bind (F_word_Month [(.s (List.take ((i64 ((((s_0).length : Nat) : Int) - 1))).toNat (List.drop 0 s_0)))]) fun r_36 =>
           onI r_36 fun i_46 ds_70 =>
           onI ds_70 fun i_47 ds_71 =>
           Option.bind (bif (decide (i_47 = 0)) then (bif (!decide (i_46 = i_32)) then (some true) else
             (some false)) else
            (some false)) fun b_60 =>
           bif b_60 then (some [(.b false)]) else
           (Option.bind (F_word_Week [(.s s_0)]) fun r_37 =>
            onI r_37 fun i_48 ds_72 =>
            onI ds_72 fun i_49 ds_73 =>
            bif (!decide (i_49 = 0)) then (Option.bind (bif (!decide (i_48 = 0)) then (some true) else
              (bif (!decide (i_49 = 8)) then (some true) else
               (some false))) fun b_61 =>
             bif b_61 then (some [(.b false)]) else
             (Option.bind (F_word_To [(.s s_0)]) fun r_38 =>
              onI r_38 fun i_50 ds_74 =>
              onI ds_74 fun i_51 ds_75 =>
              bif (!decide (i_51 = 0)) then (Option.bind (bif (!decide (i_50 = 0)) then (some true) else
                (bif (!decide (i_51 = 8)) then (some true) else
                 (some false))) fun b_62 =>
               bif b_62 then (some [(.b false)]) else
               (Option.bind (F_law08_works []) fun r_39 =>
                onB r_39 fun b_63 ds_76 =>
                some [(.b b_63)])) else
              (Option.bind (bif (decide (i_50 < 1)) then (some true) else
                (bif (decide (2 ≤ (i64 (i_50 - 1)))) then (some true) else
                 (some false))) fun b_64 =>
               bif b_64 then (some [(.b false)]) else
               (bif (decide ((0 ≤ (i64 (i_50 - 1))) ∧ ((i64 (i_50 - 1)) < 2))) then (Option.bind (asS ([(Ax.AV.str (Ax.S.lit ([111, 110, 108, 121] : List UInt8))), (Ax.AV.str (Ax.S.lit ([109, 97, 120, 105, 109, 117, 109] : List UInt8)))])[((i64 (i_50 - 1))).toNat]?) fun s_13 =>
                Option.bind (bif (decide ((((s_0).length : Nat) : Int) = 0)) then (some true) else
                 (bif (decide ((((s_13).length : Nat) : Int) < (((s_0).length : Nat) : Int))) then (some true) else
                  (bif (decide ((0 ≤ (((s_0).length : Nat) : Int)) ∧ ((((s_0).length : Nat) : Int) ≤ (((s_13).length : Nat) : Int)))) then (bif (!((List.take ((((s_0).length : Nat) : Int)).toNat (List.drop 0 s_13)) == s_0)) then (some true) else
                   (some false)) else none))) fun b_65 =>
                bif b_65 then (some [(.b false)]) else
                (bif (decide ((0 ≤ (i64 ((((s_0).length : Nat) : Int) - 1))) ∧ ((i64 ((((s_0).length : Nat) : Int) - 1)) ≤ (((s_0).length : Nat) : Int)))) then (Option.bind (F_word_To [(.s (List.take ((i64 ((((s_0).length : Nat) : Int) - 1))).toNat (List.drop 0 s_0)))]) fun r_40 =>
                 onI r_40 fun i_52 ds_77 =>
                 onI ds_77 fun i_53 ds_78 =>
                 Option.bind (bif (decide (i_53 = 0)) then (bif (!decide (i_52 = i_50)) then (some true) else
                   (some false)) else
                  (some false)) fun b_66 =>
                 bif b_66 then (some [(.b false)]) else
                 (Option.bind (F_law08_works []) fun r_41 =>
                  onB r_41 fun b_67 ds_79 =>
                  some [(.b b_67)])) else none)) else none)))) else
            (Option.bind (bif (decide (i_48 < 0)) then (some true) else
              (bif (decide (7 ≤ (i64 (i_48 - 0)))) then (some true) else
               (some false))) fun b_68 =>
             bif b_68 then (some [(.b false)]) else
             (bif (decide ((0 ≤ (i64 (i_48 - 0))) ∧ ((i64 (i_48 - 0)) < 7))) then (Option.bind (asS ([(Ax.AV.str (Ax.S.lit ([115, 117, 110, 100, 97, 121] : List UInt8))), (Ax.AV.str (Ax.S.lit ([109, 111, 110, 100, 97, 121] : List UInt8))), (Ax.AV.str (Ax.S.lit ([116, 117, 101, 115, 100, 97, 121] : List UInt8))), (Ax.AV.str (Ax.S.lit ([119, 101, 100, 110, 101, 115, 100, 97, 121] : List UInt8))), (Ax.AV.str (Ax.S.lit ([116, 104, 117, 114, 115, 100, 97, 121] : List UInt8))), (Ax.AV.str (Ax.S.lit ([102, 114, 105, 100, 97, 121] : List UInt8))), (Ax.AV.str (Ax.S.lit ([115, 97, 116, 117, 114, 100, 97, 121] : List UInt8)))])[((i64 (i_48 - 0))).toNat]?) fun s_14 =>
              Option.bind (bif (decide ((((s_0).length : Nat) : Int) = 0)) then (some true) else
               (bif (decide ((((s_14).length : Nat) : Int) < (((s_0).length : Nat) : Int))) then (some true) else
                (bif (decide ((0 ≤ (((s_0).length : Nat) : Int)) ∧ ((((s_0).length : Nat) : Int) ≤ (((s_14).length : Nat) : Int)))) then (bif (!((List.take ((((s_0).length : Nat) : Int)).toNat (List.drop 0 s_14)) == s_0)) then (some true) else
                 (some false)) else none))) fun b_69 =>
              bif b_69 then (some [(.b false)]) else
              (bif (decide ((0 ≤ (i64 ((((s_0).length : Nat) : Int) - 1))) ∧ ((i64 ((((s_0).length : Nat) : Int) - 1)) ≤ (((s_0).length : Nat) : Int)))) then (Option.bind (F_word_Week [(.s (List.take ((i64 ((((s_0).length : Nat) : Int) - 1))).toNat (List.drop 0 s_0)))]) fun r_42 =>
               onI r_42 fun i_54 ds_80 =>
               onI ds_80 fun i_55 ds_81 =>
               Option.bind (bif (decide (i_55 = 0)) then (bif (!decide (i_54 = i_48)) then (some true) else
                 (some false)) else
                (some false)) fun b_70 =>
               bif b_70 then (some [(.b false)]) else
               (Option.bind (F_word_To [(.s s_0)]) fun r_43 =>
                onI r_43 fun i_56 ds_82 =>
                onI ds_82 fun i_57 ds_83 =>
                bif (!decide (i_57 = 0)) then (Option.bind (bif (!decide (i_56 = 0)) then (some true) else
                  (bif (!decide (i_57 = 8)) then (some true) else
                   (some false))) fun b_71 =>
                 bif b_71 then (some [(.b false)]) else
                 (Option.bind (F_law08_works []) fun r_44 =>
                  onB r_44 fun b_72 ds_84 =>
                  some [(.b b_72)])) else
                (Option.bind (bif (decide (i_56 < 1)) then (some true) else
                  (bif (decide (2 ≤ (i64 (i_56 - 1)))) then (some true) else
                   (some false))) fun b_73 =>
                 bif b_73 then (some [(.b false)]) else
                 (bif (decide ((0 ≤ (i64 (i_56 - 1))) ∧ ((i64 (i_56 - 1)) < 2))) then (Option.bind (asS ([(Ax.AV.str (Ax.S.lit ([111, 110, 108, 121] : List UInt8))), (Ax.AV.str (Ax.S.lit ([109, 97, 120, 105, 109, 117, 109] : List UInt8)))])[((i64 (i_56 - 1))).toNat]?) fun s_15 =>
                  Option.bind (bif (decide ((((s_0).length : Nat) : Int) = 0)) then (some true) else
                   (bif (decide ((((s_15).length : Nat) : Int) < (((s_0).length : Nat) : Int))) then (some true) else
                    (bif (decide ((0 ≤ (((s_0).length : Nat) : Int)) ∧ ((((s_0).length : Nat) : Int) ≤ (((s_15).length : Nat) : Int)))) then (bif (!((List.take ((((s_0).length : Nat) : Int)).toNat (List.drop 0 s_15)) == s_0)) then (some true) else
                     (some false)) else none))) fun b_74 =>
                  bif b_74 then (some [(.b false)]) else
                  (bif (decide ((0 ≤ (i64 ((((s_0).length : Nat) : Int) - 1))) ∧ ((i64 ((((s_0).length : Nat) : Int) - 1)) ≤ (((s_0).length : Nat) : Int)))) then (Option.bind (F_word_To [(.s (List.take ((i64 ((((s_0).length : Nat) : Int) - 1))).toNat (List.drop 0 s_0)))]) fun r_45 =>
                   onI r_45 fun i_58 ds_85 =>
                   onI ds_85 fun i_59 ds_86 =>
                   Option.bind (bif (decide (i_59 = 0)) then (bif (!decide (i_58 = i_56)) then (some true) else
                     (some false)) else
                    (some false)) fun b_75 =>
                   bif b_75 then (some [(.b false)]) else
                   (Option.bind (F_law08_works []) fun r_46 =>
                    onB r_46 fun b_76 ds_87 =>
                    some [(.b b_76)])) else none)) else none)))) else none)) else none)))) else none)) else none)))) else none)) else none))) else none))
noncomputable def F_law08_WordOne : List Dat → Option (List Dat) := fun ds_0 =>
  onN ds_0 fun ln_0 ds_1 =>
  onL ds_1 fun ll_0 ds_2 =>
  bif (decide (12 < ((ln_0 : Nat) : Int))) then (Option.bind (F_law08_works []) fun r_0 =>
   onB r_0 fun b_0 ds_3 =>
   some [(.b b_0)]) else
  (bif (decide ((0 ≤ ((ln_0 : Nat) : Int)) ∧ (((ln_0 : Nat) : Int) ≤ 9223372036854775807))) then (bif (decide ((0 ≤ ((ln_0 : Nat) : Int)) ∧ (((ln_0 : Nat) : Int) ≤ (((((ln_0 : Nat) : Int)).toNat : Nat) : Int)))) then (bif (decide (((((ln_0 : Nat) : Int)).toNat * 1) ≤ 140737488355328)) then (bif (List.all (Ax.listC (((ln_0 : Nat) : Int)).toNat [(Ax.AV.int .u8 (Ax.I.lit 0))]) (Ax.closedN 20)) then (iter F_law08_WordOne_L0 [(.n ln_0), (.l ll_0), (.n (((ln_0 : Nat) : Int)).toNat), (.n (((ln_0 : Nat) : Int)).toNat), (.i ((ln_0 : Nat) : Int)), (.i 0), (.l (Ax.listC (((ln_0 : Nat) : Int)).toNat [(Ax.AV.int .u8 (Ax.I.lit 0))]))]) else
   (none)) else none) else none) else none)
noncomputable def F_law08_WordNumbers : List Dat → Option (List Dat) := fun ds_0 =>
  onI ds_0 fun far_0 ds_1 =>
  Option.bind (F_word_MonthText [(.i (i64 (0 - (i64 far_0))))]) fun r_0 =>
  onS r_0 fun s_0 ds_2 =>
  bif (s_0 == ([] : List UInt8)) then (Option.bind (F_word_MonthText [(.i (i64 (13 + (i64 far_0))))]) fun r_1 =>
   onS r_1 fun s_1 ds_3 =>
   bif (s_1 == ([] : List UInt8)) then (Option.bind (F_word_WeekText [(.i (i64 ((-1) - (i64 far_0))))]) fun r_2 =>
    onS r_2 fun s_2 ds_4 =>
    bif (s_2 == ([] : List UInt8)) then (Option.bind (F_word_WeekText [(.i (i64 (7 + (i64 far_0))))]) fun r_3 =>
     onS r_3 fun s_3 ds_5 =>
     bif (s_3 == ([] : List UInt8)) then (Option.bind (F_law08_works []) fun r_4 =>
      onB r_4 fun b_0 ds_6 =>
      some [(.b b_0)]) else
     (some [(.b false)])) else
    (some [(.b false)])) else
   (some [(.b false)])) else
  (some [(.b false)])
end Go.Proofs.YtdpjkapaphelhaaDoor
