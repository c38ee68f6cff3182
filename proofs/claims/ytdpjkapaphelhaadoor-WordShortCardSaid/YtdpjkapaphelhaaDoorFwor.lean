/-
  The functions of plain data that the laws of this group reach, as the program has them.
-/
import Derived.Test.YtdpjkapaphelhaaDoorAx33
import Derived.Test.YtdpjkapaphelhaaDoorAx36
import Derived.Test.YtdpjkapaphelhaaDoorAx37
import Derived.Test.YtdpjkapaphelhaaDoorHWordFind
namespace Go.Proofs.YtdpjkapaphelhaaDoor
open Go.Ax
set_option linter.all false
set_option maxRecDepth 100000
noncomputable def F_word_Line : List Dat → Option (List Dat) := fun ds_0 =>
  onS ds_0 fun s_0 ds_1 =>
  Option.bind (wordFind [(.s ([114, 117, 108, 101] : List UInt8)), (.s ([122, 111, 110, 101] : List UInt8)), (.s ([108, 105, 110, 107] : List UInt8)), (.s ([115, 104, 105, 102, 116] : List UInt8)), (.s ([] : List UInt8)), (.s ([] : List UInt8)), (.s ([] : List UInt8)), (.s ([] : List UInt8)), (.s ([] : List UInt8)), (.s ([] : List UInt8)), (.s ([] : List UInt8)), (.s ([] : List UInt8)), (.i 1), (.s s_0)]) fun r_0 =>
  onI r_0 fun i_0 ds_2 =>
  onI ds_2 fun i_1 ds_3 =>
  some [(.i i_0), (.i i_1)]
noncomputable def F_word_Month : List Dat → Option (List Dat) := fun ds_0 =>
  onS ds_0 fun s_0 ds_1 =>
  Option.bind (wordFind [(.s ([106, 97, 110, 117, 97, 114, 121] : List UInt8)), (.s ([102, 101, 98, 114, 117, 97, 114, 121] : List UInt8)), (.s ([109, 97, 114, 99, 104] : List UInt8)), (.s ([97, 112, 114, 105, 108] : List UInt8)), (.s ([109, 97, 121] : List UInt8)), (.s ([106, 117, 110, 101] : List UInt8)), (.s ([106, 117, 108, 121] : List UInt8)), (.s ([97, 117, 103, 117, 115, 116] : List UInt8)), (.s ([115, 101, 112, 116, 101, 109, 98, 101, 114] : List UInt8)), (.s ([111, 99, 116, 111, 98, 101, 114] : List UInt8)), (.s ([110, 111, 118, 101, 109, 98, 101, 114] : List UInt8)), (.s ([100, 101, 99, 101, 109, 98, 101, 114] : List UInt8)), (.i 1), (.s s_0)]) fun r_0 =>
  onI r_0 fun i_0 ds_2 =>
  onI ds_2 fun i_1 ds_3 =>
  some [(.i i_0), (.i i_1)]
noncomputable def F_word_Week : List Dat → Option (List Dat) := fun ds_0 =>
  onS ds_0 fun s_0 ds_1 =>
  Option.bind (wordFind [(.s ([115, 117, 110, 100, 97, 121] : List UInt8)), (.s ([109, 111, 110, 100, 97, 121] : List UInt8)), (.s ([116, 117, 101, 115, 100, 97, 121] : List UInt8)), (.s ([119, 101, 100, 110, 101, 115, 100, 97, 121] : List UInt8)), (.s ([116, 104, 117, 114, 115, 100, 97, 121] : List UInt8)), (.s ([102, 114, 105, 100, 97, 121] : List UInt8)), (.s ([115, 97, 116, 117, 114, 100, 97, 121] : List UInt8)), (.s ([] : List UInt8)), (.s ([] : List UInt8)), (.s ([] : List UInt8)), (.s ([] : List UInt8)), (.s ([] : List UInt8)), (.i 0), (.s s_0)]) fun r_0 =>
  onI r_0 fun i_0 ds_2 =>
  onI ds_2 fun i_1 ds_3 =>
  some [(.i i_0), (.i i_1)]
noncomputable def F_word_To : List Dat → Option (List Dat) := fun ds_0 =>
  onS ds_0 fun s_0 ds_1 =>
  Option.bind (wordFind [(.s ([111, 110, 108, 121] : List UInt8)), (.s ([109, 97, 120, 105, 109, 117, 109] : List UInt8)), (.s ([] : List UInt8)), (.s ([] : List UInt8)), (.s ([] : List UInt8)), (.s ([] : List UInt8)), (.s ([] : List UInt8)), (.s ([] : List UInt8)), (.s ([] : List UInt8)), (.s ([] : List UInt8)), (.s ([] : List UInt8)), (.s ([] : List UInt8)), (.i 1), (.s s_0)]) fun r_0 =>
  onI r_0 fun i_0 ds_2 =>
  onI ds_2 fun i_1 ds_3 =>
  some [(.i i_0), (.i i_1)]
noncomputable def F_word_short : List Dat → Option (List Dat) := fun ds_0 =>
  onS ds_0 fun l_0 ds_1 =>
  onS ds_1 fun l_1 ds_2 =>
  onS ds_2 fun l_2 ds_3 =>
  onS ds_3 fun l_3 ds_4 =>
  onS ds_4 fun l_4 ds_5 =>
  onS ds_5 fun l_5 ds_6 =>
  onS ds_6 fun l_6 ds_7 =>
  onS ds_7 fun l_7 ds_8 =>
  onS ds_8 fun l_8 ds_9 =>
  onS ds_9 fun l_9 ds_10 =>
  onS ds_10 fun l_10 ds_11 =>
  onS ds_11 fun l_11 ds_12 =>
  onI ds_12 fun i_0 ds_13 =>
  Option.bind (bif (decide (i_0 < 0)) then (some true) else
   (bif (decide (12 ≤ i_0)) then (some true) else
    (bif (decide ((0 ≤ i_0) ∧ (i_0 < 12))) then (Option.bind (asS ([(Ax.AV.str (Ax.S.sym l_0)), (Ax.AV.str (Ax.S.sym l_1)), (Ax.AV.str (Ax.S.sym l_2)), (Ax.AV.str (Ax.S.sym l_3)), (Ax.AV.str (Ax.S.sym l_4)), (Ax.AV.str (Ax.S.sym l_5)), (Ax.AV.str (Ax.S.sym l_6)), (Ax.AV.str (Ax.S.sym l_7)), (Ax.AV.str (Ax.S.sym l_8)), (Ax.AV.str (Ax.S.sym l_9)), (Ax.AV.str (Ax.S.sym l_10)), (Ax.AV.str (Ax.S.sym l_11))])[(i_0).toNat]?) fun s_0 =>
     bif (s_0 == ([] : List UInt8)) then (some true) else
     (some false)) else none))) fun b_0 =>
  bif b_0 then (some [(.s ([] : List UInt8))]) else
  (bif (decide ((0 ≤ i_0) ∧ (i_0 < 12))) then (Option.bind (asS ([(Ax.AV.str (Ax.S.sym l_0)), (Ax.AV.str (Ax.S.sym l_1)), (Ax.AV.str (Ax.S.sym l_2)), (Ax.AV.str (Ax.S.sym l_3)), (Ax.AV.str (Ax.S.sym l_4)), (Ax.AV.str (Ax.S.sym l_5)), (Ax.AV.str (Ax.S.sym l_6)), (Ax.AV.str (Ax.S.sym l_7)), (Ax.AV.str (Ax.S.sym l_8)), (Ax.AV.str (Ax.S.sym l_9)), (Ax.AV.str (Ax.S.sym l_10)), (Ax.AV.str (Ax.S.sym l_11))])[(i_0).toNat]?) fun s_1 =>
   bif (decide (((0 : Int) ≤ 0) ∧ (0 < (((s_1).length : Nat) : Int)))) then (bif (decide ((0 ≤ i_0) ∧ (i_0 < 12))) then (Option.bind (asS ([(Ax.AV.str (Ax.S.sym l_0)), (Ax.AV.str (Ax.S.sym l_1)), (Ax.AV.str (Ax.S.sym l_2)), (Ax.AV.str (Ax.S.sym l_3)), (Ax.AV.str (Ax.S.sym l_4)), (Ax.AV.str (Ax.S.sym l_5)), (Ax.AV.str (Ax.S.sym l_6)), (Ax.AV.str (Ax.S.sym l_7)), (Ax.AV.str (Ax.S.sym l_8)), (Ax.AV.str (Ax.S.sym l_9)), (Ax.AV.str (Ax.S.sym l_10)), (Ax.AV.str (Ax.S.sym l_11))])[(i_0).toNat]?) fun s_2 =>
   bif (decide (((0 : Int) ≤ 3) ∧ (3 ≤ (((s_2).length : Nat) : Int)))) then (bif (decide ((((Array.toList (ByteArray.data (Go.Utf8.encode (u8 ((u8 (((((List.getD s_1 0 0)).toNat : Nat) : Int) - 97)) + 65)))))).length + ((List.take 2 (List.drop 1 s_2))).length) ≤ 9223372036854775807)) then (some [(.s ((Array.toList (ByteArray.data (Go.Utf8.encode (u8 ((u8 (((((List.getD s_1 0 0)).toNat : Nat) : Int) - 97)) + 65))))) ++ (List.take 2 (List.drop 1 s_2))))]) else none) else none) else none) else none) else none)
noncomputable def F_word_MonthText : List Dat → Option (List Dat) := fun ds_0 =>
  onI ds_0 fun m_0 ds_1 =>
  Option.bind (F_word_short [(.s ([106, 97, 110, 117, 97, 114, 121] : List UInt8)), (.s ([102, 101, 98, 114, 117, 97, 114, 121] : List UInt8)), (.s ([109, 97, 114, 99, 104] : List UInt8)), (.s ([97, 112, 114, 105, 108] : List UInt8)), (.s ([109, 97, 121] : List UInt8)), (.s ([106, 117, 110, 101] : List UInt8)), (.s ([106, 117, 108, 121] : List UInt8)), (.s ([97, 117, 103, 117, 115, 116] : List UInt8)), (.s ([115, 101, 112, 116, 101, 109, 98, 101, 114] : List UInt8)), (.s ([111, 99, 116, 111, 98, 101, 114] : List UInt8)), (.s ([110, 111, 118, 101, 109, 98, 101, 114] : List UInt8)), (.s ([100, 101, 99, 101, 109, 98, 101, 114] : List UInt8)), (.i (i64 (m_0 - 1)))]) fun r_0 =>
  onS r_0 fun s_0 ds_2 =>
  some [(.s s_0)]
noncomputable def F_word_WeekText : List Dat → Option (List Dat) := fun ds_0 =>
  onI ds_0 fun w_0 ds_1 =>
  Option.bind (F_word_short [(.s ([115, 117, 110, 100, 97, 121] : List UInt8)), (.s ([109, 111, 110, 100, 97, 121] : List UInt8)), (.s ([116, 117, 101, 115, 100, 97, 121] : List UInt8)), (.s ([119, 101, 100, 110, 101, 115, 100, 97, 121] : List UInt8)), (.s ([116, 104, 117, 114, 115, 100, 97, 121] : List UInt8)), (.s ([102, 114, 105, 100, 97, 121] : List UInt8)), (.s ([115, 97, 116, 117, 114, 100, 97, 121] : List UInt8)), (.s ([] : List UInt8)), (.s ([] : List UInt8)), (.s ([] : List UInt8)), (.s ([] : List UInt8)), (.s ([] : List UInt8)), (.i w_0)]) fun r_0 =>
  onS r_0 fun s_0 ds_2 =>
  some [(.s s_0)]
noncomputable def F_law08_works : List Dat → Option (List Dat) := fun _ => some [.b true]
noncomputable def F_ref08_lines : List Dat → Option (List Dat) := fun ds_0 =>
  some [(.n 4), (.l [(Ax.AV.str (Ax.S.lit ([114, 117, 108, 101] : List UInt8))), (Ax.AV.str (Ax.S.lit ([122, 111, 110, 101] : List UInt8))), (Ax.AV.str (Ax.S.lit ([108, 105, 110, 107] : List UInt8))), (Ax.AV.str (Ax.S.lit ([115, 104, 105, 102, 116] : List UInt8)))])]
noncomputable def F_ref08_small_L0 : List Dat → Option (List Dat ⊕ List Dat) := fun ds_2 =>
  onS ds_2 fun s_1 ds_3 =>
  onN ds_3 fun outn_0 ds_4 =>
  onI ds_4 fun i_0 ds_5 =>
  onL ds_5 fun cells_0 ds_6 =>
  bif (decide (i_0 < (((s_1).length : Nat) : Int))) then (bif (decide ((0 ≤ i_0) ∧ (i_0 < (((s_1).length : Nat) : Int)))) then (Option.bind (bif (decide (65 ≤ ((((List.getD s_1 (i_0).toNat 0)).toNat : Nat) : Int))) then (bif (decide (((((List.getD s_1 (i_0).toNat 0)).toNat : Nat) : Int) ≤ 90)) then (some true) else
     (some false)) else
    (some false)) fun b_0 =>
   bif b_0 then (bif (decide ((cells_0).length = outn_0)) then (bif (decide (((outn_0 + 1) * 1) ≤ 140737488355328)) then (bif (List.all (cells_0 ++ [(Ax.AV.int .u8 (Ax.I.sym (u8 ((u8 (((((List.getD s_1 (i_0).toNat 0)).toNat : Nat) : Int) + 97)) - 65))))]) (Ax.closedN 20)) then (some (.inl [(.s s_1), (.n (outn_0 + 1)), (.i (i64 (i_0 + 1))), (.l (cells_0 ++ [(Ax.AV.int .u8 (Ax.I.sym (u8 ((u8 (((((List.getD s_1 (i_0).toNat 0)).toNat : Nat) : Int) + 97)) - 65))))]))])) else
    (none)) else none) else none) else
   (bif (decide ((cells_0).length = outn_0)) then (bif (decide (((outn_0 + 1) * 1) ≤ 140737488355328)) then (bif (List.all (cells_0 ++ [(Ax.AV.int .u8 (Ax.I.sym ((((List.getD s_1 (i_0).toNat 0)).toNat : Nat) : Int)))]) (Ax.closedN 20)) then (some (.inl [(.s s_1), (.n (outn_0 + 1)), (.i (i64 (i_0 + 1))), (.l (cells_0 ++ [(Ax.AV.int .u8 (Ax.I.sym ((((List.getD s_1 (i_0).toNat 0)).toNat : Nat) : Int)))]))])) else
    (none)) else none) else none)) else none) else
  (Option.map .inr (bif (decide ((cells_0).length = outn_0)) then (Option.bind (bytesOf cells_0) fun s_2 =>
    some [(.s s_2)]) else none))
noncomputable def F_ref08_small : List Dat → Option (List Dat) := fun ds_0 =>
  onS ds_0 fun s_0 ds_1 =>
  iter F_ref08_small_L0 [(.s s_0), (.n 0), (.i 0), (.l [])]
noncomputable def F_ref08_find_L0 : List Dat → Option (List Dat ⊕ List Dat) := fun ds_5 =>
  onN ds_5 fun ln_1 ds_6 =>
  onL ds_6 fun ll_1 ds_7 =>
  onS ds_7 fun s_2 ds_8 =>
  onI ds_8 fun found_0 ds_9 =>
  onI ds_9 fun n_0 ds_10 =>
  onI ds_10 fun i_0 ds_11 =>
  bif (decide (i_0 < ((ln_1 : Nat) : Int))) then (bif (decide ((0 ≤ i_0) ∧ (i_0 < ((ln_1 : Nat) : Int)))) then (Option.bind (asS (ll_1)[(i_0).toNat]?) fun s_3 =>
   bif (s_3 == s_2) then (Option.map .inr (some [(.i i_0), (.i 0)])) else
   (Option.bind (bif (!(s_2 == ([] : List UInt8))) then (bif (decide ((0 ≤ i_0) ∧ (i_0 < ((ln_1 : Nat) : Int)))) then (Option.bind (asS (ll_1)[(i_0).toNat]?) fun s_4 =>
      bif (decide ((((s_2).length : Nat) : Int) < (((s_4).length : Nat) : Int))) then (bif (decide ((0 ≤ i_0) ∧ (i_0 < ((ln_1 : Nat) : Int)))) then (Option.bind (asS (ll_1)[(i_0).toNat]?) fun s_5 =>
       bif (decide ((0 ≤ (((s_2).length : Nat) : Int)) ∧ ((((s_2).length : Nat) : Int) ≤ (((s_5).length : Nat) : Int)))) then (bif ((List.take ((((s_2).length : Nat) : Int)).toNat (List.drop 0 s_5)) == s_2) then (some true) else
       (some false)) else none) else none) else
      (some false)) else none) else
     (some false)) fun b_0 =>
    bif b_0 then (some (.inl [(.n ln_1), (.l ll_1), (.s s_2), (.i i_0), (.i (i64 (n_0 + 1))), (.i (i64 (i_0 + 1)))])) else
    (some (.inl [(.n ln_1), (.l ll_1), (.s s_2), (.i found_0), (.i n_0), (.i (i64 (i_0 + 1)))])))) else none) else
  (Option.map .inr (bif (!decide (n_0 = 1)) then (some [(.i 0), (.i 8)]) else
    (some [(.i found_0), (.i 0)])))
noncomputable def F_ref08_find : List Dat → Option (List Dat) := fun ds_0 =>
  onN ds_0 fun ln_0 ds_1 =>
  onL ds_1 fun ll_0 ds_2 =>
  onS ds_2 fun s_0 ds_3 =>
  Option.bind (F_ref08_small [(.s s_0)]) fun r_0 =>
  onS r_0 fun s_1 ds_4 =>
  iter F_ref08_find_L0 [(.n ln_0), (.l ll_0), (.s s_1), (.i (-1)), (.i 0), (.i 0)]
noncomputable def F_ref08_more : List Dat → Option (List Dat) := fun ds_0 =>
  onI ds_0 fun n_0 ds_1 =>
  onI ds_1 fun e_0 ds_2 =>
  bif (!decide (e_0 = 0)) then (some [(.i 0), (.i e_0)]) else
  (some [(.i (i64 (n_0 + 1))), (.i 0)])
noncomputable def F_ref08_Line : List Dat → Option (List Dat) := fun ds_0 =>
  onS ds_0 fun s_0 ds_1 =>
  Option.bind (F_ref08_lines []) fun r_0 =>
  onN r_0 fun n_0 ds_2 =>
  onL ds_2 fun l_0 ds_3 =>
  Option.bind (F_ref08_find [(.n n_0), (.l l_0), (.s s_0)]) fun r_1 =>
  onI r_1 fun i_0 ds_4 =>
  onI ds_4 fun i_1 ds_5 =>
  Option.bind (F_ref08_more [(.i i_0), (.i i_1)]) fun r_2 =>
  onI r_2 fun i_2 ds_6 =>
  onI ds_6 fun i_3 ds_7 =>
  some [(.i i_2), (.i i_3)]
noncomputable def F_ref08_months : List Dat → Option (List Dat) := fun ds_0 =>
  some [(.n 12), (.l [(Ax.AV.str (Ax.S.lit ([106, 97, 110, 117, 97, 114, 121] : List UInt8))), (Ax.AV.str (Ax.S.lit ([102, 101, 98, 114, 117, 97, 114, 121] : List UInt8))), (Ax.AV.str (Ax.S.lit ([109, 97, 114, 99, 104] : List UInt8))), (Ax.AV.str (Ax.S.lit ([97, 112, 114, 105, 108] : List UInt8))), (Ax.AV.str (Ax.S.lit ([109, 97, 121] : List UInt8))), (Ax.AV.str (Ax.S.lit ([106, 117, 110, 101] : List UInt8))), (Ax.AV.str (Ax.S.lit ([106, 117, 108, 121] : List UInt8))), (Ax.AV.str (Ax.S.lit ([97, 117, 103, 117, 115, 116] : List UInt8))), (Ax.AV.str (Ax.S.lit ([115, 101, 112, 116, 101, 109, 98, 101, 114] : List UInt8))), (Ax.AV.str (Ax.S.lit ([111, 99, 116, 111, 98, 101, 114] : List UInt8))), (Ax.AV.str (Ax.S.lit ([110, 111, 118, 101, 109, 98, 101, 114] : List UInt8))), (Ax.AV.str (Ax.S.lit ([100, 101, 99, 101, 109, 98, 101, 114] : List UInt8)))])]
noncomputable def F_ref08_Month : List Dat → Option (List Dat) := fun ds_0 =>
  onS ds_0 fun s_0 ds_1 =>
  Option.bind (F_ref08_months []) fun r_0 =>
  onN r_0 fun n_0 ds_2 =>
  onL ds_2 fun l_0 ds_3 =>
  Option.bind (F_ref08_find [(.n n_0), (.l l_0), (.s s_0)]) fun r_1 =>
  onI r_1 fun i_0 ds_4 =>
  onI ds_4 fun i_1 ds_5 =>
  Option.bind (F_ref08_more [(.i i_0), (.i i_1)]) fun r_2 =>
  onI r_2 fun i_2 ds_6 =>
  onI ds_6 fun i_3 ds_7 =>
  some [(.i i_2), (.i i_3)]
noncomputable def F_ref08_weeks : List Dat → Option (List Dat) := fun ds_0 =>
  some [(.n 7), (.l [(Ax.AV.str (Ax.S.lit ([115, 117, 110, 100, 97, 121] : List UInt8))), (Ax.AV.str (Ax.S.lit ([109, 111, 110, 100, 97, 121] : List UInt8))), (Ax.AV.str (Ax.S.lit ([116, 117, 101, 115, 100, 97, 121] : List UInt8))), (Ax.AV.str (Ax.S.lit ([119, 101, 100, 110, 101, 115, 100, 97, 121] : List UInt8))), (Ax.AV.str (Ax.S.lit ([116, 104, 117, 114, 115, 100, 97, 121] : List UInt8))), (Ax.AV.str (Ax.S.lit ([102, 114, 105, 100, 97, 121] : List UInt8))), (Ax.AV.str (Ax.S.lit ([115, 97, 116, 117, 114, 100, 97, 121] : List UInt8)))])]
noncomputable def F_ref08_Week : List Dat → Option (List Dat) := fun ds_0 =>
  onS ds_0 fun s_0 ds_1 =>
  Option.bind (F_ref08_weeks []) fun r_0 =>
  onN r_0 fun n_0 ds_2 =>
  onL ds_2 fun l_0 ds_3 =>
  Option.bind (F_ref08_find [(.n n_0), (.l l_0), (.s s_0)]) fun r_1 =>
  onI r_1 fun i_0 ds_4 =>
  onI ds_4 fun i_1 ds_5 =>
  some [(.i i_0), (.i i_1)]
noncomputable def F_ref08_years : List Dat → Option (List Dat) := fun ds_0 =>
  some [(.n 2), (.l [(Ax.AV.str (Ax.S.lit ([111, 110, 108, 121] : List UInt8))), (Ax.AV.str (Ax.S.lit ([109, 97, 120, 105, 109, 117, 109] : List UInt8)))])]
noncomputable def F_ref08_To : List Dat → Option (List Dat) := fun ds_0 =>
  onS ds_0 fun s_0 ds_1 =>
  Option.bind (F_ref08_years []) fun r_0 =>
  onN r_0 fun n_0 ds_2 =>
  onL ds_2 fun l_0 ds_3 =>
  Option.bind (F_ref08_find [(.n n_0), (.l l_0), (.s s_0)]) fun r_1 =>
  onI r_1 fun i_0 ds_4 =>
  onI ds_4 fun i_1 ds_5 =>
  Option.bind (F_ref08_more [(.i i_0), (.i i_1)]) fun r_2 =>
  onI r_2 fun i_2 ds_6 =>
  onI ds_6 fun i_3 ds_7 =>
  some [(.i i_2), (.i i_3)]
noncomputable def F_law08_WordFinds : List Dat → Option (List Dat) := fun ds_0 =>
  onS ds_0 fun s_0 ds_1 =>
  bif (decide (1000 < (((s_0).length : Nat) : Int))) then (Option.bind (F_law08_works []) fun r_0 =>
   onB r_0 fun b_0 ds_2 =>
   some [(.b b_0)]) else
  (Option.bind (F_word_Line [(.s s_0)]) fun r_1 =>
   onI r_1 fun i_0 ds_3 =>
   onI ds_3 fun i_1 ds_4 =>
   Option.bind (F_ref08_Line [(.s s_0)]) fun r_2 =>
   onI r_2 fun i_2 ds_5 =>
   onI ds_5 fun i_3 ds_6 =>
   Option.bind (F_word_Month [(.s s_0)]) fun r_3 =>
   onI r_3 fun i_4 ds_7 =>
   onI ds_7 fun i_5 ds_8 =>
   Option.bind (F_ref08_Month [(.s s_0)]) fun r_4 =>
   onI r_4 fun i_6 ds_9 =>
   onI ds_9 fun i_7 ds_10 =>
   Option.bind (bif (!decide (i_0 = i_2)) then (some true) else
    (bif (!decide (i_1 = i_3)) then (some true) else
     (bif (!decide (i_4 = i_6)) then (some true) else
      (bif (!decide (i_5 = i_7)) then (some true) else
       (some false))))) fun b_1 =>
   bif b_1 then (some [(.b false)]) else
   (Option.bind (F_word_Week [(.s s_0)]) fun r_5 =>
    onI r_5 fun i_8 ds_11 =>
    onI ds_11 fun i_9 ds_12 =>
    Option.bind (F_ref08_Week [(.s s_0)]) fun r_6 =>
    onI r_6 fun i_10 ds_13 =>
    onI ds_13 fun i_11 ds_14 =>
    Option.bind (F_word_To [(.s s_0)]) fun r_7 =>
    onI r_7 fun i_12 ds_15 =>
    onI ds_15 fun i_13 ds_16 =>
    Option.bind (F_ref08_To [(.s s_0)]) fun r_8 =>
    onI r_8 fun i_14 ds_17 =>
    onI ds_17 fun i_15 ds_18 =>
    bif (decide (i_8 = i_10)) then (bif (decide (i_9 = i_11)) then (bif (decide (i_12 = i_14)) then (bif (decide (i_13 = i_15)) then (Option.bind (F_law08_works []) fun r_9 =>
        onB r_9 fun b_2 ds_19 =>
        some [(.b b_2)]) else
       (some [(.b false)])) else
      (some [(.b false)])) else
     (some [(.b false)])) else
    (some [(.b false)])))
noncomputable def F_ref08_short : List Dat → Option (List Dat) := fun ds_0 =>
  onS ds_0 fun s_0 ds_1 =>
  bif (decide (((0 : Int) ≤ 0) ∧ (0 < (((s_0).length : Nat) : Int)))) then (Option.bind (bytesOf [(Ax.AV.int .u8 (Ax.I.sym (u8 ((u8 (((((List.getD s_0 0 0)).toNat : Nat) : Int) - 97)) + 65))))]) fun s_1 =>
  bif (decide (((0 : Int) ≤ 3) ∧ (3 ≤ (((s_0).length : Nat) : Int)))) then (bif (decide (((s_1).length + ((List.take 2 (List.drop 1 s_0))).length) ≤ 9223372036854775807)) then (some [(.s (s_1 ++ (List.take 2 (List.drop 1 s_0))))]) else none) else none) else none
noncomputable def F_ref08_MonthText : List Dat → Option (List Dat) := fun ds_0 =>
  onI ds_0 fun m_0 ds_1 =>
  Option.bind (bif (decide (m_0 < 1)) then (some true) else
   (bif (decide (12 < m_0)) then (some true) else
    (some false))) fun b_0 =>
  bif b_0 then (some [(.s ([] : List UInt8))]) else
  (Option.bind (F_ref08_months []) fun r_0 =>
   onN r_0 fun n_0 ds_2 =>
   onL ds_2 fun l_0 ds_3 =>
   bif (decide ((0 ≤ (i64 (m_0 - 1))) ∧ ((i64 (m_0 - 1)) < ((n_0 : Nat) : Int)))) then (Option.bind (asS (l_0)[((i64 (m_0 - 1))).toNat]?) fun s_0 =>
   Option.bind (F_ref08_short [(.s s_0)]) fun r_1 =>
   onS r_1 fun s_1 ds_4 =>
   some [(.s s_1)]) else none)
noncomputable def F_ref08_WeekText : List Dat → Option (List Dat) := fun ds_0 =>
  onI ds_0 fun w_0 ds_1 =>
  Option.bind (bif (decide (w_0 < 0)) then (some true) else
   (bif (decide (6 < w_0)) then (some true) else
    (some false))) fun b_0 =>
  bif b_0 then (some [(.s ([] : List UInt8))]) else
  (Option.bind (F_ref08_weeks []) fun r_0 =>
   onN r_0 fun n_0 ds_2 =>
   onL ds_2 fun l_0 ds_3 =>
   bif (decide ((0 ≤ w_0) ∧ (w_0 < ((n_0 : Nat) : Int)))) then (Option.bind (asS (l_0)[(w_0).toNat]?) fun s_0 =>
   Option.bind (F_ref08_short [(.s s_0)]) fun r_1 =>
   onS r_1 fun s_1 ds_4 =>
   some [(.s s_1)]) else none)
noncomputable def F_law08_WordTexts : List Dat → Option (List Dat) := fun ds_0 =>
  onI ds_0 fun n_0 ds_1 =>
  Option.bind (F_word_MonthText [(.i n_0)]) fun r_0 =>
  onS r_0 fun s_0 ds_2 =>
  Option.bind (F_ref08_MonthText [(.i n_0)]) fun r_1 =>
  onS r_1 fun s_1 ds_3 =>
  bif (s_0 == s_1) then (Option.bind (F_word_WeekText [(.i n_0)]) fun r_2 =>
   onS r_2 fun s_2 ds_4 =>
   Option.bind (F_ref08_WeekText [(.i n_0)]) fun r_3 =>
   onS r_3 fun s_3 ds_5 =>
   bif (s_2 == s_3) then (Option.bind (F_law08_works []) fun r_4 =>
    onB r_4 fun b_0 ds_6 =>
    some [(.b b_0)]) else
   (some [(.b false)])) else
  (some [(.b false)])
noncomputable def F_law08_lists : List Dat → Option (List Dat) := fun ds_0 =>
  some [(.n 4), (.l [(Ax.AV.list (Ax.N.lit 4) true [(Ax.AV.str (Ax.S.lit ([114, 117, 108, 101] : List UInt8))), (Ax.AV.str (Ax.S.lit ([122, 111, 110, 101] : List UInt8))), (Ax.AV.str (Ax.S.lit ([108, 105, 110, 107] : List UInt8))), (Ax.AV.str (Ax.S.lit ([115, 104, 105, 102, 116] : List UInt8)))]), (Ax.AV.func 26 [] []), (Ax.AV.int .i64 (Ax.I.lit 1)), (Ax.AV.list (Ax.N.lit 12) true [(Ax.AV.str (Ax.S.lit ([106, 97, 110, 117, 97, 114, 121] : List UInt8))), (Ax.AV.str (Ax.S.lit ([102, 101, 98, 114, 117, 97, 114, 121] : List UInt8))), (Ax.AV.str (Ax.S.lit ([109, 97, 114, 99, 104] : List UInt8))), (Ax.AV.str (Ax.S.lit ([97, 112, 114, 105, 108] : List UInt8))), (Ax.AV.str (Ax.S.lit ([109, 97, 121] : List UInt8))), (Ax.AV.str (Ax.S.lit ([106, 117, 110, 101] : List UInt8))), (Ax.AV.str (Ax.S.lit ([106, 117, 108, 121] : List UInt8))), (Ax.AV.str (Ax.S.lit ([97, 117, 103, 117, 115, 116] : List UInt8))), (Ax.AV.str (Ax.S.lit ([115, 101, 112, 116, 101, 109, 98, 101, 114] : List UInt8))), (Ax.AV.str (Ax.S.lit ([111, 99, 116, 111, 98, 101, 114] : List UInt8))), (Ax.AV.str (Ax.S.lit ([110, 111, 118, 101, 109, 98, 101, 114] : List UInt8))), (Ax.AV.str (Ax.S.lit ([100, 101, 99, 101, 109, 98, 101, 114] : List UInt8)))]), (Ax.AV.func 28 [] []), (Ax.AV.int .i64 (Ax.I.lit 1)), (Ax.AV.list (Ax.N.lit 7) true [(Ax.AV.str (Ax.S.lit ([115, 117, 110, 100, 97, 121] : List UInt8))), (Ax.AV.str (Ax.S.lit ([109, 111, 110, 100, 97, 121] : List UInt8))), (Ax.AV.str (Ax.S.lit ([116, 117, 101, 115, 100, 97, 121] : List UInt8))), (Ax.AV.str (Ax.S.lit ([119, 101, 100, 110, 101, 115, 100, 97, 121] : List UInt8))), (Ax.AV.str (Ax.S.lit ([116, 104, 117, 114, 115, 100, 97, 121] : List UInt8))), (Ax.AV.str (Ax.S.lit ([102, 114, 105, 100, 97, 121] : List UInt8))), (Ax.AV.str (Ax.S.lit ([115, 97, 116, 117, 114, 100, 97, 121] : List UInt8)))]), (Ax.AV.func 30 [] []), (Ax.AV.int .i64 (Ax.I.lit 0)), (Ax.AV.list (Ax.N.lit 2) true [(Ax.AV.str (Ax.S.lit ([111, 110, 108, 121] : List UInt8))), (Ax.AV.str (Ax.S.lit ([109, 97, 120, 105, 109, 117, 109] : List UInt8)))]), (Ax.AV.func 32 [] []), (Ax.AV.int .i64 (Ax.I.lit 1))])]
noncomputable def F_law08_cased_L0 : List Dat → Option (List Dat ⊕ List Dat) := fun ds_3 =>
  onI ds_3 fun bits_1 ds_4 =>
  onN ds_4 fun bn_0 ds_5 =>
  onI ds_5 fun v_0 ds_6 =>
  onI ds_6 fun v_1 ds_7 =>
  onL ds_7 fun cells_0 ds_8 =>
  bif (decide (v_1 < v_0)) then (Option.bind (bif (decide (0 ≤ (Int.tmod v_1 16))) then (bif (decide ((arith .and .u16 (arith .shr .u16 bits_1 (Int.tmod v_1 16)) 1) = 1)) then (bif (decide ((0 ≤ v_1) ∧ (v_1 < ((bn_0 : Nat) : Int)))) then (Option.bind (asI .u8 (cells_0)[(v_1).toNat]?) fun x_0 =>
     bif (decide (97 ≤ x_0)) then (bif (decide ((0 ≤ v_1) ∧ (v_1 < ((bn_0 : Nat) : Int)))) then (Option.bind (asI .u8 (cells_0)[(v_1).toNat]?) fun x_1 =>
      bif (decide (x_1 ≤ 122)) then (some true) else
      (some false)) else none) else
     (some false)) else none) else
    (some false)) else none) fun b_0 =>
   bif b_0 then (bif (decide ((0 ≤ v_1) ∧ (v_1 < ((bn_0 : Nat) : Int)))) then (Option.bind (asI .u8 (cells_0)[(v_1).toNat]?) fun x_2 =>
    bif (decide ((0 ≤ v_1) ∧ (v_1 < ((bn_0 : Nat) : Int)))) then (bif (decide (((v_1).toNat + 1) ≤ (cells_0).length)) then (bif (decide (([(Ax.AV.int .u8 (Ax.I.sym (u8 (x_2 - 32))))]).length = 1)) then (bif (List.all (Ax.write cells_0 (v_1).toNat [(Ax.AV.int .u8 (Ax.I.sym (u8 (x_2 - 32))))]) (Ax.closedN 20)) then (some (.inl [(.i bits_1), (.n bn_0), (.i v_0), (.i (i64 (v_1 + 1))), (.l (Ax.write cells_0 (v_1).toNat [(Ax.AV.int .u8 (Ax.I.sym (u8 (x_2 - 32))))]))])) else
    (none)) else none) else none) else none) else none) else
   (bif (List.all cells_0 (Ax.closedN 20)) then (some (.inl [(.i bits_1), (.n bn_0), (.i v_0), (.i (i64 (v_1 + 1))), (.l cells_0)])) else
    (none))) else
  (Option.map .inr (bif (decide ((0 + bn_0) ≤ (cells_0).length)) then (Option.bind (bytesOf (List.take bn_0 (List.drop 0 cells_0))) fun s_1 =>
    some [(.s s_1)]) else none))
noncomputable def F_law08_cased : List Dat → Option (List Dat) := fun ds_0 =>
  onS ds_0 fun s_0 ds_1 =>
  onI ds_1 fun bits_0 ds_2 =>
  bif (List.all (Ax.byteCells s_0) (Ax.closedN 20)) then (iter F_law08_cased_L0 [(.i bits_0), (.n (s_0).length), (.i (((s_0).length : Nat) : Int)), (.i 0), (.l (Ax.byteCells s_0))]) else
  (none)
noncomputable def F_law08_WordShort : List Dat → Option (List Dat) := fun ds_0 =>
  onI ds_0 fun n_0 ds_1 =>
  onI ds_1 fun bits_0 ds_2 =>
  Option.bind (F_word_MonthText [(.i (i64 (1 + (i64 (Int.tmod n_0 12)))))]) fun r_0 =>
  onS r_0 fun s_0 ds_3 =>
  Option.bind (F_word_WeekText [(.i (i64 (Int.tmod n_0 7)))]) fun r_1 =>
  onS r_1 fun s_1 ds_4 =>
  Option.bind (bif (!decide ((((s_0).length : Nat) : Int) = 3)) then (some true) else
   (bif (decide (((0 : Int) ≤ 0) ∧ (0 < (((s_0).length : Nat) : Int)))) then (bif (decide (((((List.getD s_0 0 0)).toNat : Nat) : Int) < 65)) then (some true) else
    (bif (decide (((0 : Int) ≤ 0) ∧ (0 < (((s_0).length : Nat) : Int)))) then (bif (decide (90 < ((((List.getD s_0 0 0)).toNat : Nat) : Int))) then (some true) else
     (bif (decide (((0 : Int) ≤ 1) ∧ (1 < (((s_0).length : Nat) : Int)))) then (bif (decide (((((List.getD s_0 1 0)).toNat : Nat) : Int) < 97)) then (some true) else
      (bif (decide (((0 : Int) ≤ 1) ∧ (1 < (((s_0).length : Nat) : Int)))) then (bif (decide (122 < ((((List.getD s_0 1 0)).toNat : Nat) : Int))) then (some true) else
       (bif (decide (((0 : Int) ≤ 2) ∧ (2 < (((s_0).length : Nat) : Int)))) then (bif (decide (((((List.getD s_0 2 0)).toNat : Nat) : Int) < 97)) then (some true) else
        (bif (decide (((0 : Int) ≤ 2) ∧ (2 < (((s_0).length : Nat) : Int)))) then (bif (decide (122 < ((((List.getD s_0 2 0)).toNat : Nat) : Int))) then (some true) else
         (some false)) else none)) else none)) else none)) else none)) else none)) else none)) fun b_0 =>
  bif b_0 then (some [(.b false)]) else
  (Option.bind (bif (!decide ((((s_1).length : Nat) : Int) = 3)) then (some true) else
    (bif (decide (((0 : Int) ≤ 0) ∧ (0 < (((s_1).length : Nat) : Int)))) then (bif (decide (((((List.getD s_1 0 0)).toNat : Nat) : Int) < 65)) then (some true) else
     (bif (decide (((0 : Int) ≤ 0) ∧ (0 < (((s_1).length : Nat) : Int)))) then (bif (decide (90 < ((((List.getD s_1 0 0)).toNat : Nat) : Int))) then (some true) else
      (bif (decide (((0 : Int) ≤ 1) ∧ (1 < (((s_1).length : Nat) : Int)))) then (bif (decide (((((List.getD s_1 1 0)).toNat : Nat) : Int) < 97)) then (some true) else
       (bif (decide (((0 : Int) ≤ 1) ∧ (1 < (((s_1).length : Nat) : Int)))) then (bif (decide (122 < ((((List.getD s_1 1 0)).toNat : Nat) : Int))) then (some true) else
        (bif (decide (((0 : Int) ≤ 2) ∧ (2 < (((s_1).length : Nat) : Int)))) then (bif (decide (((((List.getD s_1 2 0)).toNat : Nat) : Int) < 97)) then (some true) else
         (bif (decide (((0 : Int) ≤ 2) ∧ (2 < (((s_1).length : Nat) : Int)))) then (bif (decide (122 < ((((List.getD s_1 2 0)).toNat : Nat) : Int))) then (some true) else
          (some false)) else none)) else none)) else none)) else none)) else none)) else none)) fun b_1 =>
   bif b_1 then (some [(.b false)]) else
   (bif (decide (((0 : Int) ≤ 0) ∧ (0 < (((s_0).length : Nat) : Int)))) then (Option.bind (bytesOf [(Ax.AV.int .u8 (Ax.I.sym (u8 ((u8 (((((List.getD s_0 0 0)).toNat : Nat) : Int) + 97)) - 65))))]) fun s_2 =>
    bif (decide (((0 : Int) ≤ 1) ∧ (1 ≤ (((s_0).length : Nat) : Int)))) then (bif (decide (((s_2).length + ((List.take ((s_0).length - 1) (List.drop 1 s_0))).length) ≤ 9223372036854775807)) then (Option.bind (F_law08_cased [(.s (s_2 ++ (List.take ((s_0).length - 1) (List.drop 1 s_0)))), (.i bits_0)]) fun r_2 =>
    onS r_2 fun s_3 ds_5 =>
    Option.bind (F_word_Month [(.s s_3)]) fun r_3 =>
    onI r_3 fun i_0 ds_6 =>
    onI ds_6 fun i_1 ds_7 =>
    bif (decide (((0 : Int) ≤ 0) ∧ (0 < (((s_1).length : Nat) : Int)))) then (Option.bind (bytesOf [(Ax.AV.int .u8 (Ax.I.sym (u8 ((u8 (((((List.getD s_1 0 0)).toNat : Nat) : Int) + 97)) - 65))))]) fun s_4 =>
    bif (decide (((0 : Int) ≤ 1) ∧ (1 ≤ (((s_1).length : Nat) : Int)))) then (bif (decide (((s_4).length + ((List.take ((s_1).length - 1) (List.drop 1 s_1))).length) ≤ 9223372036854775807)) then (Option.bind (F_law08_cased [(.s (s_4 ++ (List.take ((s_1).length - 1) (List.drop 1 s_1)))), (.i bits_0)]) fun r_4 =>
    onS r_4 fun s_5 ds_8 =>
    Option.bind (F_word_Week [(.s s_5)]) fun r_5 =>
    onI r_5 fun i_2 ds_9 =>
    onI ds_9 fun i_3 ds_10 =>
    bif (decide (i_0 = (i64 (1 + (i64 (Int.tmod n_0 12)))))) then (bif (decide (i_1 = 0)) then (bif (decide (i_2 = (i64 (Int.tmod n_0 7)))) then (bif (decide (i_3 = 0)) then (Option.bind (F_law08_works []) fun r_6 =>
        onB r_6 fun b_2 ds_11 =>
        some [(.b b_2)]) else
       (some [(.b false)])) else
      (some [(.b false)])) else
     (some [(.b false)])) else
    (some [(.b false)])) else none) else none) else none) else none) else none) else none))
noncomputable def F_law08_WordOne_L1 : List Dat → Option (List Dat ⊕ List Dat) := fun ds_14 =>
  onS ds_14 fun s_1 ds_15 =>
  onN ds_15 fun vn_0 ds_16 =>
  onL ds_16 fun vl_0 ds_17 =>
  onI ds_17 fun v_2 ds_18 =>
  onI ds_18 fun v_3 ds_19 =>
  bif (decide (v_3 < v_2)) then (bif (decide ((0 ≤ v_3) ∧ (v_3 < ((vn_0 : Nat) : Int)))) then (bif (decide ((((v_3).toNat * 3) + 3) ≤ (vl_0).length)) then (bif (decide (((List.take 3 (List.drop ((v_3).toNat * 3) vl_0))).length = 3)) then (none) else none) else none) else none) else
  (Option.map .inr (Option.bind (F_law08_works []) fun r_2 =>
    onB r_2 fun b_1 ds_20 =>
    some [(.b b_1)]))
noncomputable def F_law08_WordOne_L0 : List Dat → Option (List Dat ⊕ List Dat) := fun ds_4 =>
  onN ds_4 fun ln_1 ds_5 =>
  onL ds_5 fun ll_1 ds_6 =>
  onN ds_6 fun bn_0 ds_7 =>
  onN ds_7 fun bc_0 ds_8 =>
  onI ds_8 fun v_0 ds_9 =>
  onI ds_9 fun v_1 ds_10 =>
  onL ds_10 fun cells_0 ds_11 =>
  bif (decide (v_1 < v_0)) then (bif (decide ((0 ≤ v_1) ∧ (v_1 < ((ln_1 : Nat) : Int)))) then (Option.bind (asI .u8 (ll_1)[(v_1).toNat]?) fun x_0 =>
   bif (decide ((0 ≤ v_1) ∧ (v_1 < ((bn_0 : Nat) : Int)))) then (bif (decide (((v_1).toNat + 1) ≤ (cells_0).length)) then (bif (decide (([(Ax.AV.int .u8 (Ax.I.sym (u8 (97 + (Int.tmod x_0 26)))))]).length = 1)) then (bif (List.all (Ax.write cells_0 (v_1).toNat [(Ax.AV.int .u8 (Ax.I.sym (u8 (97 + (Int.tmod x_0 26)))))]) (Ax.closedN 20)) then (some (.inl [(.n ln_1), (.l ll_1), (.n bn_0), (.n bc_0), (.i v_0), (.i (i64 (v_1 + 1))), (.l (Ax.write cells_0 (v_1).toNat [(Ax.AV.int .u8 (Ax.I.sym (u8 (97 + (Int.tmod x_0 26)))))]))])) else
   (none)) else none) else none) else none) else none) else
  (Option.map .inr (bif (decide ((0 + bn_0) ≤ (cells_0).length)) then (Option.bind (bytesOf (List.take bn_0 (List.drop 0 cells_0))) fun s_0 =>
    Option.bind (F_law08_lists []) fun r_1 =>
    onN r_1 fun n_0 ds_12 =>
    onL ds_12 fun l_0 ds_13 =>
    iter F_law08_WordOne_L1 [(.s s_0), (.n n_0), (.l l_0), (.i ((n_0 : Nat) : Int)), (.i 0)]) else none))
noncomputable def F_law08_WordOne : List Dat → Option (List Dat) := fun ds_0 =>
  onN ds_0 fun ln_0 ds_1 =>
  onL ds_1 fun ll_0 ds_2 =>
  bif (decide (12 < ((ln_0 : Nat) : Int))) then (Option.bind (F_law08_works []) fun r_0 =>
   onB r_0 fun b_0 ds_3 =>
   some [(.b b_0)]) else
  (bif (decide ((0 ≤ ((ln_0 : Nat) : Int)) ∧ (((ln_0 : Nat) : Int) ≤ 9223372036854775807))) then (bif (decide ((0 ≤ ((ln_0 : Nat) : Int)) ∧ (((ln_0 : Nat) : Int) ≤ (((((ln_0 : Nat) : Int)).toNat : Nat) : Int)))) then (bif (decide (((((ln_0 : Nat) : Int)).toNat * 1) ≤ 140737488355328)) then (bif (List.all (Ax.listC (((ln_0 : Nat) : Int)).toNat [(Ax.AV.int .u8 (Ax.I.lit 0))]) (Ax.closedN 20)) then (iter F_law08_WordOne_L0 [(.n ln_0), (.l ll_0), (.n (((ln_0 : Nat) : Int)).toNat), (.n (((ln_0 : Nat) : Int)).toNat), (.i ((ln_0 : Nat) : Int)), (.i 0), (.l (Ax.listC (((ln_0 : Nat) : Int)).toNat [(Ax.AV.int .u8 (Ax.I.lit 0))]))]) else
   (none)) else none) else none) else none)
noncomputable def F_law08_WordNumbers : List Dat → Option (List Dat) := fun ds_0 =>
  onI ds_0 fun far_0 ds_1 =>
  Option.bind (F_word_MonthText [(.i (i64 (0 - (i64 far_0))))]) fun r_0 =>
  onS r_0 fun s_0 ds_2 =>
  bif (s_0 == ([] : List UInt8)) then (Option.bind (F_word_MonthText [(.i (i64 (13 + (i64 far_0))))]) fun r_1 =>
   onS r_1 fun s_1 ds_3 =>
   bif (s_1 == ([] : List UInt8)) then (Option.bind (F_word_WeekText [(.i (i64 ((-1) - (i64 far_0))))]) fun r_2 =>
    onS r_2 fun s_2 ds_4 =>
    bif (s_2 == ([] : List UInt8)) then (Option.bind (F_word_WeekText [(.i (i64 (7 + (i64 far_0))))]) fun r_3 =>
     onS r_3 fun s_3 ds_5 =>
     bif (s_3 == ([] : List UInt8)) then (Option.bind (F_law08_works []) fun r_4 =>
      onB r_4 fun b_0 ds_6 =>
      some [(.b b_0)]) else
     (some [(.b false)])) else
    (some [(.b false)])) else
   (some [(.b false)])) else
  (some [(.b false)])
end Go.Proofs.YtdpjkapaphelhaaDoor
