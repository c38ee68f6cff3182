/-
  strings.IndexAny for the two signs of comparison, on any bytes.
-/
import Derived.Test.YtdpednaafficmaaDoorAxT
import Derived.Test.YtdpednaafficmaaDoorShelf
import Derived.Test.YtdpednaafficmaaDoorTirn
import Derived.Test.YtdpednaafficmaaDoorAx40
import Derived.Laws.RangeAny
import Derived.Lib.OthersKept
import Derived.Shelf.Abstract
import Derived.Shelf.RegionOpen
import Derived.WalkKit
import Derived.WalkSpells
import Derived.WalkLawsBesides
import Derived.IntWalk
import Derived.Lib.Hide
import Derived.OwnWalkIn
import Derived.TacticsInMore
import Derived.LoopNIn
import Derived.LoopIn
namespace Go.Proofs.YtdpednaafficmaaDoor.Ir
open Go.RowKit Go.Shelf
open Go.Proofs.YtdpednaafficmaaDoor
set_option linter.unusedVariables false
set_option linter.unusedSimpArgs false
attribute [local go_sem] Oper.semAt_some
theorem callsX_calls {P : Program} {f : Nat} {vs : Array Value} {W : World} {R : Ending → World → Prop} (h : Ax.CallsX P f vs W R) (he : ∀ args w, (callFunc f args).run P w = .ok (.enter f args) w) : Calls P f vs W R := by
  rcases h with ⟨v, W', h1, h2⟩ | ⟨_, h2⟩
  · rw [he] at h1; cases h1
  · exact h2
/-! Bytes of a letter that is no ASCII. -/
theorem enc_hi {r : Int} (h : 128 ≤ r) : ∃ l, (Utf8.encode r).data.toList = l ∧ 2 ≤ l.length ∧ l.length ≤ 4 ∧ ∀ b ∈ l, 128 ≤ b.toNat := by
  refine ⟨_, rfl, ?_⟩
  have hc : 128 ≤ (if Utf8.valid r = true then r.toNat else Utf8.runeError) := by
    split
    · omega
    · decide
  have hm : (if Utf8.valid r = true then r.toNat else Utf8.runeError) ≤ 1114111 := by
    split
    · rename_i hv
      unfold Utf8.valid at hv
      simp at hv
      omega
    · decide
  unfold Utf8.encode
  generalize (if Utf8.valid r = true then r.toNat else Utf8.runeError) = c at *
  simp only [Nat.not_lt.2 hc, if_false]
  have hb : ∀ n : Nat, 128 ≤ n → n < 256 → 128 ≤ (UInt8.ofNat n).toNat := fun n h1 h2 => by rw [UInt8.toNat_ofNat', Nat.mod_eq_of_lt h2]; exact h1
  split
  · refine ⟨by simp, by simp, fun b hbm => ?_⟩
    rcases List.mem_cons.1 hbm with rfl | hbm
    · exact hb _ (by omega) (by omega)
    rcases List.mem_cons.1 hbm with rfl | hbm
    · exact hb _ (by omega) (by omega)
    cases hbm
  · split
    · refine ⟨by simp, by simp, fun b hbm => ?_⟩
      rcases List.mem_cons.1 hbm with rfl | hbm
      · exact hb _ (by omega) (by omega)
      rcases List.mem_cons.1 hbm with rfl | hbm
      · exact hb _ (by omega) (by omega)
      rcases List.mem_cons.1 hbm with rfl | hbm
      · exact hb _ (by omega) (by omega)
      cases hbm
    · refine ⟨by simp, by simp, fun b hbm => ?_⟩
      rcases List.mem_cons.1 hbm with rfl | hbm
      · exact hb _ (by omega) (by omega)
      rcases List.mem_cons.1 hbm with rfl | hbm
      · exact hb _ (by omega) (by omega)
      rcases List.mem_cons.1 hbm with rfl | hbm
      · exact hb _ (by omega) (by omega)
      rcases List.mem_cons.1 hbm with rfl | hbm
      · exact hb _ (by omega) (by omega)
      cases hbm
/-- What is decoded behind a byte that is no ASCII has no ASCII byte. -/
theorem dec_hi (s : ByteArray) (pos : Nat) (h : pos < s.size) (ha : 128 ≤ (s[pos]'h).toNat) : pos + (Utf8.decode s pos).2 ≤ s.size ∧ ∀ k, pos ≤ k → k < pos + (Utf8.decode s pos).2 → 128 ≤ (s.get! k).toNat := by
  have hn : ¬ (s[pos]'h).toNat < 128 := by omega
  have g0 : 128 ≤ (s.get! pos).toNat := by have := get_at s pos h; rw [Nat.add_zero] at this; rw [this]; exact ha
  have one : pos + 1 ≤ s.size ∧ ∀ k, pos ≤ k → k < pos + 1 → 128 ≤ (s.get! k).toNat := ⟨h, fun k h1 h2 => by rw [show k = pos by omega]; exact g0⟩
  simp only [Utf8.decode, get_at s pos h, hn, if_false]
  split
  · rename_i hc
    simp at hc
    split
    · refine ⟨by omega, fun k h1 h2 => ?_⟩
      have hk : k = pos ∨ k = pos + 1 := by omega
      rcases hk with rfl | rfl
      · exact g0
      · omega
    · exact one
  · split
    · rename_i hc
      simp at hc
      split
      · refine ⟨by omega, fun k h1 h2 => ?_⟩
        have hk : k = pos ∨ k = pos + 1 ∨ k = pos + 2 := by omega
        rcases hk with rfl | rfl | rfl
        · exact g0
        · omega
        · omega
      · exact one
    · split
      · rename_i hc
        simp at hc
        split
        · refine ⟨by omega, fun k h1 h2 => ?_⟩
          have hk : k = pos ∨ k = pos + 1 ∨ k = pos + 2 ∨ k = pos + 3 := by omega
          rcases hk with rfl | rfl | rfl | rfl
          · exact g0
          · omega
          · omega
          · omega
        · exact one
      · exact one

/-! strings.IndexRune on the two signs. -/
def ltgt : ByteArray := ⟨#[60, 62]⟩
theorem valid_at (r : Int) : ∃ b, F_unicode_utf8_ValidRune [.i r] = some [.b b] := by
  unfold F_unicode_utf8_ValidRune
  rw [Ax.onI_c]
  cases decide (0 ≤ r) <;> cases decide (r < 55296) <;> cases decide (57343 < r) <;> cases decide (r ≤ 1114111) <;> exact ⟨_, rfl⟩
theorem rune_F {r : Int} (h : 128 ≤ r) (h2 : r ≤ 2147483647) (hr : r ≠ 65533) : F_strings_IndexRune [.s [60, 62], .i r] = some [.i (-1)] := by
  obtain ⟨v, hv⟩ := valid_at r
  obtain ⟨l, hl, l2, l4, lh⟩ := enc_hi h
  unfold F_strings_IndexRune
  rw [Ax.onS_c, Ax.onI_c, decide_eq_true (show (0 : Int) ≤ r by omega), decide_eq_false (show ¬ r < 128 by omega), decide_eq_false hr]
  simp only [Ax.onB_c, cond_true, cond_false, Option.bind_some, hv, hl]
  cases v with
  | false => rfl
  | true =>
    simp only [Bool.not_true, cond_false]
    have e1 : Ax.i64 (((l.length : Nat) : Int) - 1) = ((l.length - 1 : Nat) : Int) := by rw [Ax.i64_in _ (by omega)]; omega
    rw [e1]
    refine Ax.iter_end ?_
    match l, l2, l4, lh with
    | [a, b], _, _, lh =>
      have hb := lh b (by simp)
      have hb2 : b.toNat < 256 := b.toNat_lt
      have hne : ¬ ((((62 : UInt8).toNat : Nat) : Int) = ((b.toNat : Nat) : Int)) := by
        have : (62 : UInt8).toNat = 62 := rfl
        omega
      have hix : F_strings_IndexByte [.s [], .i ((b.toNat : Nat) : Int)] = some [.i (-1)] := by
        unfold F_strings_IndexByte
        rw [Ax.onS_c, Ax.onI_c]
        have : Ax.strIndexByte [.s [], .i ((b.toNat : Nat) : Int)] = some [.i (-1)] := by
          unfold Ax.strIndexByte
          rw [Ax.onS_c, Ax.onI_c]
          first | exact if_pos ⟨by omega, by omega⟩ | rfl
        rw [this]; rfl
      have e2 : Ax.i64 ((((1 : Nat) : Nat) : Int) + 1) = 2 := by decide
      unfold F_strings_IndexRune_L0
      simp only [Ax.onS_c, Ax.onI_c, List.length_cons, List.length_nil, Nat.reduceAdd, Nat.reduceSub]
      rw [decide_eq_true (show ((1 : Nat) : Int) < ((2 : Nat) : Int) by decide), decide_eq_true (show (0 : Int) ≤ ((1 : Nat) : Int) ∧ ((1 : Nat) : Int) < ((2 : Nat) : Int) by decide), cond_true, cond_true, cond_true]
      rw [show List.getD ([60, 62] : List UInt8) ((1 : Nat) : Int).toNat 0 = 62 from rfl, show List.getD [a, b] ((1 : Nat) : Int).toNat 0 = b from rfl, decide_eq_false hne, Bool.not_false, cond_true, e2]
      rw [decide_eq_true (show (0 : Int) ≤ 2 ∧ (2 : Int) ≤ ((2 : Nat) : Int) by decide), cond_true, cond_true]
      rw [show List.take (2 - (2 : Int).toNat) (List.drop (2 : Int).toNat ([60, 62] : List UInt8)) = [] from rfl, hix]
      rfl
    | [a, b, c], _, _, _ => rfl
    | [a, b, c, d], _, _, _ => rfl

theorem fnok_rune {r k : Int} (hF : F_strings_IndexRune [.s [60, 62], .i r] = some [.i k]) (W : World) :
    Calls Tryd.prog 91 #[.string ltgt, .int .i32 r] W fun e W' => e = .returned (.int .i64 k) ∧ Below W.heap.size W W' := by
  obtain ⟨x, h1, h2⟩ := (F_strings_IndexRune_ok (P := Tryd.prog) (mx := 0)).out [.str (.sym [60, 62]), .int .i32 (.sym r)] [.s [60, 62], .i r] [.i k] rfl hF
  have hx := h2 Int (fun v => match v with | .int _ u => .ret u.v | _ => .none) k rfl
  have hk := h2 Nat (fun v => match v with | .int .i64 u => .ret 1 | _ => .none) 1 rfl
  have hx : ∃ u : Ax.I, x = .int .i64 u ∧ u.v = k := by
    cases x with
    | int q u =>
      cases q <;> first | exact ⟨u, rfl, Option.some.inj hx⟩ | cases hk
    | _ => cases hx
  obtain ⟨u, rfl, rfl⟩ := hx
  have hv : Ax.VRL (fun _ => False) W (fun _ => none) [.str (.sym [60, 62]), .int .i32 (.sym r)] [Value.string ltgt, .int .i32 r] := by
    refine ⟨rfl, fun i x v p q => ?_⟩
    match i with
    | 0 => simp at p q; subst p; subst q; exact .str rfl
    | 1 => simp at p q; subst p; subst q; exact .int rfl
    | i + 2 => simp at p
  refine (callsX_calls (h1.out (fun _ => False) W _ (fun g c h => by cases h) (fun _ h => h.elim) hv) (enters_of Tryd.func91 (by kernel_rfl) rfl)).mono ?_
  rintro e W' ⟨v, S', rfl, hb, _, _, _, hx⟩
  rw [hx.int_inv']
  exact ⟨rfl, hb⟩
theorem nx0 (P : Program) (w : World) (ty : TypeId) : (Instr.next (.pointer (some ⟨w.heap.size, 0, none⟩)) true ty).run P (w.iter ltgt 0) = .ok (.tuple #[.bool true, .int .i64 0, .int .i32 60]) (w.iter ltgt 1) := run_next_ascii w ltgt 0 ty (by decide) (by decide)
theorem nx1 (P : Program) (w : World) (ty : TypeId) : (Instr.next (.pointer (some ⟨w.heap.size, 0, none⟩)) true ty).run P (w.iter ltgt 1) = .ok (.tuple #[.bool true, .int .i64 1, .int .i32 62]) (w.iter ltgt 2) := run_next_ascii w ltgt 1 ty (by decide) (by decide)
theorem en2 (P : Program) (w : World) (ty : TypeId) : (Instr.next (.pointer (some ⟨w.heap.size, 0, none⟩)) true ty).run P (w.iter ltgt 2) = .ok (.tuple #[.bool false]) (w.iter ltgt 2) := run_next_end w ltgt 2 ty (by decide)
set_option maxRecDepth 100000 in
set_option maxHeartbeats 2000000 in
theorem rune_err (w : World) : Calls Tryd.prog 91 #[.string ltgt, .int .i32 65533] w fun e w' => e = .returned (.int .i64 (-1)) ∧ Below w.heap.size w w' := by
  refine (callsIn_wide (n := 3)).1 ?_
  refine callsIn_of_wp Tryd.func91 rfl trivial ?_ rfl
  simp only [Tryd.ntmps91, List.size_toArray, List.length_cons, List.length_nil, Nat.reduceAdd, Nat.reduceSub, Array.replicate_succ, Array.replicate_zero, List.push_toArray, List.append_toArray, List.nil_append, List.cons_append]
  have a0 := nx0 Tryd.prog w
  have a1 := nx1 Tryd.prog w
  have a2 := en2 Tryd.prog w
  gi_wp2
  gi_loopw [5] (fun i wr => ∃ k : Nat, k ≤ 2 ∧ wr = w.iter ltgt k) (fun i wr => 2 - wr.iterPos w.heap.size)
  case atStart => exact ⟨0, by omega, rfl⟩
  case round =>
    obtain ⟨k, hk, rfl⟩ := hrel
    have hk : k = 0 ∨ k = 1 ∨ k = 2 := by omega
    rcases hk with rfl | rfl | rfl
    · gi_wp2
      go_roundw
      case rel => exact ⟨1, by omega, rfl⟩
      case measure => simp
    · gi_wp2
      go_roundw
      case rel => exact ⟨2, by omega, rfl⟩
      case measure => simp
    · gi_wp2
      go_ret
      exact ⟨rfl, (Below.refl _ w).alloc (Nat.le_refl _) _⟩

theorem rune_any {r : Int} (h0 : 0 ≤ r) (h1 : r ≤ 2147483647) (W : World) : Calls Tryd.prog 91 #[.string ltgt, .int .i32 r] W fun e W' => e = .returned (.int .i64 (if r < 128 then Lib.indexByte [60, 62] r.toNat.toUInt8 else -1)) ∧ Below W.heap.size W W' := by
  by_cases h2 : r < 128
  · rw [if_pos h2]
    refine (Tryd.strings_IndexRune_ascii ltgt r W h0 h2).mono ?_
    rintro e W' ⟨rfl, rfl⟩
    exact ⟨rfl, Below.refl _ _⟩
  · rw [if_neg h2]
    by_cases h3 : r = 65533
    · subst h3; exact rune_err W
    · exact fnok_rune (rune_F (by omega) h1 h3) W
theorem get_data (s : ByteArray) (k : Nat) (h : k < s.size) : s.data.toList[k]? = some (s.get! k) := by
  have h1 := Lib.data_getElem? s k h
  have h2 := get_at s k h
  rw [Nat.add_zero] at h2
  rw [h1, h2]
theorem iterPos_of {w : World} {k : Nat} {s : ByteArray} {p : Nat} (h : w.heap[k]? = some (.stringIter s p)) : w.iterPos k = p := by simp [World.iterPos, h]
theorem high_no {b : UInt8} (h : 128 ≤ b.toNat) : ([60, 62] : List UInt8).contains b = false := by
  have h1 : b ≠ 60 := fun e => by rw [e] at h; exact absurd h (by decide)
  have h2 : b ≠ 62 := fun e => by rw [e] at h; exact absurd h (by decide)
  simp [h1, h2]
set_option maxRecDepth 100000 in
set_option maxHeartbeats 2000000 in
theorem idx_short (s : ByteArray) (h8 : s.size ≤ 8) (w : World) : Calls Tryd.prog 47 #[.string s, .string ltgt] w fun e w' => e = .returned (.int .i64 (Lib.indexAny s.data.toList [60, 62])) ∧ Below w.heap.size w w' := by
  have h8z : decide ((8 : Int) < (s.size : Int)) = false := decide_eq_false (by omega)
  refine (callsIn_wide (n := 3)).1 ?_
  refine callsIn_of_wp Tryd.func47 rfl trivial ?_ rfl
  simp only [Tryd.ntmps47, List.size_toArray, List.length_cons, List.length_nil, Nat.reduceAdd, Nat.reduceSub, Array.replicate_succ, Array.replicate_zero, List.push_toArray, List.append_toArray, List.nil_append, List.cons_append]
  have hlt : ltgt.size = 2 := rfl
  have hle : ltgt.toList.isEmpty = false := by rw [Lib.toList_data]; rfl
  have hs := Tryd.strings_shouldUseASCIISet (s.size : Int) w
  rw [h8z] at hs
  generalize hL : ltgt = L at *
  have h2 : ((2 : Int) == 1) = false := rfl
  gi_wp2_with (refine ⟨trivial, ?_⟩; gi_at_call 92; refine (callsIn_wide.2 hs).mono ?_; rintro e w' ⟨rfl, hw⟩; rw [hw])
  gi_loopw [9] (fun i wr => ∃ k : Nat, k ≤ s.size ∧ Lib.NoAny s.data.toList [60, 62] k ∧ wr.heap[w.heap.size]? = some (.stringIter s k) ∧ Below w.heap.size w wr) (fun i wr => s.size - wr.iterPos w.heap.size)
  case atStart => exact ⟨0, by omega, Lib.NoAny.zero _ _, World.alloc_heap_new w _, (Below.refl _ w).alloc (Nat.le_refl _) _⟩
  case round =>
    obtain ⟨k, hk, hno, hheap, hB⟩ := hrel
    have HN := Lib.hid hno
    clear hno
    have hpos := iterPos_of hheap
    by_cases hend : k < s.size
    · have hnx := fun ty => Lib.run_next_any_at (P := Tryd.prog) wr w.heap.size s k ty hheap hend
      have hlt' : w.heap.size < wr.heap.size := (Array.getElem?_eq_some_iff.1 hheap).1
      by_cases h128 : (s[k]'hend).toNat < 128
      · have hd := decode_ascii s k hend h128
        rw [hd] at hnx
        have hxl : s.data.toList[k]? = some (s[k]'hend) := Lib.data_getElem? s k hend
        generalize hx : (s[k]'hend) = x at *
        have hr := rune_any (r := ((x.toNat : Nat) : Int)) (by omega) (by omega) (wr.iterAt w.heap.size s (k + 1))
        have hback : ((x.toNat : Int)).toNat.toUInt8 = x := by simp
        rw [if_pos (by omega), hback, hL] at hr
        have hcon := Lib.contains_iff_indexByte [60, 62] x
        have hh2 := Lib.iterAt_heap wr w.heap.size s k (k + 1) hheap
        have hsz := Lib.iterAt_size wr w.heap.size s (k + 1)
        have hB2 := Lib.below_iterAt hB (Nat.le_refl _) s (k + 1)
        have Hx := Lib.hid hxl
        clear hxl hx hd
        generalize Lib.indexByte [60, 62] x = q at *
        generalize wr.iterAt w.heap.size s (k + 1) = w2 at *
        cases hin : ([60, 62] : List UInt8).contains x
        · rw [hin] at hcon
          have hq : ¬ ((0 : Int) ≤ q) := of_decide_eq_false hcon.symm
          clear hcon
          gi_wp2_with (refine ⟨trivial, ?_⟩; gi_at_call 91; refine (callsIn_wide.2 hr).mono ?_; rintro e w3 ⟨rfl, hb⟩)
          have h3 : w3.heap[w.heap.size]? = some (.stringIter s (k + 1)) := (hb.block _ (by omega)).trans hh2
          have hp3 := iterPos_of h3
          go_roundw
          case rel => exact ⟨k + 1, by omega, HN.out.succ Hx.out hin, h3, hB2.trans (hb.mono (by omega))⟩
          case measure => rw [hpos, hp3]; omega
        · rw [hin] at hcon
          have hq : (0 : Int) ≤ q := of_decide_eq_true hcon.symm
          clear hcon
          gi_wp2_with (refine ⟨trivial, ?_⟩; gi_at_call 91; refine (callsIn_wide.2 hr).mono ?_; rintro e w3 ⟨rfl, hb⟩)
          go_ret
          exact ⟨by rw [Lib.indexAny_hit HN.out Hx.out hin]; rfl, hB2.trans (hb.mono (by omega))⟩
      · obtain ⟨hr1, hn1⟩ := decode_high s k hend (by omega)
        have hr2 := decode_le s k
        obtain ⟨hn2, hhi⟩ := dec_hi s k hend (by omega)
        have HH := Lib.hid hhi
        clear hhi
        generalize Utf8.decode s k = d at *
        obtain ⟨r, n⟩ := d
        simp only at hr1 hn1 hr2 hn2 hnx
        have hr := rune_any (r := ((r : Nat) : Int)) (by omega) (by omega) (wr.iterAt w.heap.size s (k + n))
        rw [if_neg (by omega), hL] at hr
        have hh2 := Lib.iterAt_heap wr w.heap.size s k (k + n) hheap
        have hsz := Lib.iterAt_size wr w.heap.size s (k + n)
        have hB2 := Lib.below_iterAt hB (Nat.le_refl _) s (k + n)
        generalize wr.iterAt w.heap.size s (k + n) = w2 at *
        gi_wp2_with (refine ⟨trivial, ?_⟩; gi_at_call 91; refine (callsIn_wide.2 hr).mono ?_; rintro e w3 ⟨rfl, hb⟩)
        have h3 : w3.heap[w.heap.size]? = some (.stringIter s (k + n)) := (hb.block _ (by omega)).trans hh2
        have hp3 := iterPos_of h3
        have hno2 : Lib.NoAny s.data.toList [60, 62] (k + n) := by
          intro j b hj hb2
          by_cases hjk : j < k
          · exact HN.out j b hjk hb2
          · have hjs : j < s.size := by omega
            rw [get_data s j hjs] at hb2
            cases hb2
            exact high_no (HH.out j (by omega) hj)
        go_roundw
        case rel => exact ⟨k + n, hn2, hno2, h3, hB2.trans (hb.mono (by omega))⟩
        case measure => rw [hpos, hp3]; omega
    · obtain rfl : k = s.size := by omega
      have hnx := fun ty => Lib.run_next_end_at (P := Tryd.prog) wr w.heap.size s s.size ty hheap hend
      gi_wp2
      go_ret
      exact ⟨by rw [Lib.indexAny_none (by rw [← Lib.size_eq]; exact HN.out)]; rfl, hB⟩

theorem idx_any (s : ByteArray) (hs : s.size < 4294967281) (w : World) : Calls Tryd.prog 47 #[.string s, .string ltgt] w fun e w' => e = .returned (.int .i64 (Lib.indexAny s.data.toList [60, 62])) ∧ Below w.heap.size w w' := by
  by_cases h8 : s.size ≤ 8
  · exact idx_short s h8 w
  · have h116 : ((Tryd.prog).info? 120).map (fun i => (i.zero, i.size)) = some (some (.agg (Array.replicate 256 (.bool false))), 256) := by kernel_rfl
    refine (Tryd.strings_IndexAny_long (zero_of_info h116).1 s ltgt w (by decide) (by omega) hs (by decide) (fun j b hb => ?_)).mono ?_
    · have : ltgt.data.toList = [60, 62] := rfl
      rw [this] at hb
      match j with
      | 0 => cases hb; decide
      | 1 => cases hb; decide
      | j + 2 => cases hb
    · rintro e w' ⟨rfl, rfl⟩
      exact ⟨rfl, ((Below.refl _ w).alloc (Nat.le_refl _) _).alloc (by simp) _⟩
theorem vr_two {S : Nat → Prop} {W : World} {ρ : Ax.Rho} {x y : Ax.AV} {vs : List Value} (h : Ax.VRL S W ρ [x, y] vs) : ∃ u v, vs = [u, v] ∧ Ax.VR S W ρ x u ∧ Ax.VR S W ρ y v := by
  match vs, h with
  | [u, v], h => exact ⟨u, v, rfl, h.2 0 _ _ rfl rfl, h.2 1 _ _ rfl rfl⟩
  | [], h => exact absurd h.1 (by simp)
  | [_], h => exact absurd h.1 (by simp)
  | _ :: _ :: _ :: _, h => exact absurd h.1 (by simp)
end Go.Proofs.YtdpednaafficmaaDoor.Ir
namespace Go.Proofs.YtdpednaafficmaaDoor
/-- The index of the first sign of comparison in any bytes. -/
noncomputable def idxAny : List Ax.Dat → Option (List Ax.Dat) := fun ds => Ax.onS ds fun s ds => Ax.onS ds fun t _ => if t = [60, 62] ∧ s.length < 4294967281 then some [.i (Lib.indexAny s [60, 62])] else none
theorem idxAny_at {s : List UInt8} (h : s.length < 4294967281) : idxAny [.s s, .s [60, 62]] = some [.i (Lib.indexAny s [60, 62])] := if_pos ⟨rfl, h⟩
theorem idxAny_ok {G : Nat → Option (List Ax.AV)} : Ax.FnOk Tryd.prog G 47 ⟨[.str, .str], .int .i64, idxAny⟩ := by
  refine Ax.FnOk.of_calls (c := code47) Tryd.func47 (by kernel_rfl) (by kernel_rfl) fun xs ds r h1 h2 => ?_
  obtain ⟨v, vs, a, b, rfl, rfl, h3, h4⟩ := Ax.gets_cons h1
  obtain ⟨v2, vs2, a2, b2, rfl, rfl, h5, h6⟩ := Ax.gets_cons h4
  obtain ⟨rfl, rfl⟩ := Ax.gets_nil h6
  obtain ⟨sx, rfl, rfl⟩ := Ax.get_str h3
  obtain ⟨tx, rfl, rfl⟩ := Ax.get_str h5
  replace h2 : (if tx.v = [60, 62] ∧ sx.v.length < 4294967281 then some [Ax.Dat.i (Lib.indexAny sx.v [60, 62])] else none) = some r := h2
  split at h2
  · rename_i hi
    cases h2
    refine ⟨.int .i64 (.sym (Lib.indexAny sx.v [60, 62])), fun β K y q => q, fun S W vs hGR hSl hv => ?_⟩
    obtain ⟨x, y, rfl, hx, hy⟩ := Ir.vr_two hv
    obtain ⟨bz, rfl, ez⟩ := hx.str_inv'
    obtain ⟨cz, rfl, fz⟩ := hy.str_inv'
    have hcz : cz = Ir.ltgt := by
      obtain ⟨⟨l⟩⟩ := cz
      have fz : l = tx.v := fz
      rw [fz, hi.1]; rfl
    subst hcz
    have hsz : bz.size = sx.v.length := by rw [← ez]; exact Lib.size_eq bz
    have key := Ir.idx_any bz (by omega) W
    rw [ez] at key
    refine key.mono ?_
    rintro e W' ⟨rfl, hbl⟩
    exact ⟨_, rfl, hbl, .int rfl⟩
  · cases h2
end Go.Proofs.YtdpednaafficmaaDoor
