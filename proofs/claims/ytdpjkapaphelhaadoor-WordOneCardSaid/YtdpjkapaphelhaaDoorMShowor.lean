/-
  Words: the short ones mean what they stand for.
-/
import Derived.Test.YtdpjkapaphelhaaDoorMCaswor
namespace Go.Proofs.YtdpjkapaphelhaaDoor
open Go.Ax Go.Lib
set_option linter.all false
set_option maxHeartbeats 8000000
set_option maxRecDepth 100000
attribute [local congr] cond_cong bind_cong onI_cong onB_cong onS_cong onN_cong onL_cong

/-- A short word: three letters, the first one a capital one. -/
def Shorty (a b c : UInt8) : Prop := (65 ≤ a.toNat ∧ a.toNat ≤ 90) ∧ (97 ≤ b.toNat ∧ b.toNat ≤ 122) ∧ (97 ≤ c.toNat ∧ c.toNat ≤ 122)
instance (a b c : UInt8) : Decidable (Shorty a b c) := by unfold Shorty; infer_instance
theorem means_Month {y t : List UInt8} {v : Int} (hy : Sm.smallV y = Sm.smallV t) (hl : y.length ≤ 1000) (hf : findV [[106, 97, 110, 117, 97, 114, 121], [102, 101, 98, 114, 117, 97, 114, 121], [109, 97, 114, 99, 104], [97, 112, 114, 105, 108], [109, 97, 121], [106, 117, 110, 101], [106, 117, 108, 121], [97, 117, 103, 117, 115, 116], [115, 101, 112, 116, 101, 109, 98, 101, 114], [111, 99, 116, 111, 98, 101, 114], [110, 111, 118, 101, 109, 98, 101, 114], [100, 101, 99, 101, 109, 98, 101, 114]] 1 (Sm.smallV t) = (v, 0)) : F_word_Month [.s y] = some [.i v, .i 0] := by
  have hw := wordFind_at [106, 97, 110, 117, 97, 114, 121] [102, 101, 98, 114, 117, 97, 114, 121] [109, 97, 114, 99, 104] [97, 112, 114, 105, 108] [109, 97, 121] [106, 117, 110, 101] [106, 117, 108, 121] [97, 117, 103, 117, 115, 116] [115, 101, 112, 116, 101, 109, 98, 101, 114] [111, 99, 116, 111, 98, 101, 114] [110, 111, 118, 101, 109, 98, 101, 114] [100, 101, 99, 101, 109, 98, 101, 114] y 1 (by decide) hl
  rw [hy, hf] at hw
  unfold F_word_Month
  simp only [onI_c, onS_c, onB_c, onN_c, onL_c, Option.bind_some, Option.map_some, cond_true, cond_false, ↓onI_c, ↓onS_c, ↓onB_c, ↓onN_c, ↓onL_c, ↓Option.bind_some, ↓cond_true, ↓cond_false, decide_eq_true, decide_eq_false, Bool.not_true, Bool.not_false, Int.toNat_natCast, List.length_append, List.length_cons, List.length_nil, List.drop_zero, Nat.zero_add, Nat.add_zero, decT, decF, bneI_t, bneI_f, hw]
theorem short_Month {n : Int} (h : 1 ≤ n ∧ n ≤ 12) : ∃ a b c : UInt8, F_word_MonthText [.i n] = some [.s [a, b, c]] ∧ Shorty a b c ∧ ∀ y, Sm.smallV y = Sm.smallV [a + 32, b, c] → y.length ≤ 1000 → F_word_Month [.s y] = some [.i n, .i 0] := by
  have h : n = 1 ∨ n = 2 ∨ n = 3 ∨ n = 4 ∨ n = 5 ∨ n = 6 ∨ n = 7 ∨ n = 8 ∨ n = 9 ∨ n = 10 ∨ n = 11 ∨ n = 12 := by omega
  rcases h with rfl | rfl | rfl | rfl | rfl | rfl | rfl | rfl | rfl | rfl | rfl | rfl
  · exact ⟨74, 97, 110, by rfl, by decide, fun y hy hl => means_Month hy hl (by kernel_rfl)⟩
  · exact ⟨70, 101, 98, by rfl, by decide, fun y hy hl => means_Month hy hl (by kernel_rfl)⟩
  · exact ⟨77, 97, 114, by rfl, by decide, fun y hy hl => means_Month hy hl (by kernel_rfl)⟩
  · exact ⟨65, 112, 114, by rfl, by decide, fun y hy hl => means_Month hy hl (by kernel_rfl)⟩
  · exact ⟨77, 97, 121, by rfl, by decide, fun y hy hl => means_Month hy hl (by kernel_rfl)⟩
  · exact ⟨74, 117, 110, by rfl, by decide, fun y hy hl => means_Month hy hl (by kernel_rfl)⟩
  · exact ⟨74, 117, 108, by rfl, by decide, fun y hy hl => means_Month hy hl (by kernel_rfl)⟩
  · exact ⟨65, 117, 103, by rfl, by decide, fun y hy hl => means_Month hy hl (by kernel_rfl)⟩
  · exact ⟨83, 101, 112, by rfl, by decide, fun y hy hl => means_Month hy hl (by kernel_rfl)⟩
  · exact ⟨79, 99, 116, by rfl, by decide, fun y hy hl => means_Month hy hl (by kernel_rfl)⟩
  · exact ⟨78, 111, 118, by rfl, by decide, fun y hy hl => means_Month hy hl (by kernel_rfl)⟩
  · exact ⟨68, 101, 99, by rfl, by decide, fun y hy hl => means_Month hy hl (by kernel_rfl)⟩
theorem means_Week {y t : List UInt8} {v : Int} (hy : Sm.smallV y = Sm.smallV t) (hl : y.length ≤ 1000) (hf : findV [[115, 117, 110, 100, 97, 121], [109, 111, 110, 100, 97, 121], [116, 117, 101, 115, 100, 97, 121], [119, 101, 100, 110, 101, 115, 100, 97, 121], [116, 104, 117, 114, 115, 100, 97, 121], [102, 114, 105, 100, 97, 121], [115, 97, 116, 117, 114, 100, 97, 121], [], [], [], [], []] 0 (Sm.smallV t) = (v, 0)) : F_word_Week [.s y] = some [.i v, .i 0] := by
  have hw := wordFind_at [115, 117, 110, 100, 97, 121] [109, 111, 110, 100, 97, 121] [116, 117, 101, 115, 100, 97, 121] [119, 101, 100, 110, 101, 115, 100, 97, 121] [116, 104, 117, 114, 115, 100, 97, 121] [102, 114, 105, 100, 97, 121] [115, 97, 116, 117, 114, 100, 97, 121] [] [] [] [] [] y 0 (by decide) hl
  rw [hy, hf] at hw
  unfold F_word_Week
  simp only [onI_c, onS_c, onB_c, onN_c, onL_c, Option.bind_some, Option.map_some, cond_true, cond_false, ↓onI_c, ↓onS_c, ↓onB_c, ↓onN_c, ↓onL_c, ↓Option.bind_some, ↓cond_true, ↓cond_false, decide_eq_true, decide_eq_false, Bool.not_true, Bool.not_false, Int.toNat_natCast, List.length_append, List.length_cons, List.length_nil, List.drop_zero, Nat.zero_add, Nat.add_zero, decT, decF, bneI_t, bneI_f, hw]
theorem short_Week {n : Int} (h : 0 ≤ n ∧ n ≤ 6) : ∃ a b c : UInt8, F_word_WeekText [.i n] = some [.s [a, b, c]] ∧ Shorty a b c ∧ ∀ y, Sm.smallV y = Sm.smallV [a + 32, b, c] → y.length ≤ 1000 → F_word_Week [.s y] = some [.i n, .i 0] := by
  have h : n = 0 ∨ n = 1 ∨ n = 2 ∨ n = 3 ∨ n = 4 ∨ n = 5 ∨ n = 6 := by omega
  rcases h with rfl | rfl | rfl | rfl | rfl | rfl | rfl
  · exact ⟨83, 117, 110, by rfl, by decide, fun y hy hl => means_Week hy hl (by kernel_rfl)⟩
  · exact ⟨77, 111, 110, by rfl, by decide, fun y hy hl => means_Week hy hl (by kernel_rfl)⟩
  · exact ⟨84, 117, 101, by rfl, by decide, fun y hy hl => means_Week hy hl (by kernel_rfl)⟩
  · exact ⟨87, 101, 100, by rfl, by decide, fun y hy hl => means_Week hy hl (by kernel_rfl)⟩
  · exact ⟨84, 104, 117, by rfl, by decide, fun y hy hl => means_Week hy hl (by kernel_rfl)⟩
  · exact ⟨70, 114, 105, by rfl, by decide, fun y hy hl => means_Week hy hl (by kernel_rfl)⟩
  · exact ⟨83, 97, 116, by rfl, by decide, fun y hy hl => means_Week hy hl (by kernel_rfl)⟩
theorem lawP_WordShort {dats : List Dat} (h : DatOk tau [.int .u8, .int .u16] dats) : F_law08_WordShort dats = some [.b true] := by
  obtain ⟨n, r, rfl, hn, bits, r', rfl, hb, rfl⟩ := h
  have hn := wf_u8 hn
  have e0 : Int.tmod n 12 = n % 12 := Int.tmod_eq_emod_of_nonneg hn.1
  have e1 : Int.tmod n 7 = n % 7 := Int.tmod_eq_emod_of_nonneg hn.1
  have e2 := i64_in (n % 12) (by omega)
  have e3 := i64_in (1 + n % 12) (by omega)
  have e4 := i64_in (n % 7) (by omega)
  obtain ⟨a, b, c, m1, ⟨⟨a1, a2⟩, ⟨b1, b2⟩, ⟨c1, c2⟩⟩, m2⟩ := short_Month (n := 1 + n % 12) (by omega)
  obtain ⟨a', b', c', w1, ⟨⟨a1', a2'⟩, ⟨b1', b2'⟩, ⟨c1', c2'⟩⟩, w2⟩ := short_Week (n := n % 7) (by omega)
  obtain ⟨y, y1, y2, y3⟩ := cased_at (s := [a + 32] ++ [b, c]) bits (by simp)
  obtain ⟨z, z1, z2, z3⟩ := cased_at (s := [a' + 32] ++ [b', c']) bits (by simp)
  have m3 := m2 y y2 (by rw [y3]; simp)
  have w3 := w2 z z2 (by rw [z3]; simp)
  have low : ∀ a : UInt8, 65 ≤ a.toNat → a.toNat ≤ 90 → Ax.bytesOf [AV.int .u8 (.sym (u8 ((u8 (((a.toNat : Nat) : Int) + 97)) - 65)))] = some [a + 32] := by
    intro a h1 h2
    have q1 := u8_in (((a.toNat : Nat) : Int) + 97) (by omega)
    have q2 := u8_in (((a.toNat : Nat) : Int) + 97 - 65) (by omega)
    rw [q1, q2]
    show some [UInt8.ofNat (((a.toNat : Nat) : Int) + 97 - 65).toNat] = some [a + 32]
    congr 2
    apply UInt8.toNat_inj.1
    rw [UInt8.toNat_add, UInt8.toNat_ofNat']
    have : (32 : UInt8).toNat = 32 := rfl
    omega
  have l1 := low a a1 a2
  have l2 := low a' a1' a2'
  clear low y2 y3 z2 z3 m2 w2
  have L : ∀ a b c : UInt8, ([a, b, c] : List UInt8).length = 3 := fun _ _ _ => rfl
  have G0 : ∀ a b c : UInt8, ([a, b, c] : List UInt8).getD 0 0 = a := fun _ _ _ => rfl
  have G1 : ∀ a b c : UInt8, ([a, b, c] : List UInt8).getD 1 0 = b := fun _ _ _ => rfl
  have G2 : ∀ a b c : UInt8, ([a, b, c] : List UInt8).getD 2 0 = c := fun _ _ _ => rfl
  have T : ∀ a b c : UInt8, List.take (3 - 1) (List.drop 1 ([a, b, c] : List UInt8)) = [b, c] := fun _ _ _ => rfl
  have k3 : ((3 : Nat) : Int) = 3 := rfl
  have t5 : ∀ x : Int, decide (x = x) = true := fun x => decide_eq_true rfl
  unfold F_law08_WordShort
  simp (disch := first | assumption | omega) only [onI_c, onS_c, onB_c, onN_c, onL_c, Option.bind_some, Option.map_some, cond_true, cond_false, ↓onI_c, ↓onS_c, ↓onB_c, ↓onN_c, ↓onL_c, ↓Option.bind_some, ↓cond_true, ↓cond_false, decide_eq_true, decide_eq_false, Bool.not_true, Bool.not_false, Int.toNat_natCast, List.length_append, List.length_cons, List.length_nil, List.drop_zero, Nat.zero_add, Nat.add_zero, decT, decF, bneI_t, bneI_f, e0, e1, e2, e3, e4, m1, w1, ↓L, ↓G0, ↓G1, ↓G2, ↓T, ↓k3, l1, l2, y1, z1, m3, w3, ↓t5, wworks_at]
end Go.Proofs.YtdpjkapaphelhaaDoor
