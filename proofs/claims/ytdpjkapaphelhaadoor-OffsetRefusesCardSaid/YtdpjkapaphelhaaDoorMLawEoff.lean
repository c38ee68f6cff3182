/-
  Amounts of time: what is refused.
-/
import Derived.Test.YtdpjkapaphelhaaDoorMLawC0off
namespace Go.Proofs.YtdpjkapaphelhaaDoor
open Go.Ax Go.Lib
set_option linter.all false
set_option maxHeartbeats 8000000
attribute [local congr] cond_cong bind_cong onI_cong onB_cong onS_cong onN_cong onL_cong

theorem psplit_none_head {c : UInt8} {s : List UInt8} (h : isD c = false) : psplit (c :: s) = none := by
  rw [psplit_eq, List.takeWhile_cons, h]
  exact if_pos (.inl (by simp))
theorem pparse_head {c : UInt8} {s : List UInt8} (h : isD c = false) (h45 : c.toNat ≠ 45) : pparse (c :: s) = (0, 5) := by
  unfold pparse
  rw [if_neg (fun q => h45 q.2), psplit_none_head h]; rfl
theorem pparse_minus2 (s : List UInt8) : pparse (45 :: 45 :: s) = (0, 5) := by
  unfold pparse
  rw [if_pos ⟨by simp, rfl⟩, show (45 :: 45 :: s).drop 1 = 45 :: s from rfl, psplit_none_head rfl]; rfl
theorem pparse_zeros (s : List UInt8) : pparse (48 :: 48 :: s) = (0, 5) := by
  unfold pparse
  rw [if_neg (by simp), psplit_eq, if_pos]
  · rfl
  · refine .inr (.inr ⟨?_, rfl⟩)
    rw [List.takeWhile_cons, show isD 48 = true from rfl, if_pos rfl, List.takeWhile_cons, show isD 48 = true from rfl, if_pos rfl]
    simp
theorem pparse_behind {y : Nat} {c : UInt8} (hy : y ≤ 604799) (h : isD c = false) : pparse (prN y ++ [c]) = (0, 5) := by
  have e : prN y ++ [c] = decDigits (y / 3600) ++ 58 :: (twoD (y / 60 % 60) ++ ((if y % 60 = 0 then [] else 58 :: twoD (y % 60)) ++ [c])) := by rw [prN_eq]; simp
  rw [e]
  unfold pparse
  rw [if_neg (dec_head (by omega) _)]
  by_cases hz : y % 60 = 0
  · rw [if_pos hz, List.nil_append, psplit_hmt (by omega) (by omega) (by intro x hx; simp at hx; subst hx; exact h)]
    unfold ptail2
    dsimp only
    have : ([] : List UInt8).takeWhile isD = [] := rfl
    rw [this]
    split
    · rfl
    · rw [if_pos (by simp)]; rfl
  · rw [if_neg hz, List.cons_append, psplit_hmt (by omega) (by omega) (colon_end _)]
    unfold ptail2
    dsimp only
    have := takeWhile_app (p := isD) (a := twoD (y % 60)) (t := [c]) (two_digits (by omega)) (by intro x hx; simp at hx; subst hx; exact h)
    rw [if_neg (by decide), this, dval_two (by omega), if_neg (by simp [twoD]; omega), if_neg (by simp [twoD])]
    rfl
theorem pparse_far {t : List UInt8} {x y z : Int} (h : psplit t = some (x, y, z)) (h45 : ¬ (0 < t.length ∧ (t.getD 0 0).toNat = 45)) (hv : 604799 < 3600 * x + 60 * y + z) : pparse t = (0, 3) := by
  unfold pparse
  rw [if_neg h45, h]
  unfold psum pres
  dsimp only
  rw [if_neg (by simp), if_pos (by omega)]
theorem pparse_far_minus {t : List UInt8} {x y z : Int} (h : psplit t = some (x, y, z)) (hv : 604799 < 3600 * x + 60 * y + z) : pparse (45 :: t) = (0, 3) := by
  unfold pparse
  rw [if_pos ⟨by simp, rfl⟩, show (45 :: t).drop 1 = t from rfl, h]
  unfold psum pres
  dsimp only
  rw [if_pos rfl, if_neg (by omega), if_pos (by omega)]
theorem parse_as {t : List UInt8} {p : Int × Int} (h : pparse t = p) (hl : t.length < 4611686018427387904) : F_offset_Parse [.s t] = some [.i p.1, .i p.2] := by rw [parse_at hl, h]
theorem parse_isD {c : Int} (hc : 0 ≤ c ∧ c ≤ 255) : isD (UInt8.ofNat c.toNat) = decide (48 ≤ c ∧ c ≤ 57) := by
  unfold isD
  have : (UInt8.ofNat c.toNat).toNat = c.toNat := by simp; omega
  rw [this, decide_eq_decide]; omega
theorem law_OffsetRefuses {n f c : Int} (hn : 0 ≤ n ∧ n ≤ 4294967295) (hf : 0 ≤ f ∧ f ≤ 4294967295) (hc : 0 ≤ c ∧ c ≤ 255) : F_law04_OffsetRefuses [.i n, .i f, .i c] = some [.b true] := by
  obtain ⟨y, hy⟩ : ∃ y : Nat, n % 604800 = y := ⟨(n % 604800).toNat, by omega⟩
  obtain ⟨h, hh⟩ : ∃ h : Nat, 168 + f % 832 = h := ⟨(168 + f % 832).toNat, by omega⟩
  have hy1 : y ≤ 604799 := by omega
  have h1 : 168 ≤ h := by omega
  have h2 : h < 1000 := by omega
  have E1 : i64 (604800 + i64 f) = 604800 + f := by rw [i64_in f (by omega), i64_in _ (by omega)]
  have E2 : i64 (0 - (604800 + f)) = -(604800 + f) := by rw [i64_in _ (by omega)]; omega
  have E3 : u32 (168 + Int.tmod f 832) = h := by rw [tmod_nn hf.1, hh, u32_in _ (by omega)]
  have E4 : i64 (Int.tmod n 604800) = y := by rw [tmod_nn hn.1, hy, i64_in _ (by omega)]
  have p1 := print_out (x := 604800 + f) (by omega)
  have p2 := print_out (x := -(604800 + f)) (by omega)
  have p3 := print_out (x := 9223372036854775807) (by omega)
  have p4 := print_out (x := -9223372036854775808) (by omega)
  have p5 := print_at (x := (y : Int)) (by omega) (by omega)
  have q1 : pr (y : Int) = prN y := by unfold pr; rw [if_neg (by omega)]; rfl
  rw [q1] at p5
  have ly := prN_len y hy1
  have d3 : decDigits h = [Dg (h / 100), Dg (h / 10 % 10), Dg (h % 10)] := by rw [dec3 h2, if_neg (by omega), if_neg (by omega)]
  have k1 : (48 + (h : Int) / 100).toNat = 48 + h / 100 := by omega
  have k2 : (48 + (h : Int) / 10 % 10).toNat = 48 + h / 10 % 10 := by omega
  have k3 : (48 + (h : Int) % 10).toNat = 48 + h % 10 := by omega
  have B : bytesOf [(Ax.AV.int .u8 (Ax.I.sym (u8 (48 + (u8 (u32 (Int.tdiv (h : Int) 100))))))), (Ax.AV.int .u8 (Ax.I.sym (u8 (48 + (u8 (Int.tmod (u32 (Int.tdiv (h : Int) 10)) 10)))))), (Ax.AV.int .u8 (Ax.I.sym (u8 (48 + (u8 (Int.tmod (h : Int) 10))))))] = some (decDigits h) := by
    rw [d3]
    simp (disch := omega) only [onI_c, onS_c, onB_c, onN_c, onL_c, Option.bind_some, Option.map_some, cond_true, cond_false, ↓onI_c, ↓onS_c, ↓onB_c, ↓onN_c, ↓onL_c, ↓Option.bind_some, ↓cond_true, ↓cond_false, decide_eq_true, decide_eq_false, Bool.not_true, Bool.not_false, i64_in, u8_in, u32_in, i32_in, u16_in, u64_in, Int.toNat_natCast, List.length_append, List.length_cons, List.length_nil, tdiv_nn, tmod_nn, List.drop_zero, Nat.zero_add, Nat.add_zero, decT, decF, bneI_t, bneI_f, bytesOf_nil, bytesOf_cons, Isym_v, Ilit_v, k1, k2, k3]
    rfl
  have l3 : (decDigits h).length = 3 := by rw [d3]; rfl
  have hd0 := dec_head h2 []
  rw [List.append_nil] at hd0
  have a1 := parse_as (pparse_far (psplit_h h2) hd0 (by omega)) (by omega)
  have a2 : F_offset_Parse [.s (decDigits h ++ [58, 48, 48])] = some [.i 0, .i 3] := parse_as (pparse_far (psplit_hm h2 (m := 0) (by omega)) (dec_head h2 _) (by omega)) (by simp [l3, twoD])
  have a3 : F_offset_Parse [.s (decDigits h ++ [58, 53, 57, 58, 53, 57])] = some [.i 0, .i 3] := parse_as (pparse_far (psplit_hms h2 (m := 59) (s := 59) (by omega) (by omega)) (dec_head h2 _) (by omega)) (by simp [l3, twoD])
  have a4 : F_offset_Parse [.s ([45] ++ decDigits h)] = some [.i 0, .i 3] := parse_as (pparse_far_minus (psplit_h h2) (by omega)) (by simp [l3])
  have b1 : F_offset_Parse [.s ([32] ++ prN y)] = some [.i 0, .i 5] := parse_as (pparse_head rfl (by decide)) (by simp; omega)
  have b2 : F_offset_Parse [.s (prN y ++ [32])] = some [.i 0, .i 5] := parse_as (pparse_behind hy1 rfl) (by simp; omega)
  have b3 : F_offset_Parse [.s ([43] ++ prN y)] = some [.i 0, .i 5] := parse_as (pparse_head rfl (by decide)) (by simp; omega)
  have b4 : F_offset_Parse [.s ([45, 45] ++ prN y)] = some [.i 0, .i 5] := parse_as (pparse_minus2 _) (by simp; omega)
  have b5 : F_offset_Parse [.s (prN y ++ [58])] = some [.i 0, .i 5] := parse_as (pparse_behind hy1 rfl) (by simp; omega)
  have b6 : F_offset_Parse [.s ([58] ++ prN y)] = some [.i 0, .i 5] := parse_as (pparse_head rfl (by decide)) (by simp; omega)
  have b7 : F_offset_Parse [.s (prN y ++ [45])] = some [.i 0, .i 5] := parse_as (pparse_behind hy1 rfl) (by simp; omega)
  have b8 : F_offset_Parse [.s ([48, 48] ++ prN y)] = some [.i 0, .i 5] := parse_as (pparse_zeros _) (by simp; omega)
  have c1 : ∀ w : Int, isD (UInt8.ofNat c.toNat) = false → F_offset_Parse [.s (prN y ++ [UInt8.ofNat c.toNat])] = some [.i 0, .i 5] := fun _ hd => parse_as (pparse_behind hy1 hd) (by simp; omega)
  rw [parse_isD hc] at c1
  clear hy hh k1 k2 k3 q1 hd0 d3 hn hf
  have z : (([] : List UInt8) == []) = true := rfl
  unfold F_law04_OffsetRefuses
  by_cases h9 : 48 ≤ c ∧ c ≤ 57
  · clear c1
    obtain ⟨h9a, h9b⟩ := h9
    simp (disch := omega) only [onI_c, onS_c, onB_c, onN_c, onL_c, Option.bind_some, Option.map_some, cond_true, cond_false, ↓onI_c, ↓onS_c, ↓onB_c, ↓onN_c, ↓onL_c, ↓Option.bind_some, ↓cond_true, ↓cond_false, decide_eq_true, decide_eq_false, Bool.not_true, Bool.not_false, Int.toNat_natCast, List.length_append, List.length_cons, List.length_nil, List.drop_zero, Nat.zero_add, Nat.add_zero, decT, decF, bneI_t, bneI_f, E1, E2, E3, E4, p1, p2, p3, p4, p5, z, B, l3, a1, a2, a3, a4, b1, b2, b3, b4, b5, b6, b7, b8, works_at]
  · have c2 := c1 0 (decide_eq_false h9)
    clear c1
    by_cases h58 : c = 58
    · subst h58
      simp (disch := omega) only [onI_c, onS_c, onB_c, onN_c, onL_c, Option.bind_some, Option.map_some, cond_true, cond_false, ↓onI_c, ↓onS_c, ↓onB_c, ↓onN_c, ↓onL_c, ↓Option.bind_some, ↓cond_true, ↓cond_false, decide_eq_true, decide_eq_false, Bool.not_true, Bool.not_false, Int.toNat_natCast, List.length_append, List.length_cons, List.length_nil, List.drop_zero, Nat.zero_add, Nat.add_zero, decT, decF, bneI_t, bneI_f, E1, E2, E3, E4, p1, p2, p3, p4, p5, z, B, l3, a1, a2, a3, a4, b1, b2, b3, b4, b5, b6, b7, b8, works_at]
    · by_cases h48 : 48 ≤ c
      · simp (disch := omega) only [onI_c, onS_c, onB_c, onN_c, onL_c, Option.bind_some, Option.map_some, cond_true, cond_false, ↓onI_c, ↓onS_c, ↓onB_c, ↓onN_c, ↓onL_c, ↓Option.bind_some, ↓cond_true, ↓cond_false, decide_eq_true, decide_eq_false, Bool.not_true, Bool.not_false, Int.toNat_natCast, List.length_append, List.length_cons, List.length_nil, List.drop_zero, Nat.zero_add, Nat.add_zero, decT, decF, bneI_t, bneI_f, E1, E2, E3, E4, p1, p2, p3, p4, p5, z, B, l3, a1, a2, a3, a4, b1, b2, b3, b4, b5, b6, b7, b8, works_at, bytesOf_nil, bytesOf_cons, Isym_v, c2]
      · simp (disch := omega) only [onI_c, onS_c, onB_c, onN_c, onL_c, Option.bind_some, Option.map_some, cond_true, cond_false, ↓onI_c, ↓onS_c, ↓onB_c, ↓onN_c, ↓onL_c, ↓Option.bind_some, ↓cond_true, ↓cond_false, decide_eq_true, decide_eq_false, Bool.not_true, Bool.not_false, Int.toNat_natCast, List.length_append, List.length_cons, List.length_nil, List.drop_zero, Nat.zero_add, Nat.add_zero, decT, decF, bneI_t, bneI_f, E1, E2, E3, E4, p1, p2, p3, p4, p5, z, B, l3, a1, a2, a3, a4, b1, b2, b3, b4, b5, b6, b7, b8, works_at, bytesOf_nil, bytesOf_cons, Isym_v, c2]
theorem lawP_OffsetRefuses {dats : List Dat} (h : DatOk tau [.int .u32, .int .u32, .int .u8] dats) : F_law04_OffsetRefuses dats = some [.b true] := by
  obtain ⟨x, r, rfl, hx, y, r, rfl, hy, z, r, rfl, hz, rfl⟩ := h
  exact law_OffsetRefuses (wf_u32 hx) (wf_u32 hy) (wf_u8 hz)
end Go.Proofs.YtdpjkapaphelhaaDoor
