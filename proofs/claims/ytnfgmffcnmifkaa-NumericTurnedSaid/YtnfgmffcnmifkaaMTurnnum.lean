/-
  Numeric abbreviations: shifted sets.
-/
import Derived.Test.YtnfgmffcnmifkaaMExpLnum
import Derived.Lib.IndexLaws
namespace Go.Proofs.Ytnfgmffcnmifkaa
open Go.Ax
set_option linter.all false
set_option maxHeartbeats 8000000
attribute [local congr] cond_cong bind_cong onI_cong onB_cong onS_cong onN_cong onL_cong

def mk (z : Int) : Rul := ⟨[82], 0, 0, 0, 0, 0, 0, 0, 0, z, []⟩
def ints (L : List AV) (zs : List Int) : Prop := L.length = zs.length ∧ ∀ (i : Nat) (z : Int), zs[i]? = some z → asI .i64 L[i]? = some z
theorem row_mk (z : Int) : Rul.Rep [(Ax.AV.str (Ax.S.lit ([82] : List UInt8))), (Ax.AV.int .i64 (Ax.I.lit 0)), (Ax.AV.int .i64 (Ax.I.lit 0)), (Ax.AV.int .i64 (Ax.I.lit 0)), (Ax.AV.int .i64 (Ax.I.lit 0)), (Ax.AV.int .i64 (Ax.I.lit 0)), (Ax.AV.int .i64 (Ax.I.lit 0)), (Ax.AV.int .i64 (Ax.I.lit 0)), (Ax.AV.int .i64 (Ax.I.lit 0)), (Ax.AV.int .i64 (Ax.I.sym z)), (Ax.AV.str (Ax.S.lit ([] : List UInt8)))] [mk z] :=
  .one rfl ⟨rfl, rfl, rfl, rfl, rfl, rfl, rfl, rfl, rfl, rfl, rfl⟩
theorem drop_getI {rs : List Int} {i : Nat} {r : Int} {t : List Int} (h : rs.drop i = r :: t) : rs[i]? = some r ∧ rs.drop (i + 1) = t ∧ i < rs.length := by
  have h1 : rs[i]? = some r := by
    have := List.getElem?_drop (xs := rs) (i := i) (j := 0)
    rw [h] at this; simpa using this.symm
  refine ⟨h1, ?_, (List.getElem?_eq_some_iff.1 h1).1⟩
  rw [← List.drop_drop, h]; rfl
theorem saves_loop {L : List AV} {zs : List Int} (hL : ints L zs) (hl : zs.length ≤ 1000000) : ∀ (t : List Int) (i : Nat) (c : List AV) (rs : List Rul), zs.drop i = t → Rul.Rep c rs → rs.length = i →
    ∃ c', iter F_law20_saves_L0 [.n i, .n zs.length, .l L, .i ((zs.length : Nat) : Int), .i (i : Int), .l c] = some [.n (i + t.length), .l c'] ∧ Rul.Rep c' (rs ++ t.map mk) := by
  intro t
  induction t with
  | nil =>
    intro i c rs h hc hi
    have hd : zs.length ≤ i := by
      have := List.length_drop (i := i) (l := zs)
      rw [h] at this; simp at this; omega
    have hcl := hc.closed
    have hlen := hc.len
    refine ⟨c, ?_, by rw [List.map_nil, List.append_nil]; exact hc⟩
    refine iter_end ?_
    unfold F_law20_saves_L0
    clear hc hL
    simp (disch := omega) only [onI_c, onS_c, onB_c, onN_c, onL_c, Option.bind_some, Option.map_some, cond_true, cond_false, ↓onI_c, ↓onS_c, ↓onB_c, ↓onN_c, ↓onL_c, ↓Option.bind_some, ↓cond_true, ↓cond_false, decide_eq_true, decide_eq_false, Bool.not_true, Bool.not_false, Int.toNat_natCast, List.length_append, List.length_cons, List.length_nil, List.drop_zero, Nat.zero_add, Nat.add_zero, decT, decF, bneI_t, bneI_f, hcl]
  | cons z t ih =>
    intro i c rs h hc hi
    obtain ⟨h1, h2, h3⟩ := drop_getI h
    have hz := hL.2 i z h1
    have hc2 := hc.append (row_mk z)
    have hcl := hc2.closed
    have hlen := hc.len
    obtain ⟨c', h4, h5⟩ := ih (i + 1) _ (rs ++ [mk z]) h2 hc2 (by simp [hi])
    refine ⟨c', ?_, by rw [List.map_cons]; simpa using h5⟩
    have e1 : i64 ((i : Int) + 1) = ((i + 1 : Nat) : Int) := by rw [i64_in _ (by omega)]; omega
    rw [List.length_cons, show i + (t.length + 1) = i + 1 + t.length by omega, ← h4]
    refine iter_next ?_
    unfold F_law20_saves_L0
    clear ih h4 h5 hc hc2 hL h h1 h2
    simp (disch := omega) only [onI_c, onS_c, onB_c, onN_c, onL_c, Option.bind_some, Option.map_some, cond_true, cond_false, ↓onI_c, ↓onS_c, ↓onB_c, ↓onN_c, ↓onL_c, ↓Option.bind_some, ↓cond_true, ↓cond_false, decide_eq_true, decide_eq_false, Bool.not_true, Bool.not_false, Int.toNat_natCast, List.length_append, List.length_cons, List.length_nil, List.drop_zero, Nat.zero_add, Nat.add_zero, decT, decF, bneI_t, bneI_f, hz, hcl, e1]
theorem saves_at {L : List AV} {zs : List Int} (hL : ints L zs) (hl : zs.length ≤ 1000000) : ∃ c, F_law20_saves [.n zs.length, .l L] = some [.n zs.length, .l c] ∧ Rul.Rep c (zs.map mk) := by
  obtain ⟨c, h1, h2⟩ := saves_loop hL hl zs 0 [] [] (by rw [List.drop_zero]) .nil rfl
  refine ⟨c, ?_, by simpa using h2⟩
  unfold F_law20_saves
  simp only [onN_c, onL_c]
  rw [Nat.zero_add] at h1
  exact h1
theorem ints3 {a b c : AV} {x y z : Int} (ha : asI .i64 (some a) = some x) (hb : asI .i64 (some b) = some y) (hc : asI .i64 (some c) = some z) : ints [a, b, c] [x, y, z] := by
  refine ⟨rfl, fun i w h => ?_⟩
  match i with
  | 0 => cases h; exact ha
  | 1 => cases h; exact hb
  | 2 => cases h; exact hc
  | i + 3 => simp at h

/-! Slashes. -/
theorem index_no {s : List UInt8} {c : UInt8} (h : c ∉ s) : Lib.index s [c] = -1 := by
  induction s with
  | nil => rfl
  | cons b s ih =>
    have hb : (c == b) = false := beq_f (fun e => h (e ▸ List.mem_cons_self ..))
    unfold Lib.index
    rw [show List.isPrefixOf [c] (b :: s) = false by simp [List.isPrefixOf, hb], ih (fun q => h (List.mem_cons_of_mem _ q))]
    rfl
theorem index_at {s t : List UInt8} {c : UInt8} (h : c ∉ s) : Lib.index (s ++ c :: t) [c] = s.length := by
  induction s with
  | nil =>
    rw [List.nil_append]; unfold Lib.index
    rw [show List.isPrefixOf [c] (c :: t) = true by simp [List.isPrefixOf]]; rfl
  | cons b s ih =>
    have hb : (c == b) = false := beq_f (fun e => h (e ▸ List.mem_cons_self ..))
    rw [List.cons_append]
    unfold Lib.index
    rw [show List.isPrefixOf [c] (b :: (s ++ c :: t)) = false by simp [List.isPrefixOf, hb], ih (fun q => h (List.mem_cons_of_mem _ q))]
    have : ((s.length : Int) == -1) = false := beq_f (by omega)
    rw [this, List.length_cons]; simp
theorem dg_ne {q : Int} (h : 0 ≤ q ∧ q ≤ 9) : (47 : UInt8) ≠ dg q := by
  intro e
  have := dg_val h
  rw [← e] at this
  have e47 : (((47 : UInt8).toNat : Nat) : Int) = 47 := rfl
  omega
theorem NB_no {n : Int} (h : 0 ≤ n ∧ n ≤ 86399) {c : UInt8} (hc : (47 : UInt8) ≠ c) : (47 : UInt8) ∉ c :: NB n := by
  have d1 := dg_ne (q := n / 3600 / 10) (by omega)
  have d2 := dg_ne (q := n / 3600 % 10) (by omega)
  have d3 := dg_ne (q := n / 60 % 60 / 10) (by omega)
  have d4 := dg_ne (q := n / 60 % 60 % 10) (by omega)
  have d5 := dg_ne (q := n % 60 / 10) (by omega)
  have d6 := dg_ne (q := n % 60 % 10) (by omega)
  rcases NB_cases h c with ⟨_, e⟩ | ⟨_, _, e⟩ | ⟨_, _, e⟩ <;> rw [e] <;> simp only [List.mem_cons, List.not_mem_nil, or_false, not_or] <;> exact ⟨by assumption, by assumption, by first | assumption | exact ⟨by assumption, by first | assumption | exact ⟨by assumption, by first | assumption | exact ⟨by assumption, by assumption, by assumption⟩⟩⟩⟩
theorem NT_no (x : Int) : (47 : UInt8) ∉ NT x := by
  by_cases h : x < -86399 ∨ 86399 < x
  · rw [NT_out h]; simp
  · by_cases h0 : x < 0
    · obtain ⟨n, rfl⟩ : ∃ n, x = -n := ⟨-x, by omega⟩
      rw [NT_neg (by omega)]; exact NB_no (by omega) (by decide)
    · rw [NT_pos (by omega)]; exact NB_no (by omega) (by decide)
theorem contains_no {s : List UInt8} (h : (47 : UInt8) ∉ s) (hl : s.length ≤ 100) : F_strings_Contains [.s s, .s [47]] = some [.b false] := by
  have e : strIndex [.s s, .s [47]] = some [.i (-1)] := by
    unfold strIndex; simp only [onS_c]; rw [if_pos (by omega), index_no h]
  unfold F_strings_Contains
  simp (disch := omega) only [onI_c, onS_c, onB_c, onN_c, onL_c, Option.bind_some, Option.map_some, cond_true, cond_false, ↓onI_c, ↓onS_c, ↓onB_c, ↓onN_c, ↓onL_c, ↓Option.bind_some, ↓cond_true, ↓cond_false, decide_eq_true, decide_eq_false, Bool.not_true, Bool.not_false, Int.toNat_natCast, List.length_append, List.length_cons, List.length_nil, List.drop_zero, Nat.zero_add, Nat.add_zero, decT, decF, bneI_t, bneI_f, e]
theorem cut_at {s t : List UInt8} (h : (47 : UInt8) ∉ s) (hl : s.length ≤ 100) (hl' : t.length ≤ 100) : F_strings_Cut [.s (s ++ 47 :: t), .s [47]] = some [.s s, .s t, .b true] := by
  have e : strIndex [.s (s ++ 47 :: t), .s [47]] = some [.i (s.length : Int)] := by
    unfold strIndex; simp only [onS_c]; rw [if_pos (by rw [List.length_append, List.length_cons]; omega), index_at h]
  have hle : (s ++ 47 :: t).length = s.length + t.length + 1 := by simp; omega
  have e1 : i64 ((s.length : Int) + ((([47] : List UInt8).length : Nat) : Int)) = ((s.length + 1 : Nat) : Int) := by
    rw [show ((([47] : List UInt8).length : Nat) : Int) = 1 from rfl, i64_in _ (by omega)]; omega
  have e2 : List.take s.length (s ++ 47 :: t) = s := List.take_left
  have e3 : List.drop (s.length + 1) (s ++ 47 :: t) = t := by
    rw [← List.drop_drop, List.drop_left]; rfl
  have e4 : List.take (s.length + t.length + 1 - (s.length + 1)) t = t := List.take_of_length_le (by omega)
  have hc : F_internal_stringslite_Cut [.s (s ++ 47 :: t), .s [47]] = some [.s s, .s t, .b true] := by
    unfold F_internal_stringslite_Cut
    generalize hw : s ++ 47 :: t = w at *
    simp only [onS_c, e, Option.bind_some, onI_c, e1, hle, e2, e3, e4, Int.toNat_natCast, List.drop_zero]
    simp (disch := omega) only [onI_c, onS_c, onB_c, onN_c, onL_c, Option.bind_some, Option.map_some, cond_true, cond_false, ↓onI_c, ↓onS_c, ↓onB_c, ↓onN_c, ↓onL_c, ↓Option.bind_some, ↓cond_true, ↓cond_false, decide_eq_true, decide_eq_false, Bool.not_true, Bool.not_false, Int.toNat_natCast, List.length_append, List.length_cons, List.length_nil, List.drop_zero, Nat.zero_add, Nat.add_zero, decT, decF, bneI_t, bneI_f]
  unfold F_strings_Cut
  simp only [onS_c, hc, Option.bind_some, onB_c]

theorem oth3 {y : Int} (h : y ≠ 0) : oth 0 ([0, y, 0].map mk) = (y, true) ∧ oth 0 ([y, 0, y].map mk) = (y, true) := by
  have d : decide (y ≠ 0) = true := decide_eq_true h
  constructor
  · show oth 0 [mk 0, mk y, mk 0] = _
    simp [oth, mk, h]
  · show oth 0 [mk y, mk 0, mk y] = _
    simp [oth, mk, h]
theorem EX_two (o sv : Int) (rs : List Rul) : EX o 2 sv rs = if (oth 0 rs).2 = true then J2 (NT o) (NT (o + (oth 0 rs).1)) else if sav rs = true then [.s [], .i 14] else J1 (NT o) := rfl
theorem lawP_NumericTurned {dats : List Dat} (h : DatOk tau [.int .i32, .int .i16] dats) : F_law20_NumericTurned dats = some [.b true] := by
  obtain ⟨m, r, rfl, hm, n, r, rfl, hn, rfl⟩ := h
  have hm := wf_i32 hm
  have hn := wf_i16 hn
  have bx : -54000 ≤ Int.tmod m 54001 ∧ Int.tmod m 54001 ≤ 54000 := by
    have h1 := Int.tmod_lt_of_pos m (b := 54001) (by omega)
    have h2 := Int.lt_tmod_of_pos m (b := 54001) (by omega)
    omega
  have by_ : -10800 ≤ Int.tmod n 10801 ∧ Int.tmod n 10801 ≤ 10800 := by
    have h1 := Int.tmod_lt_of_pos n (b := 10801) (by omega)
    have h2 := Int.lt_tmod_of_pos n (b := 10801) (by omega)
    omega
  unfold F_law20_NumericTurned
  have e1 : i64 (Int.tmod m 54001) = Int.tmod m 54001 := i64_in _ (by omega)
  have e2 : i64 (Int.tmod n 10801) = Int.tmod n 10801 := i64_in _ (by omega)
  simp only [onI_c, e1, e2]
  clear e1 e2
  generalize Int.tmod m 54001 = x at *
  generalize Int.tmod n 10801 = y at *
  clear hm hn
  have e3 : i64 (0 - y) = -y := by rw [i64_in _ (by omega)]; omega
  have e4 : i64 (x + y) = x + y := i64_in _ (by omega)
  rw [e3, e4]
  obtain ⟨c1, s1, r1⟩ := saves_at (ints3 (a := .int .i64 (.lit 0)) (b := .int .i64 (.sym y)) (c := .int .i64 (.lit 0)) (x := 0) (y := y) (z := 0) rfl rfl rfl) (by simp)
  obtain ⟨c2, s2, r2⟩ := saves_at (ints3 (a := .int .i64 (.sym (-y))) (b := .int .i64 (.lit 0)) (c := .int .i64 (.sym (-y))) (x := -y) (y := 0) (z := -y) rfl rfl rfl) (by simp)
  have s1 : F_law20_saves [.n 3, .l [(Ax.AV.int .i64 (Ax.I.lit 0)), (Ax.AV.int .i64 (Ax.I.sym y)), (Ax.AV.int .i64 (Ax.I.lit 0))]] = some [.n 3, .l c1] := s1
  have s2 : F_law20_saves [.n 3, .l [(Ax.AV.int .i64 (Ax.I.sym (-y))), (Ax.AV.int .i64 (Ax.I.lit 0)), (Ax.AV.int .i64 (Ax.I.sym (-y)))]] = some [.n 3, .l c2] := s2
  have l1 : ([(Ax.AV.int .i64 (Ax.I.lit 0)), (Ax.AV.int .i64 (Ax.I.sym y)), (Ax.AV.int .i64 (Ax.I.lit 0))] : List AV).length = 3 := rfl
  have l2 : ([(Ax.AV.int .i64 (Ax.I.sym (-y))), (Ax.AV.int .i64 (Ax.I.lit 0)), (Ax.AV.int .i64 (Ax.I.sym (-y)))] : List AV).length = 3 := rfl
  have hs1 : ∀ r ∈ [0, y, 0].map mk, In64 r.fSave := by
    intro r hr
    obtain ⟨z, hz, rfl⟩ := List.mem_map.1 hr
    simp at hz; unfold In64; show -9223372036854775808 ≤ z ∧ z ≤ 9223372036854775807; omega
  have hs2 : ∀ r ∈ [-y, 0, -y].map mk, In64 r.fSave := by
    intro r hr
    obtain ⟨z, hz, rfl⟩ := List.mem_map.1 hr
    simp at hz; unfold In64; show -9223372036854775808 ≤ z ∧ z ≤ 9223372036854775807; omega
  have p1 := exp_at (o := x) (k := 2) (sv := 0) (x3 := 0) (x4 := 0) (x5 := 0) (x6 := 0) (x7 := 0) (x8 := 0) (x9 := 0) (s1 := []) (s2 := []) (b := false) r1 (by simp) hs1 (by unfold In64; omega) (by unfold In64; omega)
  have p2 := exp_at (o := x + y) (k := 2) (sv := 0) (x3 := 0) (x4 := 0) (x5 := 0) (x6 := 0) (x7 := 0) (x8 := 0) (x9 := 0) (s1 := []) (s2 := []) (b := false) r2 (by simp) hs2 (by unfold In64; omega) (by unfold In64; omega)
  have p1 : F_numeric_Expansion [.i x, .i 2, .i 0, .s [], .s [], .b false, .i 0, .i 0, .i 0, .i 0, .i 0, .i 0, .i 0, .n 3, .l c1] = _ := p1
  have p2 : F_numeric_Expansion [.i (x + y), .i 2, .i 0, .s [], .s [], .b false, .i 0, .i 0, .i 0, .i 0, .i 0, .i 0, .i 0, .n 3, .l c2] = _ := p2
  have nx := NT_ne (x := x) (by omega)
  have nxy := NT_ne (x := x + y) (by omega)
  have q1 := NT_no x
  have q2 := NT_no (x + y)
  have z1 := NT_len x
  have z2 := NT_len (x + y)
  by_cases hy : y = 0
  · subst hy
    have v1 : EX x 2 0 ([0, 0, 0].map mk) = [.s (NT x), .i 0] := by
      rw [EX_two, show (oth 0 ([0, 0, 0].map mk)).2 = false from rfl, show sav ([0, 0, 0].map mk) = false from rfl, if_neg (by simp), if_neg (by simp)]
      unfold J1; rw [if_neg nx]
    have v2 : EX (x + 0) 2 0 ([-0, 0, -0].map mk) = [.s (NT x), .i 0] := by rw [Int.add_zero]; exact v1
    rw [v1] at p1
    rw [v2] at p2
    have cn := contains_no q1 (by omega)
    clear hs1 hs2 r1 r2 q1 q2 v1 v2 nx nxy
    simp (disch := omega) only [onI_c, onS_c, onB_c, onN_c, onL_c, Option.bind_some, Option.map_some, cond_true, cond_false, ↓onI_c, ↓onS_c, ↓onB_c, ↓onN_c, ↓onL_c, ↓Option.bind_some, ↓cond_true, ↓cond_false, decide_eq_true, decide_eq_false, Bool.not_true, Bool.not_false, Int.toNat_natCast, List.length_append, List.length_cons, List.length_nil, List.drop_zero, Nat.zero_add, Nat.add_zero, decT, decF, bneI_t, bneI_f, l1, l2, s1, s2, p1, p2, cn, works_at, beq_self_eq_true, Nat.reduceLeDiff]
  · have v1 : EX x 2 0 ([0, y, 0].map mk) = [.s (NT x ++ 47 :: NT (x + y)), .i 0] := by
      rw [EX_two, (oth3 hy).1, if_pos rfl]
      unfold J2; rw [if_neg nx, if_neg nxy]
    have v2 : EX (x + y) 2 0 ([-y, 0, -y].map mk) = [.s (NT (x + y) ++ 47 :: NT x), .i 0] := by
      rw [EX_two, (oth3 (y := -y) (by omega)).2, if_pos rfl]
      have : x + y + -y = x := by omega
      unfold J2; rw [if_neg nxy, this, if_neg nx]
    rw [v1] at p1
    rw [v2] at p2
    have c1' := cut_at (t := NT (x + y)) q1 (by omega) (by omega)
    have c2' := cut_at (t := NT x) q2 (by omega) (by omega)
    clear hs1 hs2 r1 r2 q1 q2 v1 v2 nx nxy
    simp (disch := omega) only [onI_c, onS_c, onB_c, onN_c, onL_c, Option.bind_some, Option.map_some, cond_true, cond_false, ↓onI_c, ↓onS_c, ↓onB_c, ↓onN_c, ↓onL_c, ↓Option.bind_some, ↓cond_true, ↓cond_false, decide_eq_true, decide_eq_false, Bool.not_true, Bool.not_false, Int.toNat_natCast, List.length_append, List.length_cons, List.length_nil, List.drop_zero, Nat.zero_add, Nat.add_zero, decT, decF, bneI_t, bneI_f, l1, l2, s1, s2, p1, p2, c1', c2', hy, works_at, beq_self_eq_true, Nat.reduceLeDiff]
end Go.Proofs.Ytnfgmffcnmifkaa
