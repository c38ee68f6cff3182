/-
  Fields in quotes, as a whole or in parts.
-/
import Derived.Test.YtgehedalhppehaaDoorMDftlex
namespace Go.Proofs.YtgehedalhppehaaDoor
open Go.Ax Go.Lib
set_option linter.all false
set_option maxHeartbeats 4000000
set_option maxRecDepth 100000
attribute [local congr] cond_cong bind_cong onI_cong onB_cong onS_cong onN_cong onL_cong

def qs (x : List UInt8) (a b : Nat) : List UInt8 := (((((([34] ++ List.take a x) ++ [34, 34]) ++ List.take (b - a) (List.drop a x)) ++ [34, 34]) ++ List.take (x.length - b) (List.drop b x)) ++ [34])
theorem wrB_sub {x y : List UInt8} (h : wrB x = true) (hy : ∀ c ∈ y, c ∈ x) : wrB y = true := by
  unfold wrB at h ⊢
  rw [List.all_eq_true] at h ⊢
  exact fun c hc => h c (hy c hc)
theorem qs_fs {x : List UInt8} (h : wrB x = true) {a b : Nat} (hab : a ≤ b) (hb : b ≤ x.length) (out : List (List UInt8)) (t : List UInt8) : fs false false out [] (qs x a b ++ t) = fs false true out x t := by
  have e : qs x a b ++ t = 34 :: (List.take a x ++ (34 :: 34 :: (List.take (b - a) (List.drop a x) ++ (34 :: 34 :: (List.take (x.length - b) (List.drop b x) ++ (34 :: t)))))) := by unfold qs; simp
  have h1 : wrB (List.take a x) = true := wrB_sub h fun c hc => List.mem_of_mem_take hc
  have h2 : wrB (List.take (b - a) (List.drop a x)) = true := wrB_sub h fun c hc => List.mem_of_mem_drop (List.mem_of_mem_take hc)
  have h3 : wrB (List.take (x.length - b) (List.drop b x)) = true := wrB_sub h fun c hc => List.mem_of_mem_drop (List.mem_of_mem_take hc)
  rw [e, fs_q, show (!false) = true from rfl, fs_inq h1, fs_q, show (!true) = false from rfl, fs_q, show (!false) = true from rfl, fs_inq h2, fs_q, show (!true) = false from rfl, fs_q, show (!false) = true from rfl, fs_inq h3, fs_q]
  have e2 : [] ++ List.take a x ++ List.take (b - a) (List.drop a x) ++ List.take (x.length - b) (List.drop b x) = x := by
    rw [List.nil_append, List.take_of_length_le (l := List.drop b x) (by simp), show List.take a x ++ List.take (b - a) (List.drop a x) = List.take b x by
      rw [← List.take_add, show a + (b - a) = b by omega]]
    exact List.take_append_drop b x
  rw [e2]
  rfl
theorem qs_length {x : List UInt8} {a b : Nat} (hab : a ≤ b) (hb : b ≤ x.length) : (qs x a b).length = x.length + 6 := by
  unfold qs
  simp only [List.length_append, List.length_take, List.length_drop, List.length_cons, List.length_nil]
  omega
/-- A line, and what it has been made of. -/
def Made (line : List UInt8) (ys : List (List UInt8)) : Prop := (ys = [] ∧ line = []) ∨ ∃ zs z, ys = zs ++ [z] ∧ ∀ t, fs false false [] [] (line ++ t) = fs false true zs z t
theorem lexemeQuotes {cells : List AV} {ds : List (List UInt8)} (hr : Rows cells ds) (fr to : Int) (hf : 0 ≤ fr ∧ fr ≤ 255) (ht : 0 ≤ to ∧ to ≤ 255) : F_law05_LexemeQuotes [.n ds.length, .l cells, .i fr, .i to] = some [.b true] := by
  have hw : F_law05_works [] = some [.b true] := rfl
  obtain ⟨l, m1, m2⟩ := made_at hr rfl
  obtain ⟨o1, o2, o3⟩ := madeV_ok ds
  generalize madeV ds = xs at *
  have ef : i64 fr = fr := i64_in _ (by omega)
  have et : i64 to = to := i64_in _ (by omega)
  have run : ∀ (m i : Nat) (line : List UInt8), i + m = xs.length → line.length ≤ i * 19 → Made line (xs.take i) →
      iter F_law05_LexemeQuotes_L0 [.i fr, .i to, .n xs.length, .l l, .s line, .n xs.length, .l l, .i ((xs.length : Nat) : Int), .i ((i : Nat) : Int)] = some [.b true] := by
    intro m
    induction m with
    | zero =>
      intro i line hi hl hm
      rw [List.take_of_length_le (by omega)] at hm
      have hfs : fs false false [] [] line = some xs := by
        rcases hm with ⟨h1, h2⟩ | ⟨zs, z, h1, h2⟩
        · rw [h1, h2]; rfl
        · have := h2 []
          rw [List.append_nil] at this
          rw [this, h1]; rfl
      obtain ⟨r, k1, k2⟩ := fields_at line (by omega)
      rw [fieldsV_of (by omega) hfs] at k1 k2
      have e := equal_at k2 m2 rfl rfl (by show xs.length < _; omega)
      rw [decide_eq_true rfl] at e
      dsimp only at k1 e
      refine iter_end ?_
      unfold F_law05_LexemeQuotes_L0
      clear hm hfs k2 m2 hr
      simp (disch := omega) only [onI_c, onS_c, onB_c, onN_c, onL_c, Option.bind_some, Option.map_some, cond_true, cond_false, ↓onI_c, ↓onS_c, ↓onB_c, ↓onN_c, ↓onL_c, ↓Option.bind_some, ↓cond_true, ↓cond_false, decide_eq_true, decide_eq_false, Bool.not_true, Bool.not_false, Int.toNat_natCast, List.length_append, List.length_cons, List.length_nil, List.drop_zero, Nat.zero_add, Nat.add_zero, decT, decF, bneI_t, bneI_f, k1, e, hw]
    | succ m ih =>
      intro i line hi hl hm
      have hlt : i < xs.length := by omega
      have g1 := strsOf_get m2 hlt
      have g4 : i64 ((i : Int) + 1) = ((i + 1 : Nat) : Int) := by rw [i64_in _ (by omega)]; omega
      have hxi : xs.getD i [] = xs[i] := by simp [List.getD, hlt]
      have hmem : xs.getD i [] ∈ xs := by rw [hxi]; exact List.getElem_mem hlt
      have hxl := o2 _ hmem
      have hwx := List.all_eq_true.1 o3 _ hmem
      have htk : xs.take (i + 1) = xs.take i ++ [xs.getD i []] := by rw [List.take_succ, List.getElem?_eq_getElem hlt, hxi]; rfl
      generalize xs.getD i [] = x at *
      have e1 : i64 (((x.length : Nat) : Int) + 1) = ((x.length + 1 : Nat) : Int) := by rw [i64_in _ (by omega)]; omega
      obtain ⟨a, ha⟩ : ∃ a : Nat, fr % ((x.length + 1 : Nat) : Int) = (a : Int) := ⟨(fr % ((x.length + 1 : Nat) : Int)).toNat, by
        have := Int.emod_nonneg fr (show ((x.length + 1 : Nat) : Int) ≠ 0 by omega); omega⟩
      have ha2 : a ≤ x.length := by have := Int.emod_lt_of_pos fr (show (0 : Int) < ((x.length + 1 : Nat) : Int) by omega); omega
      have e2 : Int.tmod fr ((x.length + 1 : Nat) : Int) = ((a : Nat) : Int) := by rw [tmod_nn hf.1, ha]
      have e3 : i64 (((x.length : Nat) : Int) - ((a : Nat) : Int)) = ((x.length - a : Nat) : Int) := by rw [i64_in _ (by omega)]; omega
      have e4 : i64 (((x.length - a : Nat) : Int) + 1) = ((x.length - a + 1 : Nat) : Int) := by rw [i64_in _ (by omega)]; omega
      obtain ⟨d, hd⟩ : ∃ d : Nat, to % ((x.length - a + 1 : Nat) : Int) = (d : Int) := ⟨(to % ((x.length - a + 1 : Nat) : Int)).toNat, by
        have := Int.emod_nonneg to (show ((x.length - a + 1 : Nat) : Int) ≠ 0 by omega); omega⟩
      have hd2 : d ≤ x.length - a := by have := Int.emod_lt_of_pos to (show (0 : Int) < ((x.length - a + 1 : Nat) : Int) by omega); omega
      have e5 : Int.tmod to ((x.length - a + 1 : Nat) : Int) = ((d : Nat) : Int) := by rw [tmod_nn ht.1, hd]
      have e6 : i64 (((a : Nat) : Int) + ((d : Nat) : Int)) = ((a + d : Nat) : Int) := by rw [i64_in _ (by omega)]; omega
      have hab : a ≤ a + d := by omega
      have hbx : a + d ≤ x.length := by omega
      have hql := qs_length hab hbx
      have n1 : (((x.length + 1 : Nat) : Int) != 0) = true := bneI_t (by omega)
      have n2 : (((x.length - a + 1 : Nat) : Int) != 0) = true := bneI_t (by omega)
      have t1 : (List.take a x).length = a := by rw [List.length_take]; omega
      have t2 : (List.take (a + d - a) (List.drop a x)).length = d := by rw [List.length_take, List.length_drop]; omega
      have t3 : (List.take (x.length - (a + d)) (List.drop (a + d) x)).length = x.length - (a + d) := by rw [List.length_take, List.length_drop]; omega
      have hfs := fun out t => qs_fs hwx hab hbx out t
      have hl3 : line.length ≤ 300 := by have : i * 19 ≤ 12 * 19 := Nat.mul_le_mul_right _ (by omega); omega
      by_cases hi0 : i = 0
      · have hm2 : Made (line ++ qs x a (a + d)) (xs.take (i + 1)) := by
          rw [htk]
          refine .inr ⟨xs.take i, x, rfl, fun t => ?_⟩
          rcases hm with ⟨h1, h2⟩ | ⟨zs, z, h1, h2⟩
          · rw [h1, h2, List.nil_append]; exact hfs [] t
          · exfalso; rw [hi0] at h1; simp at h1
        have k := ih (i + 1) (line ++ qs x a (a + d)) (by omega) (by rw [List.length_append, hql]; omega) hm2
        rw [iter_next (y := [.i fr, .i to, .n xs.length, .l l, .s (line ++ qs x a (a + d)), .n xs.length, .l l, .i ((xs.length : Nat) : Int), .i ((i + 1 : Nat) : Int)]), k]
        unfold F_law05_LexemeQuotes_L0 qs
        clear ih k hm hm2 m2 hr hfs o2 o3 hmem htk hxi
        simp (disch := omega) only [onI_c, onS_c, onB_c, onN_c, onL_c, Option.bind_some, Option.map_some, cond_true, cond_false, ↓onI_c, ↓onS_c, ↓onB_c, ↓onN_c, ↓onL_c, ↓Option.bind_some, ↓cond_true, ↓cond_false, decide_eq_true, decide_eq_false, Bool.not_true, Bool.not_false, Int.toNat_natCast, List.length_append, List.length_cons, List.length_nil, List.drop_zero, Nat.zero_add, Nat.add_zero, decT, decF, bneI_t, bneI_f, g1, g4, ef, et, e1, e2, e3, e4, e5, e6, n1, n2, t1, t2, t3]
      · have hm2 : Made ((line ++ [9]) ++ qs x a (a + d)) (xs.take (i + 1)) := by
          rw [htk]
          refine .inr ⟨xs.take i, x, rfl, fun t => ?_⟩
          rcases hm with ⟨h1, h2⟩ | ⟨zs, z, h1, h2⟩
          · exfalso
            have := congrArg List.length h1
            rw [List.length_take, List.length_nil] at this; omega
          · rw [List.append_assoc, List.append_assoc, h2, List.singleton_append, fs_gap (.inl rfl), h1]
            exact hfs _ t
        have k := ih (i + 1) ((line ++ [9]) ++ qs x a (a + d)) (by omega) (by rw [List.length_append, List.length_append, hql, List.length_singleton]; omega) hm2
        rw [iter_next (y := [.i fr, .i to, .n xs.length, .l l, .s ((line ++ [9]) ++ qs x a (a + d)), .n xs.length, .l l, .i ((xs.length : Nat) : Int), .i ((i + 1 : Nat) : Int)]), k]
        unfold F_law05_LexemeQuotes_L0 qs
        clear ih k hm hm2 m2 hr hfs o2 o3 hmem htk hxi
        simp (disch := omega) only [onI_c, onS_c, onB_c, onN_c, onL_c, Option.bind_some, Option.map_some, cond_true, cond_false, ↓onI_c, ↓onS_c, ↓onB_c, ↓onN_c, ↓onL_c, ↓Option.bind_some, ↓cond_true, ↓cond_false, decide_eq_true, decide_eq_false, Bool.not_true, Bool.not_false, Int.toNat_natCast, List.length_append, List.length_cons, List.length_nil, List.drop_zero, Nat.zero_add, Nat.add_zero, decT, decF, bneI_t, bneI_f, g1, g4, ef, et, e1, e2, e3, e4, e5, e6, n1, n2, t1, t2, t3]
  have k0 := run xs.length 0 [] (by omega) (by simp) (.inl ⟨by simp, rfl⟩)
  unfold F_law05_LexemeQuotes
  clear run m2 o2 o3 hr
  simp (disch := omega) only [onI_c, onS_c, onB_c, onN_c, onL_c, Option.bind_some, Option.map_some, cond_true, cond_false, ↓onI_c, ↓onS_c, ↓onB_c, ↓onN_c, ↓onL_c, ↓Option.bind_some, ↓cond_true, ↓cond_false, decide_eq_true, decide_eq_false, Bool.not_true, Bool.not_false, Int.toNat_natCast, List.length_append, List.length_cons, List.length_nil, List.drop_zero, Nat.zero_add, Nat.add_zero, decT, decF, bneI_t, bneI_f, m1]
  exact k0
theorem lawP_LexemeQuotes {dats : List Dat} (h : DatOk tau [.slice 45, .int .u8, .int .u8] dats) : F_law05_LexemeQuotes dats = some [.b true] := by
  obtain ⟨n, c, r, rfl, hc, a, r2, rfl, ha, b, r3, rfl, hb, rfl⟩ := h
  obtain ⟨ds, hd, rfl⟩ := rows_of (e2 := 5) (by kernel_rfl) (by kernel_rfl) hc
  exact lexemeQuotes hd a b (wf_u8 ha) (wf_u8 hb)
end Go.Proofs.YtgehedalhppehaaDoor
