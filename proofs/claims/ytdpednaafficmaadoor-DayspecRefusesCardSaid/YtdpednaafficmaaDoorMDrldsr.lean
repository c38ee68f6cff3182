/-
  DayspecRefuses: the law.
-/
import Derived.Test.YtdpednaafficmaaDoorMDrfdsr
import Derived.Test.YtdpednaafficmaaDoorAxT
namespace Go.Proofs.YtdpednaafficmaaDoor
open Go.Ax Go.Lib
set_option linter.all false
set_option maxHeartbeats 8000000
set_option maxRecDepth 100000
attribute [local congr] cond_cong bind_cong onI_cong onB_cong onS_cong onN_cong onL_cong
theorem made_red {k w y : Int} (hk : 0 ≤ k ∧ k ≤ 255) (hw : 0 ≤ w ∧ w ≤ 255) (hy : 0 ≤ y ∧ y ≤ 255) : ∃ k' w' y' : Nat, k' < 4 ∧ w' < 7 ∧ y' < 31 ∧ F_law09_Made [.i k, .i w, .i y] = F_law09_Made [.i ((k' : Nat) : Int), .i ((w' : Nat) : Int), .i ((y' : Nat) : Int)] := by
  obtain ⟨k', hk1, hk2⟩ : ∃ k' : Nat, Int.tmod k 4 = ((k' : Nat) : Int) ∧ k' < 4 := ⟨(k % 4).toNat, by rw [tmod_nn hk.1]; omega, by omega⟩
  obtain ⟨w', hw1, hw2⟩ : ∃ w' : Nat, Int.tmod w 7 = ((w' : Nat) : Int) ∧ w' < 7 := ⟨(w % 7).toNat, by rw [tmod_nn hw.1]; omega, by omega⟩
  obtain ⟨y', hy1, hy2⟩ : ∃ y' : Nat, Int.tmod y 31 = ((y' : Nat) : Int) ∧ y' < 31 := ⟨(y % 31).toNat, by rw [tmod_nn hy.1]; omega, by omega⟩
  have k3 : Int.tmod ((k' : Nat) : Int) 4 = ((k' : Nat) : Int) := by rw [tmod_nn (by omega)]; omega
  have w3 : Int.tmod ((w' : Nat) : Int) 7 = ((w' : Nat) : Int) := by rw [tmod_nn (by omega)]; omega
  have y3 : Int.tmod ((y' : Nat) : Int) 31 = ((y' : Nat) : Int) := by rw [tmod_nn (by omega)]; omega
  refine ⟨k', w', y', hk2, hw2, hy2, ?_⟩
  unfold F_law09_Made
  simp only [onI_c, hk1, hw1, hy1, k3, w3, y3]
theorem byte_one (c : UInt8) : Ax.bytesOf [(Ax.AV.int .u8 (Ax.I.sym ((c.toNat : Nat) : Int)))] = some [c] := by
  simp [Ax.bytesOf]
  show UInt8.ofNat ((c.toNat : Nat) : Int).toNat = c
  simp
theorem lawP_DayspecRefuses {dats : List Dat} (h : DatOk tau [.int .u8, .int .u8, .int .u8, .int .u8, .int .u16] dats) : F_law09_DayspecRefuses dats = some [.b true] := by
  obtain ⟨k, r, rfl, hk, w, r2, rfl, hw, y, r3, rfl, hy, c, r4, rfl, hc, m, r5, rfl, hm, rfl⟩ := h
  have hc := wf_u8 hc
  obtain ⟨k', w', y', k1, w1, y1, hM⟩ := made_red (wf_u8 hk) (wf_u8 hw) (wf_u8 hy)
  obtain ⟨c8, rfl⟩ : ∃ c8 : UInt8, c = ((c8.toNat : Nat) : Int) := ⟨UInt8.ofNat c.toNat, by rw [UInt8.toNat_ofNat']; omega⟩
  obtain ⟨a, b, d, s, p, f1, f2, f3, f4, f5, f6⟩ := (form_of k1 w1 y1 c8).out
  rw [← hM] at f1
  clear hM
  have hm : 0 ≤ m ∧ m ≤ 65535 := wf_u16 hm
  have e0 : i64 m = m := i64_in _ (by omega)
  have x1 : i64 (5 + m) = 5 + m := i64_in _ (by omega)
  have x2 : i64 (0 - m) = 0 - m := i64_in _ (by omega)
  have x3 : i64 (32 + m) = 32 + m := i64_in _ (by omega)
  have x4 : i64 (1 + m) = 1 + m := i64_in _ (by omega)
  have x5 : i64 (7 + m) = 7 + m := i64_in _ (by omega)
  have x6 : i64 (-1 - m) = -1 - m := i64_in _ (by omega)
  have p1 := print_bad (k := 5 + m) (w := 0) (d := 0) (.inr (.inl (by omega)))
  have p2 := print_bad (k := 0 - m) (w := 0) (d := 0) (.inl (by omega))
  have p3 := print_bad (k := 1) (w := 0) (d := 32 + m) (.inr (.inr (.inr (.inr (.inl ⟨rfl, rfl, by omega⟩)))))
  have p4 := print_bad (k := 1) (w := 0) (d := 0 - m) (.inr (.inr (.inr (.inl ⟨rfl, rfl, by omega⟩))))
  have p5 := print_bad (k := 1) (w := 1 + m) (d := 1) (.inr (.inr (.inl ⟨rfl, by omega⟩)))
  have p6 := print_bad (k := 2) (w := 7 + m) (d := 0) (.inr (.inr (.inr (.inr (.inr (.inr (.inl ⟨rfl, by omega⟩)))))))
  have p7 := print_bad (k := 2) (w := -1 - m) (d := 0) (.inr (.inr (.inr (.inr (.inr (.inl ⟨rfl, by omega⟩))))))
  have p8 := print_bad (k := 2) (w := 0) (d := 1 + m) (.inr (.inr (.inr (.inr (.inr (.inr (.inr (.inl ⟨rfl, by omega, by omega, by omega⟩))))))))
  have p9 := print_bad (k := 3) (w := 7 + m) (d := 1) (.inr (.inr (.inr (.inr (.inr (.inr (.inr (.inr (.inr (.inl ⟨rfl, by omega⟩))))))))))
  have p10 := print_bad (k := 4) (w := 0) (d := 32 + m) (.inr (.inr (.inr (.inr (.inr (.inr (.inr (.inr (.inr (.inr (.inr (.inr (.inr (.inr (.inr (⟨rfl, by omega, by omega, by omega⟩))))))))))))))))
  have p11 := print_bad (k := 4) (w := 0) (d := 0 - m) (.inr (.inr (.inr (.inr (.inr (.inr (.inr (.inr (.inr (.inr (.inr (.inr (.inr (.inr (.inl ⟨rfl, by omega, by omega, by omega⟩)))))))))))))))
  have hwk : F_law09_works [] = some [.b true] := rfl
  have hb := byte_one c8
  unfold six at f4
  simp only [Bool.and_eq_true] at f4
  obtain ⟨⟨⟨⟨⟨s1, s2⟩, s3⟩, s4⟩, s5⟩, s6⟩ := f4
  obtain ⟨e1, q1, z1⟩ := refu_of s1
  obtain ⟨e2, q2, z2⟩ := refu_of s2
  obtain ⟨e3, q3, z3⟩ := refu_of s3
  obtain ⟨e4, q4, z4⟩ := refu_of s4
  obtain ⟨e5, q5, z5⟩ := refu_of s5
  obtain ⟨e6, q6, z6⟩ := refu_of s6
  obtain ⟨g1, g2, g3, g, hg, hcond⟩ := f6
  have l1 : (s.length + 1) ≤ 9223372036854775807 := by omega
  have l2 : (1 + s.length) ≤ 9223372036854775807 := by omega
  have l3 : (s.length + 2) ≤ 9223372036854775807 := by omega
  have l4 : (4 + s.length) ≤ 9223372036854775807 := by omega
  have l5 : (s.length + [c8].length) ≤ 9223372036854775807 := by simp; omega
  have t0 : decide ((0 : Int) = 0) = true := rfl
  have t2 : decide ((2 : Int) = 2) = true := rfl
  have tE : (([] : List UInt8) == ([] : List UInt8)) = true := rfl
  have hclt : c8.toNat < 256 := UInt8.toNat_lt c8
  clear s1 s2 s3 s4 s5 s6 hk hw hy hc
  have main : ∀ (G L H : Bool), decide (g = 0) = G → decide (((c8.toNat : Nat) : Int) < 48) = L → decide (57 < ((c8.toNat : Nat) : Int)) = H →
      ((G = true ∧ ((L = false ∧ H = false) ∨ p = true)) ∨ (G = false ∧ g1 = 0 ∧ g2 = 0 ∧ g3 = 0)) → F_law09_DayspecRefuses [.i k, .i w, .i y, .i ((c8.toNat : Nat) : Int), .i m] = some [.b true] := by
    intro G L H hG hL hH hcase
    clear hcond
    unfold F_law09_DayspecRefuses
    rcases hcase with ⟨rfl, hq⟩ | ⟨rfl, rfl, rfl, rfl⟩
    · rcases hq with ⟨rfl, rfl⟩ | rfl
      · simp only [f1, f2, f5, l1, l2, l3, l4, l5, q1, q2, q3, q4, q5, q6, z1, z2, z3, z4, z5, z6, hb, hg, hG, hL, hH, e0, x1, x2, x3, x4, x5, x6, p1, p2, p3, p4, p5, p6, p7, p8, p9, p10, p11, hwk, t0, t2, tE, decide_true, onI_c, onS_c, onB_c, Option.bind_some, cond_true, cond_false, ↓onI_c, ↓onS_c, ↓onB_c, ↓Option.bind_some, ↓cond_true, ↓cond_false, Bool.not_true, Bool.not_false, Bool.and_self, Bool.and_true]
      · cases L <;> cases H <;> simp only [f1, f2, f5, l1, l2, l3, l4, l5, q1, q2, q3, q4, q5, q6, z1, z2, z3, z4, z5, z6, hb, hg, hG, hL, hH, e0, x1, x2, x3, x4, x5, x6, p1, p2, p3, p4, p5, p6, p7, p8, p9, p10, p11, hwk, t0, t2, tE, decide_true, onI_c, onS_c, onB_c, Option.bind_some, cond_true, cond_false, ↓onI_c, ↓onS_c, ↓onB_c, ↓Option.bind_some, ↓cond_true, ↓cond_false, Bool.not_true, Bool.not_false, Bool.and_self, Bool.and_true]
    · cases L <;> cases H <;> simp only [f1, f2, f5, l1, l2, l3, l4, l5, q1, q2, q3, q4, q5, q6, z1, z2, z3, z4, z5, z6, hb, hg, hG, hL, hH, e0, x1, x2, x3, x4, x5, x6, p1, p2, p3, p4, p5, p6, p7, p8, p9, p10, p11, hwk, t0, t2, tE, decide_true, onI_c, onS_c, onB_c, Option.bind_some, cond_true, cond_false, ↓onI_c, ↓onS_c, ↓onB_c, ↓Option.bind_some, ↓cond_true, ↓cond_false, Bool.not_true, Bool.not_false, Bool.and_self, Bool.and_true]
  refine main _ _ _ rfl rfl rfl ?_
  rcases hcond with ⟨rfl, hq⟩ | ⟨hne, h1, h2, h3⟩
  · refine .inl ⟨rfl, ?_⟩
    rcases hq with ⟨h48, h57⟩ | hp
    · exact .inl ⟨decide_eq_false (by omega), decide_eq_false (by omega)⟩
    · exact .inr hp
  · exact .inr ⟨decide_eq_false hne, h1, h2, h3⟩
end Go.Proofs.YtdpednaafficmaaDoor
