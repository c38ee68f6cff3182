/-
  A part of the name of a zone: what name.all says of it.
-/
import Derived.Test.YtgmmcmfnniaekaaDoorFnal
import Derived.Test.YtgmmcmfnniaekaaDoorAx32
namespace Go.Proofs.YtgmmcmfnniaekaaDoor.Za
open Go.Ax
open Go.Proofs.YtgmmcmfnniaekaaDoor
set_option linter.all false
set_option maxRecDepth 100000
def tbl : List AV := [(Ax.AV.int .u8 (Ax.I.lit 0)), (Ax.AV.int .u8 (Ax.I.lit 0)), (Ax.AV.int .u8 (Ax.I.lit 0)), (Ax.AV.int .u8 (Ax.I.lit 0)), (Ax.AV.int .u8 (Ax.I.lit 0)), (Ax.AV.int .u8 (Ax.I.lit 0)), (Ax.AV.int .u8 (Ax.I.lit 0)), (Ax.AV.int .u8 (Ax.I.lit 0)), (Ax.AV.int .u8 (Ax.I.lit 0)), (Ax.AV.int .u8 (Ax.I.lit 0)), (Ax.AV.int .u8 (Ax.I.lit 0)), (Ax.AV.int .u8 (Ax.I.lit 0)), (Ax.AV.int .u8 (Ax.I.lit 0)), (Ax.AV.int .u8 (Ax.I.lit 0)), (Ax.AV.int .u8 (Ax.I.lit 0)), (Ax.AV.int .u8 (Ax.I.lit 0)), (Ax.AV.int .u8 (Ax.I.lit 0)), (Ax.AV.int .u8 (Ax.I.lit 0)), (Ax.AV.int .u8 (Ax.I.lit 0)), (Ax.AV.int .u8 (Ax.I.lit 0)), (Ax.AV.int .u8 (Ax.I.lit 0)), (Ax.AV.int .u8 (Ax.I.lit 0)), (Ax.AV.int .u8 (Ax.I.lit 0)), (Ax.AV.int .u8 (Ax.I.lit 0)), (Ax.AV.int .u8 (Ax.I.lit 0)), (Ax.AV.int .u8 (Ax.I.lit 0)), (Ax.AV.int .u8 (Ax.I.lit 0)), (Ax.AV.int .u8 (Ax.I.lit 0)), (Ax.AV.int .u8 (Ax.I.lit 0)), (Ax.AV.int .u8 (Ax.I.lit 0)), (Ax.AV.int .u8 (Ax.I.lit 0)), (Ax.AV.int .u8 (Ax.I.lit 0)), (Ax.AV.int .u8 (Ax.I.lit 0)), (Ax.AV.int .u8 (Ax.I.lit 0)), (Ax.AV.int .u8 (Ax.I.lit 0)), (Ax.AV.int .u8 (Ax.I.lit 0)), (Ax.AV.int .u8 (Ax.I.lit 0)), (Ax.AV.int .u8 (Ax.I.lit 0)), (Ax.AV.int .u8 (Ax.I.lit 0)), (Ax.AV.int .u8 (Ax.I.lit 0)), (Ax.AV.int .u8 (Ax.I.lit 0)), (Ax.AV.int .u8 (Ax.I.lit 0)), (Ax.AV.int .u8 (Ax.I.lit 0)), (Ax.AV.int .u8 (Ax.I.lit 16)), (Ax.AV.int .u8 (Ax.I.lit 0)), (Ax.AV.int .u8 (Ax.I.lit 4)), (Ax.AV.int .u8 (Ax.I.lit 8)), (Ax.AV.int .u8 (Ax.I.lit 0)), (Ax.AV.int .u8 (Ax.I.lit 2)), (Ax.AV.int .u8 (Ax.I.lit 2)), (Ax.AV.int .u8 (Ax.I.lit 2)), (Ax.AV.int .u8 (Ax.I.lit 2)), (Ax.AV.int .u8 (Ax.I.lit 2)), (Ax.AV.int .u8 (Ax.I.lit 2)), (Ax.AV.int .u8 (Ax.I.lit 2)), (Ax.AV.int .u8 (Ax.I.lit 2)), (Ax.AV.int .u8 (Ax.I.lit 2)), (Ax.AV.int .u8 (Ax.I.lit 2)), (Ax.AV.int .u8 (Ax.I.lit 0)), (Ax.AV.int .u8 (Ax.I.lit 0)), (Ax.AV.int .u8 (Ax.I.lit 0)), (Ax.AV.int .u8 (Ax.I.lit 0)), (Ax.AV.int .u8 (Ax.I.lit 0)), (Ax.AV.int .u8 (Ax.I.lit 0)), (Ax.AV.int .u8 (Ax.I.lit 0)), (Ax.AV.int .u8 (Ax.I.lit 1)), (Ax.AV.int .u8 (Ax.I.lit 1)), (Ax.AV.int .u8 (Ax.I.lit 1)), (Ax.AV.int .u8 (Ax.I.lit 1)), (Ax.AV.int .u8 (Ax.I.lit 1)), (Ax.AV.int .u8 (Ax.I.lit 1)), (Ax.AV.int .u8 (Ax.I.lit 1)), (Ax.AV.int .u8 (Ax.I.lit 1)), (Ax.AV.int .u8 (Ax.I.lit 1)), (Ax.AV.int .u8 (Ax.I.lit 1)), (Ax.AV.int .u8 (Ax.I.lit 1)), (Ax.AV.int .u8 (Ax.I.lit 1)), (Ax.AV.int .u8 (Ax.I.lit 1)), (Ax.AV.int .u8 (Ax.I.lit 1)), (Ax.AV.int .u8 (Ax.I.lit 1)), (Ax.AV.int .u8 (Ax.I.lit 1)), (Ax.AV.int .u8 (Ax.I.lit 1)), (Ax.AV.int .u8 (Ax.I.lit 1)), (Ax.AV.int .u8 (Ax.I.lit 1)), (Ax.AV.int .u8 (Ax.I.lit 1)), (Ax.AV.int .u8 (Ax.I.lit 1)), (Ax.AV.int .u8 (Ax.I.lit 1)), (Ax.AV.int .u8 (Ax.I.lit 1)), (Ax.AV.int .u8 (Ax.I.lit 1)), (Ax.AV.int .u8 (Ax.I.lit 1)), (Ax.AV.int .u8 (Ax.I.lit 1)), (Ax.AV.int .u8 (Ax.I.lit 0)), (Ax.AV.int .u8 (Ax.I.lit 0)), (Ax.AV.int .u8 (Ax.I.lit 0)), (Ax.AV.int .u8 (Ax.I.lit 0)), (Ax.AV.int .u8 (Ax.I.lit 4)), (Ax.AV.int .u8 (Ax.I.lit 0)), (Ax.AV.int .u8 (Ax.I.lit 1)), (Ax.AV.int .u8 (Ax.I.lit 1)), (Ax.AV.int .u8 (Ax.I.lit 1)), (Ax.AV.int .u8 (Ax.I.lit 1)), (Ax.AV.int .u8 (Ax.I.lit 1)), (Ax.AV.int .u8 (Ax.I.lit 1)), (Ax.AV.int .u8 (Ax.I.lit 1)), (Ax.AV.int .u8 (Ax.I.lit 1)), (Ax.AV.int .u8 (Ax.I.lit 1)), (Ax.AV.int .u8 (Ax.I.lit 1)), (Ax.AV.int .u8 (Ax.I.lit 1)), (Ax.AV.int .u8 (Ax.I.lit 1)), (Ax.AV.int .u8 (Ax.I.lit 1)), (Ax.AV.int .u8 (Ax.I.lit 1)), (Ax.AV.int .u8 (Ax.I.lit 1)), (Ax.AV.int .u8 (Ax.I.lit 1)), (Ax.AV.int .u8 (Ax.I.lit 1)), (Ax.AV.int .u8 (Ax.I.lit 1)), (Ax.AV.int .u8 (Ax.I.lit 1)), (Ax.AV.int .u8 (Ax.I.lit 1)), (Ax.AV.int .u8 (Ax.I.lit 1)), (Ax.AV.int .u8 (Ax.I.lit 1)), (Ax.AV.int .u8 (Ax.I.lit 1)), (Ax.AV.int .u8 (Ax.I.lit 1)), (Ax.AV.int .u8 (Ax.I.lit 1)), (Ax.AV.int .u8 (Ax.I.lit 1)), (Ax.AV.int .u8 (Ax.I.lit 0)), (Ax.AV.int .u8 (Ax.I.lit 0)), (Ax.AV.int .u8 (Ax.I.lit 0)), (Ax.AV.int .u8 (Ax.I.lit 0)), (Ax.AV.int .u8 (Ax.I.lit 0))]
def cl (b : UInt8) : Int := (asI .u8 tbl[b.toNat]?).getD 0
theorem byte_all {p : UInt8 → Bool} (h : (List.range 256).all (fun n => p (UInt8.ofNat n)) = true) (b : UInt8) : p b = true := by
  have hb : b.toNat < 256 := b.toNat_lt
  have := List.all_eq_true.1 h b.toNat (List.mem_range.2 hb)
  rwa [UInt8.ofNat_toNat] at this
theorem tbl_at (b : UInt8) (h : b.toNat < 128) : asI .u8 tbl[b.toNat]? = some (cl b) := by
  have := byte_all (p := fun b => !decide (b.toNat < 128) || decide (asI .u8 tbl[b.toNat]? = some (cl b))) (by decide +kernel) b
  simp [h] at this; exact this
/-- Bytes of names of zones; those with which a part may begin. -/
def okb (b : UInt8) : Bool := decide (b.toNat < 128) && !decide (cl b = 0)
def oka (b : UInt8) : Bool := okb b && !decide ((b.toNat : Int) = 46) && !decide ((b.toNat : Int) = 45)
def okAt (k : Nat) (b : UInt8) : Bool := okb b && (decide (0 < k) || (!decide ((b.toNat : Int) = 46) && !decide ((b.toNat : Int) = 45)))
def partOk (s : List UInt8) : Bool := match s with
  | [] => false
  | x :: l => oka x && l.all okb && decide (l.length ≤ 13)
theorem all_step {s : List UInt8} {k : Nat} (hk : k < s.length) (hl : s.length < 4611686018427387904) :
    F_name_all_L0 [.s s, .i ((s.length : Nat) : Int), .i ((k : Nat) : Int)] = if okAt k (s.getD k 0) = true then some (.inl [.s s, .i ((s.length : Nat) : Int), .i ((k + 1 : Nat) : Int)]) else some (.inr [.b false]) := by
  have e1 : i64 ((k : Int) + 1) = ((k + 1 : Nat) : Int) := by rw [i64_in _ (by omega)]; omega
  have e2 : ((k : Nat) : Int).toNat = k := Int.toNat_natCast k
  have h1 : ((k : Nat) : Int) < ((s.length : Nat) : Int) := by omega
  have h2 : 0 ≤ ((k : Nat) : Int) ∧ ((k : Nat) : Int) < ((s.length : Nat) : Int) := by omega
  have h3 : decide ((0 : Int) < ((k : Nat) : Int)) = decide (0 < k) := by by_cases h : 0 < k <;> simp [h]
  unfold F_name_all_L0
  change (bif (decide (((k : Nat) : Int) < ((s.length : Nat) : Int))) then _ else _) = _
  generalize hb : s.getD k 0 = b
  have hbt := tbl_at b
  have hn : ((b.toNat : Nat) : Int).toNat = b.toNat := Int.toNat_natCast _
  change (bif (decide (((k : Nat) : Int) < ((s.length : Nat) : Int))) then (bif (decide ((0 ≤ ((k : Nat) : Int)) ∧ (((k : Nat) : Int) < ((s.length : Nat) : Int)))) then _ else _) else _) = _
  by_cases h4 : b.toNat < 128
  · have hT := hbt h4
    unfold tbl at hT
    have h5 : ¬ (128 : Int) ≤ ((b.toNat : Nat) : Int) := by omega
    have h6 : 0 ≤ ((b.toNat : Nat) : Int) ∧ ((b.toNat : Nat) : Int) < 128 := by omega
    simp only [h1, h2, e2, hb, hn, h5, h6, hT, e1, h3, onI_c, onS_c, onB_c, onN_c, onL_c, Option.bind_some, Option.map_some, cond_true, cond_false, ↓onI_c, ↓onS_c, ↓onB_c, ↓onN_c, ↓onL_c, ↓Option.bind_some, ↓cond_true, ↓cond_false, decide_eq_true, decide_eq_false, Bool.not_true, Bool.not_false, Int.toNat_natCast, List.length_append, List.length_cons, List.length_nil, List.drop_zero, Nat.zero_add, Nat.add_zero, decT, decF, bneI_t, bneI_f, decide_true, decide_false, and_self, true_and, and_true]
    simp only [okAt, okb, h4, decide_true, Bool.true_and]
    by_cases c0 : cl b = 0
    · simp [c0]
    · by_cases c1 : 0 < k
      · simp [c0, c1]
      · by_cases c2 : ((b.toNat : Nat) : Int) = 46
        · simp [c0, c1, c2]
        · by_cases c3 : ((b.toNat : Nat) : Int) = 45
          · simp [c0, c1, c2, c3]
          · simp [c0, c1, c2, c3]
  · have h5 : (128 : Int) ≤ ((b.toNat : Nat) : Int) := by omega
    simp only [h1, h2, e2, hb, hn, h5, onI_c, onS_c, onB_c, onN_c, onL_c, Option.bind_some, Option.map_some, cond_true, cond_false, ↓onI_c, ↓onS_c, ↓onB_c, ↓onN_c, ↓onL_c, ↓Option.bind_some, ↓cond_true, ↓cond_false, decide_eq_true, decide_eq_false, Bool.not_true, Bool.not_false, Int.toNat_natCast, List.length_append, List.length_cons, List.length_nil, List.drop_zero, Nat.zero_add, Nat.add_zero, decT, decF, bneI_t, bneI_f, decide_true, decide_false, and_self, true_and, and_true]
    simp [okAt, okb, h4]
theorem all_end {s : List UInt8} {k : Nat} (hk : k = s.length) : F_name_all_L0 [.s s, .i ((s.length : Nat) : Int), .i ((k : Nat) : Int)] = some (.inr [.b true]) := by
  unfold F_name_all_L0
  have h1 : ¬ ((k : Nat) : Int) < ((s.length : Nat) : Int) := by omega
  simp only [h1, onI_c, onS_c, onB_c, onN_c, onL_c, Option.bind_some, Option.map_some, cond_true, cond_false, ↓onI_c, ↓onS_c, ↓onB_c, ↓onN_c, ↓onL_c, ↓Option.bind_some, ↓cond_true, ↓cond_false, decide_eq_true, decide_eq_false, Bool.not_true, Bool.not_false, Int.toNat_natCast, List.length_append, List.length_cons, List.length_nil, List.drop_zero, Nat.zero_add, Nat.add_zero, decT, decF, bneI_t, bneI_f, decide_false]
theorem all_run {s : List UInt8} (hl : s.length < 4611686018427387904) : ∀ (n k : Nat), 0 < k → k + n = s.length → iter F_name_all_L0 [.s s, .i ((s.length : Nat) : Int), .i ((k : Nat) : Int)] = some [.b ((s.drop k).all okb)]
  | 0, k, h0, h => by
    rw [iter_end (all_end (by omega)), List.drop_of_length_le (by omega)]; rfl
  | n + 1, k, h0, h => by
    have hk : k < s.length := by omega
    have hd : s.drop k = s.getD k 0 :: s.drop (k + 1) := by
      rw [List.drop_eq_getElem_cons hk]; simp [List.getD, hk]
    have hs := all_step hk hl
    have ho : okAt k (s.getD k 0) = okb (s.getD k 0) := by simp [okAt, h0]
    rw [hd, List.all_cons]
    rw [ho] at hs
    cases hb : okb (s.getD k 0) with
    | true => rw [hb, if_pos rfl] at hs; rw [iter_next hs, all_run hl n (k + 1) (by omega) (by omega), Bool.true_and]
    | false => rw [hb, if_neg (by simp)] at hs; rw [iter_end hs]; rfl
theorem all_at {s : List UInt8} : F_name_all [.s s, .i 1, .i 14] = some [.b (partOk s)] := by
  unfold F_name_all
  cases s with
  | nil => rfl
  | cons x l =>
    have h1 : ¬ (((x :: l).length : Nat) : Int) < 1 := by simp; omega
    by_cases h2 : 14 < (((x :: l).length : Nat) : Int)
    · have h3 : ¬ l.length ≤ 13 := by simp at h2; omega
      have d1 : decide ((((x :: l).length : Nat) : Int) < 1) = false := decide_eq_false h1
      have d2 : decide (14 < (((x :: l).length : Nat) : Int)) = true := decide_eq_true h2
      change Option.bind (bif (decide ((((x :: l).length : Nat) : Int) < 1)) then (some true) else (bif (decide (14 < (((x :: l).length : Nat) : Int))) then (some true) else (some false))) (fun b => bif b then _ else _) = _
      rw [d1, d2]
      simp [partOk, h3]
    · have h3 : l.length ≤ 13 := by simp at h2; omega
      have hl : (x :: l).length < 4611686018427387904 := by simp; omega
      have hs := all_step (s := x :: l) (k := 0) (by simp) hl
      have hz : (x :: l).getD 0 0 = x := rfl
      have ho : okAt 0 x = oka x := by simp [okAt, oka, Bool.and_assoc]
      rw [hz, ho] at hs
      have key : iter F_name_all_L0 [.s (x :: l), .i (((x :: l).length : Nat) : Int), .i 0] = some [.b (partOk (x :: l))] := by
        cases hb : oka x with
        | true => rw [hb, if_pos rfl] at hs; rw [show (0 : Int) = ((0 : Nat) : Int) from rfl, iter_next hs, all_run hl l.length 1 (by omega) (by simp; omega)]; simp [partOk, hb, h3]
        | false => rw [hb, if_neg (by simp)] at hs; rw [show (0 : Int) = ((0 : Nat) : Int) from rfl, iter_end hs]; simp [partOk, hb]
      have d1 : decide ((((x :: l).length : Nat) : Int) < 1) = false := decide_eq_false h1
      have d2 : decide (14 < (((x :: l).length : Nat) : Int)) = false := decide_eq_false h2
      change Option.bind (bif (decide ((((x :: l).length : Nat) : Int) < 1)) then (some true) else (bif (decide (14 < (((x :: l).length : Nat) : Int))) then (some true) else (some false))) (fun b => bif b then _ else _) = _
      rw [d1, d2]
      exact key
end Go.Proofs.YtgmmcmfnniaekaaDoor.Za
