/-
  Days as text: letters of any size (facts about such strings).
-/
import Derived.Test.YtdpednaafficmaaDoorFdsw
import Derived.Test.YtdpednaafficmaaDoorAxT
import Derived.Test.YtdpednaafficmaaDoorAx32
import Derived.Test.YtdpednaafficmaaDoorHWordFind
import Derived.Lib.Case
import Derived.Test.YtdpednaafficmaaDoorMSmlwsm
namespace Go.Proofs.YtdpednaafficmaaDoor
open Go.Ax Go.Lib
set_option linter.all false
set_option maxHeartbeats 4000000
set_option maxRecDepth 100000
attribute [local congr] cond_cong bind_cong onI_cong onB_cong onS_cong onN_cong onL_cong

/-- The same letters, some of them capital ones. -/
def co : List UInt8 → List UInt8 → Prop
  | [], [] => True
  | a :: u, b :: s => (a = b ∨ a = upperB b) ∧ co u s
  | _, _ => False
theorem co_refl : ∀ s : List UInt8, co s s
  | [] => trivial
  | b :: s => ⟨.inl rfl, co_refl s⟩
theorem co_len : ∀ {u s : List UInt8}, co u s → u.length = s.length
  | [], [], _ => rfl
  | a :: u, b :: s, h => by rw [List.length_cons, List.length_cons, co_len h.2]
  | [], _ :: _, h => h.elim
  | _ :: _, [], h => h.elim
theorem u8_all {p : UInt8 → Bool} (h : (List.range 256).all (fun n => p (UInt8.ofNat n)) = true) (b : UInt8) : p b = true := by
  have := List.all_eq_true.1 h b.toNat (List.mem_range.2 (UInt8.toNat_lt b))
  rwa [UInt8.ofNat_toNat] at this
theorem upper_upper (b : UInt8) : upperB (upperB b) = upperB b :=
  eq_of_beq (u8_all (p := fun b => upperB (upperB b) == upperB b) (by decide +kernel) b)
theorem co_set : ∀ {u s : List UInt8}, co u s → ∀ i, co (u.set i (upperB (u.getD i 0))) s
  | [], [], _, _ => trivial
  | a :: u, b :: s, h, 0 => ⟨.inr (by
      show upperB a = upperB b
      rcases h.1 with rfl | rfl
      · rfl
      · exact upper_upper b), h.2⟩
  | a :: u, b :: s, h, i + 1 => ⟨h.1, co_set h.2 i⟩
  | [], _ :: _, h, _ => h.elim
  | _ :: _, [], h, _ => h.elim
theorem co_append : ∀ {s1 s2 u : List UInt8}, co u (s1 ++ s2) → ∃ u1 u2, u = u1 ++ u2 ∧ co u1 s1 ∧ co u2 s2
  | [], s2, u, h => ⟨[], u, rfl, trivial, h⟩
  | b :: s1, s2, [], h => h.elim
  | b :: s1, s2, a :: u, h => by
    obtain ⟨u1, u2, rfl, h1, h2⟩ := co_append h.2
    exact ⟨a :: u1, u2, rfl, ⟨h.1, h1⟩, h2⟩
theorem co_eq : ∀ {u s : List UInt8}, co u s → (∀ b ∈ s, upperB b = b) → u = s
  | [], [], _, _ => rfl
  | a :: u, b :: s, h, hs => by
    rw [co_eq h.2 fun c hc => hs c (List.mem_cons_of_mem _ hc)]
    rcases h.1 with rfl | rfl
    · rfl
    · rw [hs b (List.mem_cons_self ..)]
  | [], _ :: _, h, _ => h.elim
  | _ :: _, [], h, _ => h.elim
/-- What holds of all bytes, and of the capital ones. -/
theorem co_all {p : UInt8 → Bool} : ∀ {u s : List UInt8}, co u s → (∀ b ∈ s, p b = true ∧ p (upperB b) = true) → ∀ a ∈ u, p a = true
  | [], [], _, _, a, ha => by cases ha
  | a :: u, b :: s, h, hs, c, hc => by
    rcases List.mem_cons.1 hc with rfl | hc
    · rcases h.1 with rfl | rfl
      · exact (hs _ (List.mem_cons_self ..)).1
      · exact (hs b (List.mem_cons_self ..)).2
    · exact co_all h.2 (fun c hc => hs c (List.mem_cons_of_mem _ hc)) c hc
  | [], _ :: _, h, _, _, _ => h.elim
  | _ :: _, [], h, _, _, _ => h.elim
theorem low1_upper (b : UInt8) : Sm.low1 (upperB b) = Sm.low1 b :=
  eq_of_beq (u8_all (p := fun b => Sm.low1 (upperB b) == Sm.low1 b) (by decide +kernel) b)
theorem co_small : ∀ {u s : List UInt8}, co u s → Sm.smallV u = Sm.smallV s
  | [], [], _ => rfl
  | a :: u, b :: s, h => by
    have ih := co_small h.2
    unfold Sm.smallV at ih ⊢
    rw [List.map_cons, List.map_cons, ih]
    rcases h.1 with rfl | rfl
    · rfl
    · rw [low1_upper]
  | [], _ :: _, h => h.elim
  | _ :: _, [], h => h.elim
theorem idx_none {chars : List UInt8} : ∀ {u : List UInt8}, (∀ b ∈ u, chars.contains b = false) → indexAny u chars = -1
  | [], _ => rfl
  | b :: u, h => by
    unfold indexAny
    rw [h b (List.mem_cons_self ..), idx_none fun c hc => h c (List.mem_cons_of_mem _ hc)]
    rfl
theorem idx_at {chars : List UInt8} {o : UInt8} (ho : chars.contains o = true) {r : List UInt8} : ∀ {u : List UInt8}, (∀ b ∈ u, chars.contains b = false) → indexAny (u ++ o :: r) chars = (u.length : Int)
  | [], _ => by
    show indexAny (o :: r) chars = 0
    unfold indexAny
    rw [ho]; rfl
  | b :: u, h => by
    show indexAny (b :: (u ++ o :: r)) chars = _
    unfold indexAny
    rw [h b (List.mem_cons_self ..), idx_at ho fun c hc => h c (List.mem_cons_of_mem _ hc)]
    have hne : ((u.length : Int) == -1) = false := by
      rw [beq_eq_false_iff_ne]; omega
    rw [hne]
    simp

theorem week_same {u w : List UInt8} (hs : Sm.smallV u = Sm.smallV w) (hu : u.length ≤ 1000) (hw : w.length ≤ 1000) : F_word_Week [.s u] = F_word_Week [.s w] := by
  have key : ∀ v : List UInt8, v.length ≤ 1000 → wordFind [.s [115, 117, 110, 100, 97, 121], .s [109, 111, 110, 100, 97, 121], .s [116, 117, 101, 115, 100, 97, 121], .s [119, 101, 100, 110, 101, 115, 100, 97, 121], .s [116, 104, 117, 114, 115, 100, 97, 121], .s [102, 114, 105, 100, 97, 121], .s [115, 97, 116, 117, 114, 100, 97, 121], .s [], .s [], .s [], .s [], .s [], .i 0, .s v] =
      some [.i (findV [[115, 117, 110, 100, 97, 121], [109, 111, 110, 100, 97, 121], [116, 117, 101, 115, 100, 97, 121], [119, 101, 100, 110, 101, 115, 100, 97, 121], [116, 104, 117, 114, 115, 100, 97, 121], [102, 114, 105, 100, 97, 121], [115, 97, 116, 117, 114, 100, 97, 121], [], [], [], [], []] 0 (Sm.smallV v)).1, .i (findV [[115, 117, 110, 100, 97, 121], [109, 111, 110, 100, 97, 121], [116, 117, 101, 115, 100, 97, 121], [119, 101, 100, 110, 101, 115, 100, 97, 121], [116, 104, 117, 114, 115, 100, 97, 121], [102, 114, 105, 100, 97, 121], [115, 97, 116, 117, 114, 100, 97, 121], [], [], [], [], []] 0 (Sm.smallV v)).2] := by
    intro v hv
    show (if 0 ≤ (0 : Int) ∧ (0 : Int) ≤ 1000 ∧ v.length < 4611686018427387904 then _ else none) = _
    rw [if_pos ⟨by decide, by decide, by omega⟩]
  unfold F_word_Week
  simp only [onS_c, onI_c, key u hu, key w hw, hs, Option.bind_some]
theorem ascii_all {s : List UInt8} (h : ∀ b ∈ s, b.toNat < 128) : asciiB s = true := by
  unfold asciiB
  exact List.all_eq_true.2 fun b hb => decide_eq_true (h b hb)
theorem strIdx {s : List UInt8} (hl : s.length ≤ 1000) (ha : asciiB s = true) : Ax.strIndexAny [.s s, .s [60, 62]] = some [.i (indexAny s [60, 62])] := by
  show (if s.length < 4294967281 ∧ ([60, 62] : List UInt8).length < 4294967281 ∧ asciiB s = true ∧ asciiB [60, 62] = true then some [Dat.i (indexAny s [60, 62])] else none) = _
  rw [if_pos ⟨by omega, by decide, ha, by decide⟩]
def noOp (s : List UInt8) : Prop := ∀ b ∈ s, ([60, 62] : List UInt8).contains b = false
theorem parse_op {u num : List UInt8} {o : UInt8} {kind : Int} (ho : (o = 62 ∧ kind = 3) ∨ (o = 60 ∧ kind = 4)) (hu : noOp u) (hl : u.length ≤ 100) (hn : num.length ≤ 100) (ha : asciiB (u ++ o :: 61 :: num) = true) {a b c e : Int}
    (hb : F_dayspec_between [.i kind, .s u, .s num] = some [.i a, .i b, .i c, .i e]) : F_dayspec_Parse [.s (u ++ o :: 61 :: num)] = some [.i a, .i b, .i c, .i e] := by
  have hc : ([60, 62] : List UInt8).contains o = true := by
    rcases ho with ⟨rfl, _⟩ | ⟨rfl, _⟩ <;> decide
  have hlen : (u ++ o :: 61 :: num).length = u.length + 2 + num.length := by simp; omega
  have h1 := strIdx (s := u ++ o :: 61 :: num) (by omega) ha
  rw [idx_at hc hu] at h1
  have g1 : ((u ++ o :: 61 :: num).getD u.length 0) = o := by simp [List.getD]
  have g2 : ((u ++ o :: 61 :: num).getD (u.length + 1) 0) = 61 := by simp [List.getD]
  have t1 : List.take u.length (u ++ o :: 61 :: num) = u := by simp
  have t2 : List.take ((u ++ o :: 61 :: num).length - (u.length + 2)) (List.drop (u.length + 2) (u ++ o :: 61 :: num)) = num := by
    rw [hlen, List.drop_append]
    simp
    rw [List.drop_of_length_le (by omega)]
    simp
  have e1 : i64 ((u.length : Int) + 1) = ((u.length + 1 : Nat) : Int) := by rw [i64_in _ (by omega)]; omega
  have e2 : i64 ((u.length : Int) + 2) = ((u.length + 2 : Nat) : Int) := by rw [i64_in _ (by omega)]; omega
  have hk : F__dayspec_operator__kind [.i ((o.toNat : Nat) : Int), .i (((61 : UInt8).toNat : Nat) : Int)] = some [.i kind] := by
    rcases ho with ⟨rfl, rfl⟩ | ⟨rfl, rfl⟩ <;> rfl
  have hkn : ¬ kind = 0 := by rcases ho with ⟨_, rfl⟩ | ⟨_, rfl⟩ <;> decide
  clear ho hc hu ha
  generalize hs : u ++ o :: 61 :: num = s at *
  clear hs
  unfold F_dayspec_Parse
  simp (disch := omega) only [onI_c, onS_c, onB_c, onN_c, onL_c, Option.bind_some, Option.map_some, cond_true, cond_false, ↓onI_c, ↓onS_c, ↓onB_c, ↓onN_c, ↓onL_c, ↓Option.bind_some, ↓cond_true, ↓cond_false, decide_eq_true, decide_eq_false, Bool.not_true, Bool.not_false, Int.toNat_natCast, List.length_append, List.length_cons, List.length_nil, List.drop_zero, Nat.zero_add, Nat.add_zero, decT, decF, bneI_t, bneI_f, h1, e1, e2, g1, g2, hk, t1, t2, hb]
theorem fold_last : ∀ {u : List UInt8}, co u [108, 97, 115, 116] → F_strings_EqualFold [.s u, .s [108, 97, 115, 116]] = some [.b true]
  | [a, b, c, d], h => by
    obtain ⟨h1, h2, h3, h4, _⟩ := h
    rcases h1 with rfl | rfl <;> rcases h2 with rfl | rfl <;> rcases h3 with rfl | rfl <;> rcases h4 with rfl | rfl <;> kernel_rfl
  | [], h => h.elim
  | [_], h => h.2.elim
  | [_, _], h => h.2.2.elim
  | [_, _, _], h => h.2.2.2.elim
  | _ :: _ :: _ :: _ :: _ :: _, h => h.2.2.2.2.elim
theorem parse_last {u0 u : List UInt8} (h0 : co u0 [108, 97, 115, 116]) (hu : noOp (u0 ++ u)) (hl : u.length ≤ 100) (ha : asciiB (u0 ++ u) = true) {x : Int}
    (hb : F_word_Week [.s u] = some [.i x, .i 0]) : F_dayspec_Parse [.s (u0 ++ u)] = some [.i 2, .i x, .i 0, .i 0] := by
  have hl0 := co_len h0
  have hl0 : u0.length = 4 := hl0
  have hlen : (u0 ++ u).length = 4 + u.length := by simp; omega
  have h1 := strIdx (s := u0 ++ u) (by omega) ha
  rw [idx_none hu] at h1
  have t1 : List.take 4 (u0 ++ u) = u0 := by rw [← hl0]; simp
  have t2 : List.take ((u0 ++ u).length - 4) (List.drop 4 (u0 ++ u)) = u := by
    rw [hlen, ← hl0]; simp
  have hf := fold_last h0
  clear hu ha h0
  generalize hs : u0 ++ u = s at *
  clear hs
  unfold F_dayspec_Parse
  simp (disch := omega) only [onI_c, onS_c, onB_c, onN_c, onL_c, Option.bind_some, Option.map_some, cond_true, cond_false, ↓onI_c, ↓onS_c, ↓onB_c, ↓onN_c, ↓onL_c, ↓Option.bind_some, ↓cond_true, ↓cond_false, decide_eq_true, decide_eq_false, Bool.not_true, Bool.not_false, Int.toNat_natCast, List.length_append, List.length_cons, List.length_nil, List.drop_zero, Nat.zero_add, Nat.add_zero, decT, decF, bneI_t, bneI_f, h1, t1, t2, hf, hb]

theorem dworks_at : F_law09_works [] = some [.b true] := rfl
def u7 (b : UInt8) : Bool := decide (b.toNat < 128)
theorem toUp {b : UInt8} (h : u7 b = true) : strToUpper [.s [b]] = some [.s [upperB b]] := by
  show (if ([b] : List UInt8).length ≤ 140737488355328 ∧ asciiB [b] = true then some [Dat.s (toUpperA [b])] else none) = _
  rw [if_pos ⟨by show (1 : Nat) ≤ 140737488355328; omega, ascii_all fun c hc => by
    rcases List.mem_singleton.1 hc with rfl
    exact of_decide_eq_true h⟩]
  rfl
theorem br_one {cells : List AV} {bs : List UInt8} (h : Sm.BR cells bs) {i : Nat} (hi : i < bs.length) : Ax.bytesOf (List.take (i + 1 - i) (List.drop i cells)) = some [bs.getD i 0] := by
  obtain ⟨n, h1, h2⟩ := h.2 i hi
  have hc : i < cells.length := by rw [h.1]; exact hi
  have h3 : cells[i] = .int .u8 n := by
    rw [List.getElem?_eq_getElem hc] at h1
    exact Option.some.inj h1
  rw [Nat.add_sub_cancel_left, List.drop_eq_getElem_cons hc, h3]
  refine Sm.BR.bytes (cells := [.int .u8 n]) ⟨rfl, fun j hj => ?_⟩
  have : j = 0 := by simpa using hj
  subst this
  exact ⟨n, rfl, h2⟩
theorem dloop {size least c0 c1 c2 : Int} {word s : List UInt8} {n : Nat} (hn : n = s.length) (hl : n ≤ 100) (hw : word.length ≤ 100) (ha : ∀ b ∈ s, u7 b = true ∧ u7 (upperB b) = true)
    (hQ : ∀ u, co u s → F_dayspec_Parse [.s u] = some [.i c0, .i c1, .i c2, .i 0])
    (hL : least = 2 → 1 ≤ word.length ∧ F_dayspec_Parse [.s (([108, 97, 115, 116] : List UInt8) ++ List.take 1 word)] = some [.i 0, .i 0, .i 0, .i 8]) :
    ∀ (m i : Nat) (cells : List AV) (bs : List UInt8), i + m = n → Sm.BR cells bs → co bs s →
    iter F_law09_DayspecWords_L0 [.i size, .s word, .i least, .n n, .i ((n : Nat) : Int), .i ((i : Nat) : Int), .i c0, .i c1, .i c2, .l cells] = some [.b true] := by
  intro m
  induction m with
  | zero =>
    intro i cells bs hi hb hc
    have hbl : bs.length = n := by rw [co_len hc, hn]
    have e1 := hb.bytes
    have e2 : List.take n cells = cells := List.take_of_length_le (by rw [hb.1]; omega)
    have e3 : n ≤ cells.length := by rw [hb.1]; omega
    have q := hQ bs hc
    have t5 : ∀ x : Int, decide (x = x) = true := fun x => decide_eq_true rfl
    refine iter_end ?_
    unfold F_law09_DayspecWords_L0
    clear hQ ha hb hc
    by_cases h2 : least = 2
    · obtain ⟨l1, l2⟩ := hL h2
      have t1 : (List.take 1 word).length ≤ 100 := by rw [List.length_take]; omega
      clear hL
      simp (disch := omega) only [onI_c, onS_c, onB_c, onN_c, onL_c, Option.bind_some, Option.map_some, cond_true, cond_false, ↓onI_c, ↓onS_c, ↓onB_c, ↓onN_c, ↓onL_c, ↓Option.bind_some, ↓cond_true, ↓cond_false, decide_eq_true, decide_eq_false, Bool.not_true, Bool.not_false, Int.toNat_natCast, List.length_append, List.length_cons, List.length_nil, List.drop_zero, Nat.zero_add, Nat.add_zero, decT, decF, bneI_t, bneI_f, e2, e1, q, l2, ↓t5, dworks_at, Bool.true_and]
    · clear hL
      simp (disch := omega) only [onI_c, onS_c, onB_c, onN_c, onL_c, Option.bind_some, Option.map_some, cond_true, cond_false, ↓onI_c, ↓onS_c, ↓onB_c, ↓onN_c, ↓onL_c, ↓Option.bind_some, ↓cond_true, ↓cond_false, decide_eq_true, decide_eq_false, Bool.not_true, Bool.not_false, Int.toNat_natCast, List.length_append, List.length_cons, List.length_nil, List.drop_zero, Nat.zero_add, Nat.add_zero, decT, decF, bneI_t, bneI_f, e2, e1, q, ↓t5, dworks_at, Bool.true_and]
  | succ m ih =>
    intro i cells bs hi hb hc
    have hbl : bs.length = n := by rw [co_len hc, hn]
    have hlt : i < bs.length := by omega
    have e2 : i64 ((i : Int) + 1) = ((i + 1 : Nat) : Int) := by rw [i64_in _ (by omega)]; omega
    have hcl := hb.closed
    have hcs := hb.1
    have h8 : 0 ≤ Int.tmod (i : Int) 8 := Int.tmod_nonneg _ (by omega)
    by_cases hbit : arith .and .u8 (arith .shr .u8 size (Int.tmod (i : Int) 8)) 1 = 1
    · have one := br_one hb hlt
      have h7 : u7 (bs.getD i 0) = true := co_all hc ha _ (by
        rw [List.getD_eq_getElem?_getD, List.getElem?_eq_getElem hlt]; exact List.getElem_mem hlt)
      have up := toUp h7
      have hwr := hb.write hlt (((upperB (bs.getD i 0)).toNat : Nat) : Int) (upperB (bs.getD i 0)) rfl
      have hwc := hwr.closed
      have hy := ih (i + 1) _ _ (by omega) hwr (co_set hc i)
      rw [iter_next (y := [.i size, .s word, .i least, .n n, .i ((n : Nat) : Int), .i ((i + 1 : Nat) : Int), .i c0, .i c1, .i c2, .l (Ax.write cells i [.int .u8 (.sym (((upperB (bs.getD i 0)).toNat : Nat) : Int))])]), hy]
      unfold F_law09_DayspecWords_L0
      have l1 : ([(Ax.AV.int .u8 (Ax.I.sym (((upperB (bs.getD i 0)).toNat : Nat) : Int)))]).length = 1 := rfl
      have gd : List.getD [upperB (bs.getD i 0)] 0 0 = upperB (bs.getD i 0) := rfl
      clear hy hwr ih hb hc ha hQ hL h7
      generalize upperB (bs.getD i 0) = x at *
      simp (disch := first | assumption | omega) only [onI_c, onS_c, onB_c, onN_c, onL_c, Option.bind_some, Option.map_some, cond_true, cond_false, ↓onI_c, ↓onS_c, ↓onB_c, ↓onN_c, ↓onL_c, ↓Option.bind_some, ↓cond_true, ↓cond_false, decide_eq_true, decide_eq_false, Bool.not_true, Bool.not_false, Int.toNat_natCast, List.length_append, List.length_cons, List.length_nil, List.drop_zero, Nat.zero_add, Nat.add_zero, decT, decF, bneI_t, bneI_f, e2, one, up, gd, hwc, hbit]
    · have hy := ih (i + 1) cells bs (by omega) hb hc
      rw [iter_next (y := [.i size, .s word, .i least, .n n, .i ((n : Nat) : Int), .i ((i + 1 : Nat) : Int), .i c0, .i c1, .i c2, .l cells]), hy]
      unfold F_law09_DayspecWords_L0
      clear hy ih hb hc ha hQ hL
      simp (disch := first | assumption | omega) only [onI_c, onS_c, onB_c, onN_c, onL_c, Option.bind_some, Option.map_some, cond_true, cond_false, ↓onI_c, ↓onS_c, ↓onB_c, ↓onN_c, ↓onL_c, ↓Option.bind_some, ↓cond_true, ↓cond_false, decide_eq_true, decide_eq_false, Bool.not_true, Bool.not_false, Int.toNat_natCast, List.length_append, List.length_cons, List.length_nil, List.drop_zero, Nat.zero_add, Nat.add_zero, decT, decF, bneI_t, bneI_f, e2, hcl, hbit]
theorem l1_l0 : F_law09_DayspecWords_L1 = F_law09_DayspecWords_L0 := rfl
theorem l2_l0 : F_law09_DayspecWords_L2 = F_law09_DayspecWords_L0 := rfl
end Go.Proofs.YtdpednaafficmaaDoor
