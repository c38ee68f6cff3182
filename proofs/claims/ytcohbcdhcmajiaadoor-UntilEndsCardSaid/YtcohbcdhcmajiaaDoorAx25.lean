/-
  The small abstract machine: plain data, and states.
-/
import Derived.Test.YtcohbcdhcmajiaaDoorAx24
namespace Go.Ax
open Go.RowKit
set_option linter.unusedVariables false

theorem getTmps_elim {m : List (Nat × Nat)} {s : St} : ∀ (l : List (Nat × Sh)) (d : List Dat), Tm.getTmps m s l = some d → ∃ tmps2, (∀ rest β (K : List (Nat × AV) → List Dat → O β), (Tm.elimTmps l (d ++ rest) K).run = (K tmps2 rest).run) ∧
    ∀ t y, look tmps2 t = some y → ∃ x, look s.tmps t = some x ∧ Mv m x y
  | [], d, h => by cases h; exact ⟨[], fun rest β K => rfl, fun t y q => by cases q⟩
  | (t, sh) :: l, d, h => by
    unfold Tm.getTmps at h
    split at h
    · rename_i v hv
      split at h
      · rename_i a b h1 h2
        cases h
        obtain ⟨tmps2, k1, k2⟩ := getTmps_elim l b h2
        obtain ⟨w, k3, k4⟩ := get_elim _ _ _ _ h1
        refine ⟨(t, w) :: tmps2, fun rest β K => ?_, fun t' y q => ?_⟩
        · rw [List.append_assoc, Tm.elimTmps, k3, k1]
        · rw [look] at q
          split at q
          · rename_i e; subst e; cases q; exact ⟨v, hv, k4⟩
          · exact k2 t' y q
      · cases h
    · cases h

/-- A block, and the one that stands for it. -/
def Kept (B : Nat) (m : List (Nat × Nat)) (s : St) (c : Nat) (b2 : Blk) : Prop :=
  b2.shut = false ∧ ((look m c = none ∧ B ≤ c) ∨ ∃ a l, look m c = some a ∧ look s.heap a = some (some ⟨l, false⟩) ∧ MvL m l.v b2.cells.v)

theorem getHeap_elim {β : Type} {B : Nat} {m : List (Nat × Nat)} {s : St} : ∀ (l : List (Nat × HS)) (K : List Dat → O β) (r : β), (Tm.getHeap B m s l K).run = some r → ∃ d, (K d).run = some r ∧ ∃ H2, (∀ rest γ (K2 : Heap → List Dat → O γ), (Tm.elimHeap l (d ++ rest) K2).run = (K2 H2 rest).run) ∧
    ∀ c bl, look H2 c = some bl → ∃ b2 hs, bl = some b2 ∧ (c, hs) ∈ l ∧ Kept B m s c b2
  | [], K, r, h => ⟨[], h, [], fun rest γ K2 => rfl, fun c bl q => by cases q⟩
  | (c, hs) :: l, K, r, h => by
    have step : ∀ (d0 : List Dat) (b2 : Blk), Kept B m s c b2 → (∀ rest γ (K2 : Heap → List Dat → O γ), (Tm.elimHeap ((c, hs) :: l) (d0 ++ rest) K2).run = (Tm.elimHeap l rest fun h ds => K2 ((c, some b2) :: h) ds).run) →
        (Tm.getHeap B m s l fun ds => K (d0 ++ ds)).run = some r → ∃ d, (K d).run = some r ∧ ∃ H2, (∀ rest γ (K2 : Heap → List Dat → O γ), (Tm.elimHeap ((c, hs) :: l) (d ++ rest) K2).run = (K2 H2 rest).run) ∧
          ∀ c' bl, look H2 c' = some bl → ∃ b2 hs', bl = some b2 ∧ (c', hs') ∈ (c, hs) :: l ∧ Kept B m s c' b2 := by
      intro d0 b2 hk he hh
      obtain ⟨d, h1, H2, k1, k2⟩ := getHeap_elim l _ r hh
      refine ⟨d0 ++ d, h1, (c, some b2) :: H2, fun rest γ K2 => ?_, fun c' bl q => ?_⟩
      · rw [List.append_assoc, he, k1]
      · rw [look] at q
        split at q
        · rename_i e; subst e; cases q; exact ⟨b2, hs, rfl, List.mem_cons_self .., hk⟩
        · obtain ⟨b3, hs', e1, e2, e3⟩ := k2 c' bl q
          exact ⟨b3, hs', e1, List.mem_cons_of_mem _ e2, e3⟩
    unfold Tm.getHeap at h
    split at h
    · rename_i hm
      split at h
      · split at h
        · rename_i hb
          exact step [.l []] ⟨⟨false, []⟩, false⟩ ⟨rfl, .inl ⟨hm, Nat.le_of_ble_eq_true hb⟩⟩ (fun rest γ K2 => rfl) h
        · cases h
      · cases h
    · rename_i a hm
      split at h
      · rename_i b hb
        split at h
        · obtain ⟨h1, h⟩ := run_req h
          exact step [.l b.v] ⟨⟨false, b.v⟩, false⟩ ⟨rfl, .inr ⟨a, b, hm, hb, .closed (closedN_all h1)⟩⟩ (fun rest γ K2 => rfl) h
        · rename_i shs
          split at h
          · rename_i d hd
            obtain ⟨ws, k1, k2⟩ := gets_elim hd
            exact step d ⟨⟨true, ws⟩, false⟩ ⟨rfl, .inr ⟨a, b, hm, hb, k2⟩⟩ (fun rest γ K2 => by rw [Tm.elimHeap, k1]) h
          · cases h
      · cases h

theorem idsOk_spec {tm : Tm} {B : Nat} {m : List (Nat × Nat)} (h : tm.idsOk B m = true) {c a : Nat} (hm : look m c = some a) :
    c < tm.next ∧ (c < B ∨ a < B → c = a) ∧ ∀ c' a', look m c' = some a' → (c = c' ↔ a = a') := by
  have h1 := List.all_eq_true.1 h _ (look_mem hm)
  simp only [Bool.and_eq_true, Bool.or_eq_true, Bool.not_eq_true', Nat.blt_eq] at h1
  obtain ⟨⟨h1, h2⟩, h3⟩ := h1
  refine ⟨h1, fun q => ?_, fun c' a' hm' => ?_⟩
  · rcases h2 with h2 | h2
    · rw [Bool.or_eq_false_iff] at h2
      have e1 : ¬ c < B := by have := h2.1; simpa [Nat.blt_eq, ← Bool.not_eq_true] using this
      have e2 : ¬ a < B := by have := h2.2; simpa [Nat.blt_eq, ← Bool.not_eq_true] using this
      omega
    · simpa using h2
  · have h4 := List.all_eq_true.1 h3 _ (look_mem hm')
    have h5 : Nat.beq c c' = Nat.beq a a' := by simpa using h4
    rw [← Nat.beq_eq, ← Nat.beq_eq, h5]

/-- The data of a state: a state that they make says no more. -/
def Dec (G : Nat → Option (List AV)) (tm : Tm) (B nt : Nat) (s : St) (ds : List Dat) : Prop :=
  ∃ s2, s.le G B s2 ∧ ∀ β (K : St → O β), (tm.elimO nt ds K).run = (K s2).run

theorem getO_dec {G : Nat → Option (List AV)} {tm : Tm} {B nt : Nat} {s : St} {β : Type} {K : List Dat → O β} {r : β} (h : (tm.getO B nt s K).run = some r) : ∃ ds, (K ds).run = some r ∧ Dec G tm B nt s ds := by
  unfold Tm.getO at h
  split at h
  · rename_i hok
    split at h
    · rename_i d hd
      simp only [Tm.allOk, Bool.and_eq_true] at hok
      obtain ⟨⟨⟨o1, o2⟩, o3⟩, o4⟩ := hok
      have o1 : s.nt = nt := Nat.eq_of_beq_eq_true o1
      have o3 := Nat.le_of_ble_eq_true o3
      obtain ⟨d2, h1, H2, k1, k2⟩ := getHeap_elim _ _ _ h
      obtain ⟨tmps2, k3, k4⟩ := getTmps_elim _ _ hd
      refine ⟨d ++ d2, h1, ⟨nt, tmps2, H2, tm.next⟩, ?_, fun γ K2 => ?_⟩
      · intro W0 S0 Sh ρ tmps W hr ht
        generalize hm : tm.ids B s = m at *
        let ρ2 : Rho := fun id => if id < B then ρ id else match look m id with
          | some a => ρ a
          | none => none
        have e2 : ∀ c a, look m c = some a → ρ2 c = ρ a := by
          intro c a q
          obtain ⟨q1, q2, q3⟩ := idsOk_spec o2 q
          show (if c < B then ρ c else _) = _
          split
          · rename_i hc; rw [q2 (.inl hc)]
          · rw [q]
        have e3 : ∀ c, look m c = none → B ≤ c → ρ2 c = none := by
          intro c q1 q2
          show (if c < B then ρ c else _) = _
          rw [if_neg (by omega), q1]
        have blk : ∀ c b2 b, look H2 c = some (some b2) → ρ2 c = some b → b2.shut = false ∧ c < tm.next ∧ ∃ a l, look m c = some a ∧ ρ a = some b ∧ look s.heap a = some (some ⟨l, false⟩) ∧ MvL m l.v b2.cells.v := by
          intro c b2 b q hb
          obtain ⟨b3, hs, e, hmem, hsh, hk⟩ := k2 c _ q
          cases e
          have hlt : c < tm.next := by have := List.all_eq_true.1 o4 _ hmem; simpa [Nat.blt_eq] using this
          rcases hk with ⟨p1, p2⟩ | ⟨a, l, p1, p2, p3⟩
          · rw [e3 c p1 p2] at hb; cases hb
          · exact ⟨hsh, hlt, a, l, p1, by rw [← e2 c a p1]; exact hb, p2, p3⟩
        refine ⟨ρ2, fun id b hid q => ?_, ⟨hr.below, ?_, ?_, ?_, hr.slt, hr.grow, hr.glob, ?_⟩, ?_, ?_⟩
        · show (if id < B then ρ id else _) = _
          rw [if_pos hid]; exact q
        · intro c l2 sh b q hb
          obtain ⟨p1, p2, a, l, p3, p4, p5, p6⟩ := blk c _ b q hb
          obtain ⟨cs, e, fr, r1, r2, r3, r4, r5, r6, r7⟩ := hr.blk a l false b p5 p4
          have hsh : sh = false := p1
          refine ⟨cs, e, fr, r1, r2, by have := p6.1; dsimp only at this; omega, fun i y v p q => ?_, r5, (fun q => (by rw [hsh] at q; cases q)), fun _ => r7 rfl⟩
          have hi := (List.getElem?_eq_some_iff.1 p).1
          have hx : l.v[i]? = some (l.v[i]'(by have := p6.1; dsimp only at this; omega)) := List.getElem?_eq_getElem _
          exact p6.2 i _ y hx p ρ ρ2 e2 Sh W v (r4 i _ v hx q)
        · intro c c' l x b q1 q2 b1 b2
          obtain ⟨p1, p2, a, la, p3, p4, p5, p6⟩ := blk c _ b q1 b1
          obtain ⟨p1', p2', a', la', p3', p4', p5', p6'⟩ := blk c' _ b q2 b2
          have := hr.inj a a' la _ b p5 p5' p4 p4'
          exact ((idsOk_spec o2 p3).2.2 c' a' p3').2 this
        · intro id (hid : tm.next ≤ id)
          cases hq : look m id with
          | none => exact e3 id hq (by omega)
          | some a => have := (idsOk_spec o2 hq).1; omega
        · intro c x q
          obtain ⟨b2, hs, e, hmem, _⟩ := k2 c x q
          have := List.all_eq_true.1 o4 _ hmem
          simpa [Nat.blt_eq] using this
        · exact ht.1.trans o1
        · intro t y q
          obtain ⟨x, q1, q2⟩ := k4 t y q
          obtain ⟨v, q3, q4⟩ := ht.2 t x q1
          exact ⟨v, q3, q2 ρ ρ2 e2 Sh W v q4⟩
      · unfold Tm.elimO
        rw [k3]
        have := k1 [] γ fun h _ => K2 ⟨nt, tmps2, h, tm.next⟩
        rw [List.append_nil] at this
        exact this
    · cases h
  · cases h
end Go.Ax
