/-
  The small abstract machine: functions that ask whether a slice is nil.
-/
import Derived.Test.YtcohbcdhcmajiaaDoorAx30
namespace Go.Ax
open Go.RowKit
set_option linter.unusedVariables false
variable {P : Program} {G : Nat → Option (List AV)}

theorem FnA.of_seq {f : Nat} {n : N} {cells rest : List AV} {x : AV} (h0 : n.v = 0 → cells = [] → FnA P G f (.nil :: rest) x ∧ FnA P G f (.empty :: rest) x) (hl : FnA P G f (.list n false cells :: rest) x) : FnA P G f (.seq n cells :: rest) x := by
  constructor
  intro Sh W vs hG hS hv
  obtain ⟨v, ws, rfl, h1, h2⟩ := hv.uncons
  rcases h1.seq_inv with ⟨rfl, e1, e2⟩ | ⟨a, rfl, e1, e2⟩ | h1
  · exact (h0 e1 e2).1.out Sh W _ hG hS (VRL.cons .nil h2)
  · exact (h0 e1 e2).2.out Sh W _ hG hS (VRL.cons .empty h2)
  · exact hl.out Sh W _ hG hS (VRL.cons h1 h2)

/-- The same whatever the slice is. -/
noncomputable def seq3 (res : Sh) (Fl : List Dat → Option (List Dat)) : List Dat → Option (List Dat) := fun ds => Option.bind (Fl ds) fun r => (Sh.elim 20 res r fun v _ => O.ret r).run
theorem FnOk.seq3 {f : Nat} {res : Sh} {rest : List Sh} {Fn Fe Fl : List Dat → Option (List Dat)} (hn : FnOk P G f ⟨.nil :: rest, res, Fn⟩) (he : FnOk P G f ⟨.empty :: rest, res, Fe⟩) (hl : FnOk P G f ⟨.list :: rest, res, Fl⟩)
    (h1 : ∀ ds, Fn ds = Fl (.n 0 :: .l [] :: ds)) (h2 : ∀ ds, Fe ds = Fl (.n 0 :: .l [] :: ds)) : FnOk P G f ⟨.seq :: rest, res, seq3 res Fl⟩ := by
  constructor
  intro args ds r hg hr
  obtain ⟨v0, as, a, b, rfl, rfl, g1, g2⟩ := gets_cons hg
  cases hfl : Fl (a ++ b) with
  | none => simp only [Ax.seq3, hfl] at hr; cases hr
  | some r1 =>
    simp only [Ax.seq3, hfl, Option.bind_some] at hr
    rcases elim_canon 20 res r1 with ⟨x0, rest', hx0⟩ | hx0
    · rw [hx0] at hr
      cases hr
      refine ⟨x0, ?_, fun β K y h => by rw [hx0] at h; exact h⟩
      have uniq : ∀ x, (∀ β (K : AV → O β) y, (Sh.elim 20 res r fun v _ => K v).run = some y → (K x).run = some y) → x = x0 := by
        intro x hx
        have := hx AV (fun v => O.ret v) x0 (by rw [hx0]; rfl)
        exact Option.some.inj this
      have nil0 : a = [.n 0, .l []] → FnA P G f (.nil :: as) x0 ∧ FnA P G f (.empty :: as) x0 := by
        intro e
        subst e
        have hfl' : Fl (.n 0 :: .l [] :: b) = some r := hfl
        constructor
        · obtain ⟨x, q1, q2⟩ := hn.out (.nil :: as) b r (getsWith_cons (f := Sh.get [] 20) (s := .nil) (v := .nil) (a := []) rfl g2) ((h1 b).trans hfl')
          rwa [uniq x q2] at q1
        · obtain ⟨x, q1, q2⟩ := he.out (.empty :: as) b r (getsWith_cons (f := Sh.get [] 20) (s := .empty) (v := .empty) (a := []) rfl g2) ((h2 b).trans hfl')
          rwa [uniq x q2] at q1
      have list0 : ∀ n c l, a = [.n n.v, .l l] → FnA P G f (.list n c l :: as) x0 := by
        intro n c l e
        subst e
        obtain ⟨x, q1, q2⟩ := hl.out (.list n c l :: as) _ r (getsWith_cons (f := Sh.get [] 20) (s := .list) (v := .list n c l) (a := [.n n.v, .l l]) rfl g2) hfl
        rwa [uniq x q2] at q1
      unfold Sh.get at g1
      split at g1 <;> first | (rename_i e1; cases e1; done) | skip
      all_goals first | (rename_i e1 e2; cases e1; done) | skip
      · cases g1; exact (nil0 rfl).1
      · cases g1; exact (nil0 rfl).2
      · cases g1; exact list0 _ _ _ rfl
      · cases g1
        refine .of_seq (fun e1 e2 => nil0 ?_) (list0 _ _ _ rfl)
        rw [e1, e2]
      all_goals cases g1
    · rw [hx0] at hr; cases hr
end Go.Ax
