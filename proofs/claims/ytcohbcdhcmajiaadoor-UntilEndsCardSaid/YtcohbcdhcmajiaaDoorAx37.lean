/-
  The small abstract machine: a law whose first parameter is a slice: nil, empty, or a list.
-/
import Derived.Test.YtcohbcdhcmajiaaDoorAx33
namespace Go.Ax
open Go.RowKit
set_option linter.unusedVariables false
variable {P : Program} {G : Nat → Option (List AV)}

/-- True, whatever the slice is. -/
noncomputable def seqB (Fn Fe Fl : List Dat → Option (List Dat)) : List Dat → Option (List Dat) := fun ds =>
  @ite _ (Fl ds = some [.b true] ∧ ∀ d, ds = .n 0 :: .l [] :: d → Fn d = some [.b true] ∧ Fe d = some [.b true]) (Classical.propDecidable _) (some [.b true]) none
theorem seqB_true {Fn Fe Fl : List Dat → Option (List Dat)} {ds : List Dat} (h : Fl ds = some [.b true]) (h0 : ∀ d, ds = .n 0 :: .l [] :: d → Fn d = some [.b true] ∧ Fe d = some [.b true]) : seqB Fn Fe Fl ds = some [.b true] := if_pos ⟨h, h0⟩
theorem FnOk.seqB {f : Nat} {rest : List Sh} {Fn Fe Fl : List Dat → Option (List Dat)} (hn : FnOk P G f ⟨.nil :: rest, .bool, Fn⟩) (he : FnOk P G f ⟨.empty :: rest, .bool, Fe⟩) (hl : FnOk P G f ⟨.list :: rest, .bool, Fl⟩) :
    FnOk P G f ⟨.seq :: rest, .bool, seqB Fn Fe Fl⟩ := by
  constructor
  intro args ds r hg hr
  have hr : @ite _ (Fl ds = some [.b true] ∧ ∀ d, ds = .n 0 :: .l [] :: d → Fn d = some [.b true] ∧ Fe d = some [.b true]) (Classical.propDecidable _) (some [.b true]) none = some r := hr
  split at hr
  · rename_i hc
    cases hr
    obtain ⟨hfl, h0⟩ := hc
    obtain ⟨v0, as, a, b, rfl, rfl, g1, g2⟩ := gets_cons hg
    refine ⟨.bool true, ?_, fun β K y h => h⟩
    have uniq : ∀ x : AV, (∀ β (K : AV → O β) y, (Sh.elim 20 .bool [.b true] fun v _ => K v).run = some y → (K x).run = some y) → x = .bool true := by
      intro x hx
      have := hx AV (fun v => O.ret v) (.bool true) rfl
      exact Option.some.inj this
    have nil0 : a = [.n 0, .l []] → FnA P G f (.nil :: as) (.bool true) ∧ FnA P G f (.empty :: as) (.bool true) := by
      intro e
      subst e
      have hb := h0 b rfl
      constructor
      · obtain ⟨x, q1, q2⟩ := hn.out (.nil :: as) b _ (getsWith_cons (f := Sh.get [] 20) (s := .nil) (v := .nil) (a := []) rfl g2) hb.1
        rwa [uniq x q2] at q1
      · obtain ⟨x, q1, q2⟩ := he.out (.empty :: as) b _ (getsWith_cons (f := Sh.get [] 20) (s := .empty) (v := .empty) (a := []) rfl g2) hb.2
        rwa [uniq x q2] at q1
    have list0 : ∀ n c l, a = [.n n.v, .l l] → FnA P G f (.list n c l :: as) (.bool true) := by
      intro n c l e
      subst e
      obtain ⟨x, q1, q2⟩ := hl.out (.list n c l :: as) _ _ (getsWith_cons (f := Sh.get [] 20) (s := .list) (v := .list n c l) (a := [.n n.v, .l l]) rfl g2) hfl
      rwa [uniq x q2] at q1
    unfold Sh.get at g1
    split at g1 <;> first | (rename_i e1; cases e1; done) | skip
    all_goals first | (rename_i e1 e2; cases e1; done) | skip
    · cases g1; exact (nil0 rfl).1
    · cases g1; exact (nil0 rfl).2
    · cases g1; exact list0 _ _ _ rfl
    · cases g1
      refine .of_seq (fun e1 e2 => nil0 ?_) (list0 _ _ _ rfl)
      rw [e1, e2]
    all_goals cases g1
  · cases hr
end Go.Ax
