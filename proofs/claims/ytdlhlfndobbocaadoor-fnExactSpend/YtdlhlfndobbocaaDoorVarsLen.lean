/-
  As many readings as there are listed variables.
-/
import Derived.OpenVars
namespace Go.Proofs.YtdlhlfndobbocaaDoor
open Go
theorem trodVars_len {H : Type} {enc : TypeId × Value → H} {P : Program} {w : World} {sp : Nat → Bool} : ∀ {ns : List String} {gs : List (DataW H)} {ps : List MemPlace}, DataW.TrodVars enc P w sp ns gs ps → gs.length = ns.length
  | [], [], _, _ => rfl
  | [], _ :: _, _, h => h.elim
  | _ :: _, [], _, h => h.elim
  | _ :: ns, _ :: ds, _, h => by
    obtain ⟨_, _, _, _, _, _, _, _, _, _, hs, _⟩ := h
    have := trodVars_len hs
    simp [this]
theorem vars_list5 {α : Type} {gs : List α} (h : gs.length = 5) : ∃ a b c d e, gs = [a, b, c, d, e] := by
  match gs, h with
  | [a, b, c, d, e], _ => exact ⟨a, b, c, d, e, rfl⟩
end Go.Proofs.YtdlhlfndobbocaaDoor
