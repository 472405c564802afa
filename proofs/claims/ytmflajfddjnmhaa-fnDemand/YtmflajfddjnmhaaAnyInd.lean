/-
  A region that draws its order, gone by a statement over what has come up so far: each operation is looked at once, whatever came ahead of it.
-/
import Derived.Test.YtmflajfddjnmhaaBase
namespace Go.Proofs.Ytmflajfddjnmhaa
open Go.RowKit

section
variable {P : Program} {ops : Array Oper} {Q : Exit → Act → World → Prop} {md : Region.Mode}
theorem wpAny_ind {J : Nat → Array Bool → Act → World → Prop}
    (hs : ∀ f L a x, J f L a x → wpAny P md ops Q f L a x ∨ (∃ f', f = f' + 1 ∧ Region.ready md ops L ≠ [] ∧ ∀ i ∈ Region.ready md ops L, wpOp P ops Q i (fun a' y => J f' (L.setIfInBounds i true) a' y) a x)) :
    ∀ f L a x, J f L a x → wpAny P md ops Q f L a x := by
  intro f
  induction f with
  | zero =>
    intro L a x h
    rcases hs 0 L a x h with h | ⟨f', hf, _⟩
    · exact h
    · cases hf
  | succ f ih =>
    intro L a x h
    rcases hs _ L a x h with h | ⟨f', hf, hne, hall⟩
    · exact h
    · cases hf
      exact ⟨fun h0 => absurd h0 hne, fun i hi => wpOp_mono (fun a' y hy => ih _ a' y hy) (hall i hi)⟩
theorem wpOp_one {i : Nat} {oi : Oper} {K : Act → World → Prop} {a : Act} {x : World} (hi : ops[i]? = some oi) (hw : Region.wanted oi (yielded ops a.tmps) = true) (h : oi.wp P a x K Q) : wpOp P ops Q i K a x := by
  unfold wpOp
  simp only [hi]
  rw [if_pos hw]
  exact .inl h
theorem wpAny_fst (i : Nat) {oi : Oper} {fuel : Nat} {listed : Array Bool} {a : Act} {w : World} (hi : ops[i]? = some oi) (hs : Region.noSelect ops = true) (hf : Region.free md ops listed i = true) (hr : (Region.ready md ops listed).contains i = true)
    (hQ : ∀ v c a w, Q (.panic c) (a.put oi.dst v) w → Q (.panic c) a w) (v : Value) (hw : Region.wanted oi (yielded ops a.tmps) = true) (hv : ∀ x : World, (execOp a.eval oi).run P x = .ok (.value v) x)
    (h : wpAny P md ops Q fuel (listed.setIfInBounds i true) (a.put oi.dst v) w) : wpAny P md ops Q (fuel + 1) listed a w := wpAny_take hi hs hf hr (hQ v) (.inl ⟨hw, hv⟩) h
theorem wpAny_nxt (i : Nat) {oi : Oper} {fuel : Nat} {listed : Array Bool} {a : Act} {w : World} (hi : ops[i]? = some oi) (hr : Region.ready md ops listed = [i]) (hw : Region.wanted oi (yielded ops a.tmps) = true)
    (h : oi.wp P a w (wpAny P md ops Q fuel (listed.setIfInBounds i true)) Q) : wpAny P md ops Q (fuel + 1) listed a w := by
  refine ⟨fun h => (by rw [hr] at h; cases h), fun j hj => ?_⟩
  rw [hr] at hj
  obtain rfl : j = i := by simpa using hj
  exact wpOp_one hi hw h
theorem wpAny_at {f : Nat} {L : Array Bool} {a : Act} {x : World} (h : ∀ a', a' = a → wpAny P md ops Q f L a' x) : wpAny P md ops Q f L a x := h a rfl
theorem ready_of {j : Nat} {o : Oper} {L : Array Bool} (h1 : L.getD j true = false) (ho : ops[j]? = some o) (h2 : (o.after.all fun e => !Region.binds md e || L.getD e.on false) = true) : Region.ready md ops L ≠ [] := by
  have h : j ∈ Region.ready md ops L := mem_ready.2 ⟨h1, o, ho, fun e he hb => by
    have h3 := Array.all_eq_true_iff_forall_mem.1 h2 e he
    simpa [hb] using h3⟩
  intro hn
  rw [hn] at h
  cases h
end
end Go.Proofs.Ytmflajfddjnmhaa
