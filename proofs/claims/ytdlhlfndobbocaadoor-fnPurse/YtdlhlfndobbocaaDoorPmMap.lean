/-
  A map of purses by key, which holds those that have something: what it answers, as a function of the key.
-/
import Derived.Test.YtdlhlfndobbocaaDoorPuOf
import Derived.Test.YtdlhlfndobbocaaDoorPuBase
import Derived.Test.YtdlhlfndobbocaaDoorFours
import Derived.Test.YtdlhlfndobbocaaDoorKeeps
import Derived.Maps.OwnSet
import Derived.Maps.OwnOps
namespace Go.Proofs.YtdlhlfndobbocaaDoor
open Go.RowKit Go.Maps
open Mth

namespace Mth
/-- A purse that has nothing. -/
def nothing (p : Pu) : Bool := p.m == 0 && p.f == 0 && p.s == 0
theorem nothing_iff (p : Pu) : nothing p = true ↔ p.m = 0 ∧ p.f = 0 ∧ p.s = 0 := by unfold nothing; simp [and_assoc]
/-- What the map answers, with another purse at its key. -/
def upd (G : ByteArray → Pu) (p : Pu) : ByteArray → Pu := fun k => if k = p.k then p else G k
end Mth

/-- How an element of the map reads. -/
def puElem : Value → Option (DataW Unit × List MemPlace)
  | .agg ⟨[.string k, .int .i64 m, .int .i64 f, .int .i64 s]⟩ => some (.agg [.lit (.string k.data.toList), .lit (.int .i64 m), .lit (.int .i64 f), .lit (.int .i64 s)], [])
  | _ => none
def puDatum (p : Pu) : DataW Unit := .agg [.lit (.string p.k.data.toList), .lit (.int .i64 p.m), .lit (.int .i64 p.f), .lit (.int .i64 p.s)]
theorem puElem_mk (p : Pu) : puElem (puv p) = some (puDatum p, []) := rfl
theorem puElem_inv {v : Value} {p : Pu} {ps : List MemPlace} (h : puElem v = some (puDatum p, ps)) : v = puv p := by
  unfold puElem at h
  split at h
  · rename_i k m f s
    obtain ⟨pk, pm, pf, ps⟩ := p
    simp only [puDatum, Option.some.injEq, Prod.mk.injEq, DataW.agg.injEq, List.cons.injEq, DataW.lit.injEq, Lit.string.injEq, Lit.int.injEq, true_and, and_true] at h
    obtain ⟨⟨h1, h2, h3, h4⟩, _⟩ := h
    subst h2 h3 h4
    have e : k = pk := ByteArray.ext (Array.toList_inj.1 h1)
    rw [e]
  · cases h
abbrev klit (k : ByteArray) : Lit := .string k.data.toList
theorem klit_ne {a b : ByteArray} (h : a ≠ b) : klit a ≠ klit b := fun e => h (by
  injection e with e
  exact ByteArray.ext (Array.toList_inj.1 e))
theorem keyLaw : Keyed Tryd.prog 9 := string_keyed Tryd.underlying9
theorem keyIs (s : ByteArray) (hs : s.size ≤ maxLen) : keyOf Tryd.prog 9 (.string s) = some (klit s) := Go.WideMaps.keyOf_string_mk Tryd.underlying9 hs
theorem zeroPu (w : World) : (zeroValue 32).run Tryd.prog w = .ok (puv ⟨ByteArray.empty, 0, 0, 0⟩) w := by kernel_rfl

/-- A map's datum answers as a function of the key does. -/
def Agr (D : DataW Unit) (G : ByteArray → Pu) : Prop := ∀ k, (G k).k = k ∧ Maps.has D (klit k) = !nothing (G k) ∧ (nothing (G k) = false → ∀ z, D.atKey (klit k) z = puDatum (G k))
/-- Block mb is a map that answers so. -/
def MapIs (w : World) (mb n : Nat) (G : ByteArray → Pu) : Prop := ∃ D, w.ownsMap Tryd.prog 9 puElem mb n D ∧ Agr D G
theorem Agr.empty : Agr (.map []) (fun k => ⟨k, 0, 0, 0⟩) := fun k => ⟨rfl, rfl, fun h => by cases h⟩
theorem Agr.put {D : DataW Unit} {G : ByteArray → Pu} (h : Agr D G) (hD : Maps.IsMap D) (p : Pu) (hp : nothing p = false) : Agr (D.put (klit p.k) (puDatum p)) (upd G p) := by
  intro k
  unfold upd
  by_cases e : k = p.k
  · rw [if_pos e, e]
    exact ⟨rfl, by rw [has_put_same hD (show WideAt.IsKeyLit (klit p.k) from trivial), hp]; rfl, fun _ z => atKey_put_same hD (show WideAt.IsKeyLit (klit p.k) from trivial) _ z⟩
  · rw [if_neg e]
    obtain ⟨h1, h2, h3⟩ := h k
    exact ⟨h1, by rw [has_put_other (klit_ne e), h2], fun hn z => by rw [atKey_put_other (klit_ne e)]; exact h3 hn z⟩
theorem Agr.del {D : DataW Unit} {G : ByteArray → Pu} (h : Agr D G) (p : Pu) (hp : nothing p = true) : Agr (D.del (klit p.k)) (upd G p) := by
  intro k
  unfold upd
  by_cases e : k = p.k
  · rw [if_pos e, e]
    exact ⟨rfl, by rw [has_del_same, hp]; rfl, fun hn => by rw [hp] at hn; cases hn⟩
  · rw [if_neg e]
    obtain ⟨h1, h2, h3⟩ := h k
    exact ⟨h1, by rw [has_del_other (klit_ne e), h2], fun hn z => by rw [atKey_del_other (klit_ne e)]; exact h3 hn z⟩
theorem MapIs.made (w : World) : MapIs (w.alloc (.map #[] 0)) w.heap.size 0 (fun k => ⟨k, 0, 0, 0⟩) := ⟨_, World.ownsMap_made w _ _ _, Agr.empty⟩
theorem MapIs.lt {w : World} {mb n : Nat} {G : ByteArray → Pu} (h : MapIs w mb n G) : mb < w.heap.size := h.choose_spec.1.lt
theorem MapIs.kept {w w' : World} {mb n : Nat} {G : ByteArray → Pu} (h : MapIs w mb n G) (hb : w'.heap[mb]? = w.heap[mb]?) : MapIs w' mb n G := by
  obtain ⟨D, ⟨es, clock, h1, h2⟩, ha⟩ := h
  exact ⟨D, ⟨es, clock, hb.trans h1, h2⟩, ha⟩
/-- A look-up: the purse and whether it is there. -/
theorem MapIs.look {w : World} {mb n : Nat} {G : ByteArray → Pu} (h : MapIs w mb n G) (k : ByteArray) (hk : k.size ≤ maxLen) :
    (Instr.lookup 83 (.map (some mb)) (.string k) true).run Tryd.prog w = .ok (.tuple #[puv (if nothing (G k) then ⟨ByteArray.empty, 0, 0, 0⟩ else G k), .bool (!nothing (G k))]) w := by
  obtain ⟨D, hown, ha⟩ := h
  obtain ⟨v, ps, hrun, hv⟩ := hown.look_ok keyLaw Tryd.underlying83 (zeroPu w) (puElem_mk _) (keyIs k hk)
  obtain ⟨_, h2, h3⟩ := ha k
  rw [hrun, h2]
  cases hn : nothing (G k)
  · rw [h3 hn] at hv
    rw [puElem_inv hv]
    rfl
  · rw [hn] at h2
    rw [atKey_of_not_has h2] at hv
    rw [puElem_inv hv]
    rfl
theorem keeps_of_turned {w w' : World} {b : Nat} (h : w.mapTurned w' b) : _root_.Go.Proofs.YtdlhlfndobbocaaDoor.Keeps b w w' := by
  have g := h.grown
  exact ⟨g.os, g.tape, g.output, g.size, fun k hk hne => g.block k hk (fun e => hne (Option.some.inj e))⟩
/-- A store of a purse that has something. -/
theorem MapIs.store {w : World} {mb n : Nat} {G : ByteArray → Pu} (h : MapIs w mb n G) (p : Pu) (hk : p.k.size ≤ maxLen) (hn : n < maxLen) (hp : nothing p = false) :
    ∃ w', (Instr.mapUpdate 83 (.map (some mb)) (.string p.k) (puv p)).run Tryd.prog w = .ok () w' ∧ MapIs w' mb (n + 1) (upd G p) ∧ Keeps mb w w' := by
  obtain ⟨D, hown, ha⟩ := h
  obtain ⟨w', hrun, h1, h2⟩ := hown.store keyLaw Tryd.underlying83 hn (keyIs p.k hk) (puElem_mk p)
  exact ⟨w', hrun, ⟨_, h1, ha.put hown.isMap p hp⟩, keeps_of_turned h2⟩
/-- A purse that has nothing is deleted. -/
theorem MapIs.drop {w : World} {mb n : Nat} {G : ByteArray → Pu} (h : MapIs w mb n G) (p : Pu) (hk : p.k.size ≤ maxLen) (hp : nothing p = true) (ty : TypeId) :
    ∃ w', (Builtin.delete_ #[83, 9] ty #[.map (some mb), .string p.k]).run Tryd.prog w = .ok (.tuple #[]) w' ∧ MapIs w' mb n (upd G p) ∧ Keeps mb w w' := by
  obtain ⟨D, hown, ha⟩ := h
  obtain ⟨w', hrun, h1, h2⟩ := hown.drop keyLaw Tryd.underlying83 (keyIs p.k hk) ty
  exact ⟨w', hrun, ⟨_, h1, ha.del p hp⟩, keeps_of_turned h2⟩
end Go.Proofs.YtdlhlfndobbocaaDoor
