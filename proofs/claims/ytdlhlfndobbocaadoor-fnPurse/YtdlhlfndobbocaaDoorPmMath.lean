/-
  Purses by key in plain terms: what a function of the key answers, where a key stands among the others, what the list is behind a purse put in.
-/
import Derived.Test.YtdlhlfndobbocaaDoorPuPut
import Derived.Test.YtdlhlfndobbocaaDoorPmMap
import Derived.Shelf.Spec.SearchS
namespace Go.Proofs.YtdlhlfndobbocaaDoor
namespace Mth

theorem toList_inj {a b : ByteArray} (h : a.toList = b.toList) : a = b := by
  rw [ByteArray.toList_eq, ByteArray.toList_eq] at h
  exact ByteArray.ext (Array.toList_inj.1 h)
theorem purseOf_k (l : List Pu) (k : ByteArray) : (purseOf l k).k = k := by
  unfold purseOf
  cases h : l.find? (fun p => p.k.toList == k.toList) with
  | none => rfl
  | some q =>
    have := List.find?_some h
    exact toList_inj (by simpa using this)
theorem purseOf_mem {l : List Pu} (hp : l.Pairwise klt) {q : Pu} (hq : q ∈ l) : purseOf l q.k = q := by
  unfold purseOf
  have : l.find? (fun p => p.k.toList == q.k.toList) = some q := by
    induction l with
    | nil => simp at hq
    | cons x r ih =>
      rw [List.find?_cons]
      rcases List.mem_cons.1 hq with rfl | hq'
      · simp
      · have hx : x.k.toList < q.k.toList := (List.pairwise_cons.1 hp).1 q hq'
        have hne : (x.k.toList == q.k.toList) = false := by
          rw [beq_eq_false_iff_ne]
          intro e
          rw [e] at hx
          exact List.lt_irrefl _ hx
        rw [hne]
        exact ih (List.pairwise_cons.1 hp).2 hq'
  rw [this]
  rfl
theorem purseOf_none {l : List Pu} {k : ByteArray} (h : ∀ q ∈ l, q.k ≠ k) : purseOf l k = ⟨k, 0, 0, 0⟩ := by
  unfold purseOf
  have : l.find? (fun p => p.k.toList == k.toList) = none := by
    rw [List.find?_eq_none]
    intro q hq
    simp only [beq_iff_eq]
    exact fun e => h q hq (toList_inj e)
  rw [this]
  rfl
theorem lt_ne {a b : ByteArray} (h : a.toList < b.toList) : a ≠ b := fun e => by rw [e] at h; exact List.lt_irrefl _ h
/-- The list with a purse put in, asked key by key. -/
theorem put_map {l : List Pu} (hp : l.Pairwise klt) (p : Pu) : (putP l p).map (fun q => upd (purseOf l) p q.k) = putP l p := by
  have : ∀ q ∈ putP l p, upd (purseOf l) p q.k = q := by
    intro q hq
    unfold putP at hq
    unfold upd
    rcases List.mem_append.1 hq with hq | hq
    · rw [if_neg (lt_ne (head_lt hq))]
      exact purseOf_mem hp ((List.takeWhile_sublist _).mem hq)
    · rcases List.mem_cons.1 hq with rfl | hq
      · rw [if_pos rfl]
      · rw [if_neg (Ne.symm (lt_ne (tail_gt hp q hq)))]
        exact purseOf_mem hp ((List.dropWhile_sublist _).mem (tail_sub l p.k q hq))
  exact (List.map_congr_left (g := id) this).trans (List.map_id _)
/-- How many lie ahead of a key. -/
def place (l : List Pu) (k : ByteArray) : Nat := (headP l k).length
theorem place_le (l : List Pu) (k : ByteArray) : place l k ≤ l.length := by
  have h := congrArg List.length (head_from l k)
  rw [List.length_append] at h
  unfold place
  omega
theorem head_take (l : List Pu) (k : ByteArray) : headP l k = l.take (place l k) := by
  have h := head_from l k
  have : (headP l k ++ fromP l k).take (place l k) = headP l k := by unfold place; simp
  rw [h] at this
  exact this.symm
theorem from_drop (l : List Pu) (k : ByteArray) : fromP l k = l.drop (place l k) := by
  have h := head_from l k
  have : (headP l k ++ fromP l k).drop (place l k) = fromP l k := by unfold place; simp
  rw [h] at this
  exact this.symm
/-- The key stands at its place. -/
def found (l : List Pu) (k : ByteArray) : Bool := match fromP l k with
  | [] => false
  | q :: _ => q.k.toList == k.toList
theorem put_keys_found {l : List Pu} {p : Pu} (h : found l p.k = true) : (putP l p).map (·.k) = l.map (·.k) := by
  have hl := head_from l p.k
  unfold found at h
  unfold putP tailP
  cases hf : fromP l p.k with
  | nil => rw [hf] at h; cases h
  | cons q r =>
    rw [hf] at h hl
    dsimp only at h ⊢
    rw [if_pos h]
    rw [← hl]
    have e : q.k = p.k := toList_inj (by simpa using h)
    simp [headP, e]
    rw [show List.takeWhile (fun q => Op.bytesLess q.k.toList p.k.toList) l = headP l p.k from rfl, hl]
    rfl
theorem put_length_found {l : List Pu} {p : Pu} (h : found l p.k = true) : (putP l p).length = l.length := by
  have := congrArg List.length (put_keys_found h)
  simpa using this
theorem put_not_found {l : List Pu} {p : Pu} (h : found l p.k = false) : putP l p = l.take (place l p.k) ++ p :: l.drop (place l p.k) := by
  unfold putP
  rw [head_take, ← from_drop]
  congr 2
  unfold found at h
  unfold tailP
  cases hf : fromP l p.k with
  | nil => rfl
  | cons q r =>
    rw [hf] at h
    dsimp only at h ⊢
    rw [h]
    rfl
theorem put_length_not {l : List Pu} {p : Pu} (h : found l p.k = false) : (putP l p).length = l.length + 1 := by
  rw [put_not_found h]
  have := place_le l p.k
  simp
  omega
/-- The text at a place, the key itself behind the end. -/
def keyAt (l : List Pu) (k : ByteArray) (t : Nat) : ByteArray := (l[t]?).elim k (·.k)
theorem bs_place {l : List Pu} (hp : l.Pairwise klt) (k : ByteArray) : Lib.bsGo (fun t => Op.bytesLess (keyAt l k t).toList k.toList) l.length 0 l.length = place l k := by
  refine Lib.bsGo_spec _ (place l k) ?_ ?_ _ _ _ (by omega) (Nat.zero_le _) (place_le l k)
  · intro t ht
    have ht2 : t < l.length := Nat.lt_of_lt_of_le ht (place_le l k)
    have hm : l[t] ∈ headP l k := by
      rw [head_take]
      exact List.mem_take_iff_getElem.2 ⟨t, by omega, rfl⟩
    unfold keyAt
    rw [List.getElem?_eq_getElem ht2]
    exact (less_iff _ _).2 (head_lt hm)
  · intro t ht
    by_cases ht2 : t < l.length
    · unfold keyAt
      rw [List.getElem?_eq_getElem ht2]
      show Op.bytesLess l[t].k.toList k.toList = false
      rw [Bool.eq_false_iff]
      intro hlt
      have hlt' := (less_iff _ _).1 hlt
      have hp0 : place l k < l.length := by omega
      have hf : fromP l k = l[place l k] :: l.drop (place l k + 1) := by rw [from_drop, List.drop_eq_getElem_cons hp0]
      have h1 := from_head l k _ _ hf
      rcases Nat.lt_or_ge (place l k) t with h | h
      · have h2 : l[place l k].k.toList < l[t].k.toList := List.pairwise_iff_getElem.1 hp _ _ hp0 ht2 h
        exact h1 (List.lt_trans h2 hlt')
      · have e : t = place l k := by omega
        subst e
        exact h1 hlt'
    · unfold keyAt
      rw [List.getElem?_eq_none (by omega)]
      show Op.bytesLess k.toList k.toList = false
      rw [Bool.eq_false_iff]
      intro h
      exact List.lt_irrefl _ ((less_iff _ _).1 h)
theorem bs_found (l : List Pu) (k : ByteArray) : decide (place l k < l.length ∧ keyAt l k (place l k) = k) = found l k := by
  by_cases h : place l k < l.length
  · have hf : fromP l k = l[place l k] :: l.drop (place l k + 1) := by rw [from_drop, List.drop_eq_getElem_cons h]
    have hfo : found l k = (l[place l k].k.toList == k.toList) := by unfold found; rw [hf]
    have hka : keyAt l k (place l k) = l[place l k].k := by unfold keyAt; rw [List.getElem?_eq_getElem h]; rfl
    rw [hfo, Bool.eq_iff_iff, decide_eq_true_iff, beq_iff_eq, hka]
    exact ⟨fun e => by rw [e.2], fun e => ⟨h, toList_inj e⟩⟩
  · have hf : fromP l k = [] := by rw [from_drop]; exact List.drop_eq_nil_of_le (by omega)
    unfold found
    rw [hf]
    exact decide_eq_false fun e => h e.1
end Mth
end Go.Proofs.YtdlhlfndobbocaaDoor
