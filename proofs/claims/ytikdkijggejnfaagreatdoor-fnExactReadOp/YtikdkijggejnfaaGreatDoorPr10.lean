/- Parts. -/
import Derived.Test.YtikdkijggejnfaaGreatDoorPr5
import Derived.Test.YtikdkijggejnfaaGreatDoorPr6
import Derived.Test.YtikdkijggejnfaaGreatDoorPr9
import Derived.Test.YtikdkijggejnfaaGreatDoorPr1
import Derived.Test.YtikdkijggejnfaaGreatDoorPr2
import Derived.Test.YtikdkijggejnfaaGreatDoorPr8
import Derived.OneCell
import Derived.Laws.MakeOwn
namespace Go.Proofs.YtikdkijggejnfaaGreatDoor
open Go.RowKit
open Mth

theorem str_ne {a b : ByteArray} (h : ¬ a = b) : (a.toList == b.toList) = false := by
  rw [beq_eq_false_iff_ne]
  intro e
  rw [ByteArray.toList_eq, ByteArray.toList_eq] at e
  exact h (ByteArray.ext (Array.ext' e))
theorem str_nel {a : ByteArray} (l : List UInt8) (h : ¬ a = ⟨l.toArray⟩) : (a.toList == l) = false := by
  rw [beq_eq_false_iff_ne]
  intro e
  rw [ByteArray.toList_eq] at e
  exact h (ByteArray.ext (Array.ext' e))
/-- The kind that the program takes a word for, where it knows none too. -/
def kI (x : ByteArray) : Int := if 0 ≤ kindB x then kindB x else 0
set_option maxRecDepth 100000 in
set_option maxHeartbeats 1000000 in
theorem implKind (x : ByteArray) (w : World) : Calls Tryz.prog 28 #[.string x] w fun e w' => e = .returned (.tuple #[.int .i64 (kI x), .bool (decide (0 ≤ kindB x))]) ∧ w = w' := by
  by_cases h0 : x = (⟨#[109, 105, 110, 116]⟩ : ByteArray)
  · have hk : kindB x = 0 := by subst h0; decide +kernel
    unfold kI
    rw [hk]
    subst h0
    clear hk
    go_enter Tryz.func28, Tryz.ntmps28
    go_wp2
    go_ret2
    exact ⟨rfl, rfl⟩
  have q0 := str_nel [109, 105, 110, 116] h0
  by_cases h1 : x = (⟨#[97, 100, 109, 105, 116]⟩ : ByteArray)
  · have hk : kindB x = 1 := by subst h1; decide +kernel
    unfold kI
    rw [hk]
    subst h1
    clear hk
    go_enter Tryz.func28, Tryz.ntmps28
    go_wp2
    go_ret2
    exact ⟨rfl, rfl⟩
  have q1 := str_nel [97, 100, 109, 105, 116] h1
  by_cases h2 : x = (⟨#[114, 101, 108, 101, 97, 115, 101]⟩ : ByteArray)
  · have hk : kindB x = 2 := by subst h2; decide +kernel
    unfold kI
    rw [hk]
    subst h2
    clear hk
    go_enter Tryz.func28, Tryz.ntmps28
    go_wp2
    go_ret2
    exact ⟨rfl, rfl⟩
  have q2 := str_nel [114, 101, 108, 101, 97, 115, 101] h2
  by_cases h3 : x = (⟨#[119, 97, 110, 116]⟩ : ByteArray)
  · have hk : kindB x = 3 := by subst h3; decide +kernel
    unfold kI
    rw [hk]
    subst h3
    clear hk
    go_enter Tryz.func28, Tryz.ntmps28
    go_wp2
    go_ret2
    exact ⟨rfl, rfl⟩
  have q3 := str_nel [119, 97, 110, 116] h3
  by_cases h4 : x = (⟨#[98, 97, 99, 107]⟩ : ByteArray)
  · have hk : kindB x = 4 := by subst h4; decide +kernel
    unfold kI
    rw [hk]
    subst h4
    clear hk
    go_enter Tryz.func28, Tryz.ntmps28
    go_wp2
    go_ret2
    exact ⟨rfl, rfl⟩
  have q4 := str_nel [98, 97, 99, 107] h4
  by_cases h5 : x = (⟨#[116, 105, 99, 107]⟩ : ByteArray)
  · have hk : kindB x = 5 := by subst h5; decide +kernel
    unfold kI
    rw [hk]
    subst h5
    clear hk
    go_enter Tryz.func28, Tryz.ntmps28
    go_wp2
    go_ret2
    exact ⟨rfl, rfl⟩
  have q5 := str_nel [116, 105, 99, 107] h5
  have hk : kindB x = -1 := by unfold kindB; rw [if_neg h0, if_neg h1, if_neg h2, if_neg h3, if_neg h4, if_neg h5]
  unfold kI
  rw [hk]
  clear hk h0 h1 h2 h3 h4 h5
  go_enter Tryz.func28, Tryz.ntmps28
  go_wp2
  go_ret2
  exact ⟨rfl, rfl⟩
theorem dec_most : dec 1000000000 = (⟨#[49, 48, 48, 48, 48, 48, 48, 48, 48, 48]⟩ : ByteArray) := by decide +kernel
set_option maxRecDepth 100000 in
theorem implAmount (x : ByteArray) (w : World) (hs : x.size ≤ maxLen) (hH : Handle w) (hT : Tens w) : Calls Tryz.prog 29 #[.string x] w fun e w' => e = .returned (.int .i64 (numB x)) ∧ Below w.heap.size w w' := by
  have HD := hide (implDecB 1000000000 (by decide) (by decide) w hT)
  rw [dec_most] at HD
  have HR := hide (fun w1 h => implReadDec x w1 hs h)
  have HH := hide hH
  clear hH hT hs
  by_cases h0 : x = (⟨#[49, 48, 48, 48, 48, 48, 48, 48, 48, 48]⟩ : ByteArray)
  · have hn : numB x = 1000000000 := by unfold numB; rw [if_pos h0]
    rw [hn]
    subst h0
    clear hn HR
    go_enter Tryz.func29, Tryz.ntmps29
    go_wp2_with fail
    refine (unhide HD).mono ?_
    rintro e w1 ⟨rfl, hb1⟩
    go_wp2_with fail
    go_ret
    exact ⟨rfl, hb1⟩
  have q0 := str_nel [49, 48, 48, 48, 48, 48, 48, 48, 48, 48] h0
  have hn : numB x = readDec x.data.toList := by unfold numB; rw [if_neg h0]
  rw [hn]
  clear hn h0
  generalize readDec x.data.toList = r at *
  go_enter Tryz.func29, Tryz.ntmps29
  go_wp2_with fail
  refine (unhide HD).mono ?_
  rintro e w1 ⟨rfl, hb1⟩
  go_wp2_with fail
  refine (unhide HR _ ((unhide HH).below hb1)).mono ?_
  rintro e w2 ⟨rfl, hb2⟩
  go_wp2_with fail
  go_ret
  exact ⟨rfl, hb1.trans (hb2.mono hb1.size)⟩
set_option maxRecDepth 100000 in
theorem specNum (x : ByteArray) (w : World) (hs : x.size ≤ maxLen) : Calls Tryz.prog 25 #[.string x] w fun e w' => e = .returned (.int .i64 (numB x)) ∧ w = w' := by
  have HR := hide (fun w1 => specReadDec x w1 hs)
  clear hs
  by_cases h0 : x = (⟨#[49, 48, 48, 48, 48, 48, 48, 48, 48, 48]⟩ : ByteArray)
  · have hn : numB x = 1000000000 := by unfold numB; rw [if_pos h0]
    rw [hn]
    subst h0
    clear hn HR
    go_enter Tryz.func25, Tryz.ntmps25
    go_wp2_with fail
    go_ret
    exact ⟨rfl, rfl⟩
  have q0 := str_nel [49, 48, 48, 48, 48, 48, 48, 48, 48, 48] h0
  have hn : numB x = readDec x.data.toList := by unfold numB; rw [if_neg h0]
  rw [hn]
  clear hn h0
  generalize readDec x.data.toList = r at *
  go_enter Tryz.func25, Tryz.ntmps25
  go_wp2_with fail
  refine (unhide HR _).mono ?_
  rintro e w1 ⟨rfl, rfl⟩
  go_wp2_with fail
  go_ret
  exact ⟨rfl, rfl⟩
namespace GR
open Go.RowKit

section
variable {α : Type} (enc : α → List Value) (sz : Nat)

/-- The cells of a row. -/
def flat (l : List α) : List Value := l.flatMap enc
theorem flat_cons (x : α) (r : List α) : flat enc (x :: r) = enc x ++ flat enc r := rfl
theorem flat_at (h : ∀ x, (enc x).length = sz) : ∀ (l : List α) (i : Nat) (hi : i < l.length) (j : Nat), j < sz → (flat enc l)[i * sz + j]? = (enc l[i])[j]? := by
  intro l
  induction l with
  | nil => intro i hi; simp at hi
  | cons x r ih =>
    intro i hi j hj
    rw [flat_cons]
    cases i with
    | zero =>
      rw [Nat.zero_mul, Nat.zero_add, List.getElem?_append_left (by rw [h]; exact hj)]
      rfl
    | succ i =>
      have e : (i + 1) * sz + j = sz + (i * sz + j) := by rw [Nat.add_mul, Nat.one_mul]; omega
      rw [List.getElem?_append_right (by rw [h]; omega), h, e, Nat.add_sub_cancel_left, ih i (by simpa using hi) j hj]
      rfl
/-- A run of cells written over. -/
def setRun (xs : List Value) (o : Nat) : List Value → List Value
  | [] => xs
  | v :: vs => setRun (xs.set o v) (o + 1) vs
theorem setRun_append_right (a : List Value) : ∀ (vs : List Value) (o : Nat) (b : List Value), setRun (a ++ b) (a.length + o) vs = a ++ setRun b o vs := by
  intro vs
  induction vs with
  | nil => intro o b; rfl
  | cons v vs ih =>
    intro o b
    show setRun ((a ++ b).set (a.length + o) v) (a.length + o + 1) vs = a ++ setRun (b.set o v) (o + 1) vs
    rw [List.set_append_right _ _ (by omega), Nat.add_sub_cancel_left, Nat.add_assoc, ih]
theorem setRun_head : ∀ (vs a b : List Value), vs.length = a.length → setRun (a ++ b) 0 vs = vs ++ b := by
  intro vs
  induction vs with
  | nil => intro a b h; have : a = [] := List.eq_nil_of_length_eq_zero (by simpa using h.symm); subst this; rfl
  | cons v vs ih =>
    intro a b h
    cases a with
    | nil => simp at h
    | cons y a =>
      show setRun (((y :: a) ++ b).set 0 v) (0 + 1) vs = v :: vs ++ b
      have e : ((y :: a) ++ b).set 0 v = [v] ++ (a ++ b) := rfl
      rw [e, Nat.zero_add]
      have h2 := setRun_append_right [v] vs 0 (a ++ b)
      simp only [List.length_singleton, Nat.add_zero] at h2
      rw [h2, ih a b (by simpa using h)]
      rfl
theorem flat_set (h : ∀ x, (enc x).length = sz) : ∀ (l : List α) (i : Nat) (x : α), i < l.length → setRun (flat enc l) (i * sz) (enc x) = flat enc (l.set i x) := by
  intro l
  induction l with
  | nil => intro i x hi; simp at hi
  | cons y r ih =>
    intro i x hi
    cases i with
    | zero =>
      rw [Nat.zero_mul, flat_cons, setRun_head _ _ _ (by rw [h, h])]
      rfl
    | succ i =>
      have e : (i + 1) * sz = (enc y).length + i * sz := by rw [h, Nat.add_mul, Nat.one_mul, Nat.add_comm]
      rw [flat_cons, e, setRun_append_right _, ih i x (by simpa using hi)]
      rfl

/-- A slice of structs, as it lies. -/
def At (w : World) (a : Option Addr) (l : List α) : Prop := ∀ i (hi : i < l.length), ∃ g off, a = some ⟨g, off, none⟩ ∧ g < w.heap.size ∧ ∀ j, j < sz → w.cell? ⟨g, off + (i * sz + j), none⟩ = (enc l[i])[j]?
theorem At.below {enc : α → List Value} {sz : Nat} {w w' : World} {a : Option Addr} {l : List α} (h : At enc sz w a l) (hb : Below w.heap.size w w') : At enc sz w' a l := fun i hi => by
  obtain ⟨g, off, e, hg, hc⟩ := h i hi
  exact ⟨g, off, e, Nat.lt_of_lt_of_le hg hb.size, fun j hj => (hb.cell (p := ⟨g, off + (i * sz + j), none⟩) hg).trans (hc j hj)⟩
/-- A block that holds just these structs. -/
def Blk (t : TypeId) (w : World) (g : Nat) (l : List α) : Prop := w.heap[g]? = some (.cells (flat enc l).toArray t (0, 0))
theorem Blk.cell {enc : α → List Value} {sz : Nat} {t : TypeId} {w : World} {g : Nat} {l : List α} (h : Blk enc t w g l) (hs : ∀ x, (enc x).length = sz) (i : Nat) (hi : i < l.length) (j : Nat) (hj : j < sz) : w.cell? ⟨g, i * sz + j, none⟩ = (enc l[i])[j]? := by
  rw [cell_of_row w g _ _ t (0, 0) h]
  simpa using flat_at enc sz hs l i hi j hj
theorem Blk.free {enc : α → List Value} {t : TypeId} {w : World} {g : Nat} {l : List α} (h : Blk enc t w g l) (i : Nat) : w.frozen? ⟨g, i, none⟩ = false := by
  unfold World.frozen?; rw [h]; simp
theorem Blk.lt {enc : α → List Value} {t : TypeId} {w : World} {g : Nat} {l : List α} (h : Blk enc t w g l) : g < w.heap.size := by
  rcases Nat.lt_or_ge g w.heap.size with h' | h'
  · exact h'
  · rw [Blk, Array.getElem?_eq_none h'] at h; cases h
theorem Blk.at {enc : α → List Value} {sz : Nat} {t : TypeId} {w : World} {g : Nat} {l : List α} (h : Blk enc t w g l) (hs : ∀ x, (enc x).length = sz) : At enc sz w (some ⟨g, 0, none⟩) l := fun i hi =>
  ⟨g, 0, rfl, h.lt, fun j hj => by rw [Nat.zero_add]; exact h.cell hs i hi j hj⟩
/-- The world with a run of cells written over. -/
def setW (w : World) (g o : Nat) : List Value → World
  | [] => w
  | v :: vs => setW (w.setCell ⟨g, o, none⟩ v) g (o + 1) vs
theorem setW_blk : ∀ (vs : List Value) {w : World} {g o : Nat} {xs : List Value} {t : TypeId}, w.heap[g]? = some (.cells xs.toArray t (0, 0)) → (setW w g o vs).heap[g]? = some (.cells (setRun xs o vs).toArray t (0, 0)) := by
  intro vs
  induction vs with
  | nil => intro w g o xs t h; exact h
  | cons v vs ih =>
    intro w g o xs t h
    refine ih (xs := xs.set o v) ?_
    unfold World.setCell
    simp only [Array.getElem?_modify]
    rw [if_pos trivial, h]
    simp
theorem Blk.set {enc : α → List Value} {sz : Nat} {t : TypeId} {w : World} {g : Nat} {l : List α} (h : Blk enc t w g l) (hs : ∀ x, (enc x).length = sz) (i : Nat) (hi : i < l.length) (x : α) : Blk enc t (setW w g (i * sz) (enc x)) g (l.set i x) := by
  have h2 := setW_blk (enc x) (o := i * sz) h
  rw [flat_set enc sz hs l i x hi] at h2
  exact h2
theorem setW_below {B : Nat} {a : World} {g : Nat} (hg : B ≤ g) : ∀ (vs : List Value) {w : World} {o : Nat}, Below B a w → Below B a (setW w g o vs) := by
  intro vs
  induction vs with
  | nil => intro w o h; exact h
  | cons v vs ih => intro w o h; exact ih (h.setCell (p := ⟨g, o, none⟩) hg v)
end
end GR

theorem eleven_at {w : World} {g : Nat} {a0 a1 a2 a3 a4 a5 a6 a7 a8 a9 a10 : Value} {t : TypeId} (h : w.heap[g]? = some (.cells #[a0, a1, a2, a3, a4, a5, a6, a7, a8, a9, a10] t (0, 0))) :
    (w.cell? ⟨g, 0, none⟩ = some a0 ∧ w.cell? ⟨g, 1, none⟩ = some a1 ∧ w.cell? ⟨g, 2, none⟩ = some a2 ∧ w.cell? ⟨g, 3, none⟩ = some a3 ∧ w.cell? ⟨g, 4, none⟩ = some a4 ∧ w.cell? ⟨g, 5, none⟩ = some a5 ∧ w.cell? ⟨g, 6, none⟩ = some a6 ∧ w.cell? ⟨g, 7, none⟩ = some a7 ∧ w.cell? ⟨g, 8, none⟩ = some a8 ∧ w.cell? ⟨g, 9, none⟩ = some a9 ∧ w.cell? ⟨g, 10, none⟩ = some a10) ∧ (w.frozen? ⟨g, 0, none⟩ = false ∧ w.frozen? ⟨g, 1, none⟩ = false ∧ w.frozen? ⟨g, 2, none⟩ = false ∧ w.frozen? ⟨g, 3, none⟩ = false ∧ w.frozen? ⟨g, 4, none⟩ = false ∧ w.frozen? ⟨g, 5, none⟩ = false ∧ w.frozen? ⟨g, 6, none⟩ = false ∧ w.frozen? ⟨g, 7, none⟩ = false ∧ w.frozen? ⟨g, 8, none⟩ = false ∧ w.frozen? ⟨g, 9, none⟩ = false ∧ w.frozen? ⟨g, 10, none⟩ = false) := by
  have hf : ∀ i, w.frozen? ⟨g, i, none⟩ = false := fun i => by unfold World.frozen?; rw [h]; simp
  have hc : ∀ i, w.cell? ⟨g, i, none⟩ = #[a0, a1, a2, a3, a4, a5, a6, a7, a8, a9, a10][i]? := fun i => cell_of_row w g i _ t (0, 0) h
  exact ⟨⟨hc 0, hc 1, hc 2, hc 3, hc 4, hc 5, hc 6, hc 7, hc 8, hc 9, hc 10⟩, hf 0, hf 1, hf 2, hf 3, hf 4, hf 5, hf 6, hf 7, hf 8, hf 9, hf 10⟩
theorem eleven_set {w : World} {g : Nat} {a0 a1 a2 a3 a4 a5 a6 a7 a8 a9 a10 b0 b1 b2 b3 b4 b5 b6 b7 b8 b9 b10 : Value} {t : TypeId} (h : w.heap[g]? = some (.cells #[a0, a1, a2, a3, a4, a5, a6, a7, a8, a9, a10] t (0, 0))) : (((((((((((w.setCell ⟨g, 0, none⟩ b0).setCell ⟨g, 1, none⟩ b1).setCell ⟨g, 2, none⟩ b2).setCell ⟨g, 3, none⟩ b3).setCell ⟨g, 4, none⟩ b4).setCell ⟨g, 5, none⟩ b5).setCell ⟨g, 6, none⟩ b6).setCell ⟨g, 7, none⟩ b7).setCell ⟨g, 8, none⟩ b8).setCell ⟨g, 9, none⟩ b9).setCell ⟨g, 10, none⟩ b10).heap[g]? = some (.cells #[b0, b1, b2, b3, b4, b5, b6, b7, b8, b9, b10] t (0, 0)) :=
  GR.setW_blk [b0, b1, b2, b3, b4, b5, b6, b7, b8, b9, b10] (o := 0) (xs := [a0, a1, a2, a3, a4, a5, a6, a7, a8, a9, a10]) h
theorem eleven_set_below {a w : World} {B g : Nat} {b0 b1 b2 b3 b4 b5 b6 b7 b8 b9 b10 : Value} (h : Below B a w) (hg : B ≤ g) : Below B a (((((((((((w.setCell ⟨g, 0, none⟩ b0).setCell ⟨g, 1, none⟩ b1).setCell ⟨g, 2, none⟩ b2).setCell ⟨g, 3, none⟩ b3).setCell ⟨g, 4, none⟩ b4).setCell ⟨g, 5, none⟩ b5).setCell ⟨g, 6, none⟩ b6).setCell ⟨g, 7, none⟩ b7).setCell ⟨g, 8, none⟩ b8).setCell ⟨g, 9, none⟩ b9).setCell ⟨g, 10, none⟩ b10) :=
  GR.setW_below hg [b0, b1, b2, b3, b4, b5, b6, b7, b8, b9, b10] (o := 0) h
theorem bodyPost_atE {P : Program} {fn : Func} {Q : Ending → World → Prop} {x : Exit} {act : Act} {W : World} (h : ∀ W', W' = W → bodyPost P fn Q x act W') : bodyPost P fn Q x act W := h W rfl
theorem allocsE2 (w : World) (a b : Obj) : ((w.alloc a).alloc b).heap[w.heap.size]? = some a ∧ ((w.alloc a).alloc b).heap[w.heap.size + 1]? = some b ∧ Below w.heap.size w ((w.alloc a).alloc b) := by
  have e1 : (w.alloc a).heap.size = w.heap.size + 1 := by simp
  have h4 := heap_alloc_new (w.alloc a) b
  have h6 := Below.heap_alloc (w.alloc a) b w.heap.size (by omega)
  rw [e1] at h4
  exact ⟨h6.trans (heap_alloc_new w a), h4, (below_one w a).alloc (by omega) b⟩

section
variable {P : Program} {ops : Array Oper} {Q : Exit → Act → World → Prop} {md : Region.Mode} {E : Nat}

/-- What an operation waits for. -/
def depsOf (md : Region.Mode) (ops : Array Oper) (j : Nat) : List Nat := match ops[j]? with
  | some o => (o.after.toList.filter (fun e => Region.binds md e)).map (fun e => e.on)
  | none => []
def ancS (md : Region.Mode) (ops : Array Oper) (S : List Nat) : List Nat := (S ++ S.flatMap (depsOf md ops)).eraseDups
/-- All that must have come ahead of it. -/
def anc (md : Region.Mode) (ops : Array Oper) (E : Nat) : Nat → List Nat
  | 0 => depsOf md ops E
  | n + 1 => ancS md ops (anc md ops E n)
def ClosedL (md : Region.Mode) (ops : Array Oper) (L : Array Bool) : Prop := ∀ j oj, ops[j]? = some oj → L.getD j false = true → ∀ e ∈ oj.after, Region.binds md e = true → L.getD e.on false = true
def closedB (md : Region.Mode) (ops : Array Oper) (L : Array Bool) : Bool := (List.range ops.size).all fun j => !(L.getD j false) || (depsOf md ops j).all (fun k => L.getD k false)
theorem mem_depsOf {j : Nat} {oj : Oper} (hj : ops[j]? = some oj) {k : Nat} : k ∈ depsOf md ops j ↔ ∃ e ∈ oj.after, Region.binds md e = true ∧ e.on = k := by
  unfold depsOf
  rw [hj]
  simp only [List.mem_map, List.mem_filter, Array.mem_toList_iff]
  constructor
  · rintro ⟨e, ⟨h1, h2⟩, h3⟩; exact ⟨e, h1, h2, h3⟩
  · rintro ⟨e, h1, h2, h3⟩; exact ⟨e, ⟨h1, h2⟩, h3⟩
theorem closedB_spec {L : Array Bool} (h : closedB md ops L = true) : ClosedL md ops L := by
  intro j oj hj hl e he hb
  unfold closedB at h
  rw [List.all_eq_true] at h
  have hjs : j < ops.size := by
    rcases Nat.lt_or_ge j ops.size with h' | h'
    · exact h'
    · rw [Array.getElem?_eq_none h'] at hj; cases hj
  have h1 := h j (List.mem_range.2 hjs)
  rw [hl] at h1
  simp only [Bool.not_true, Bool.false_or, List.all_eq_true] at h1
  exact h1 e.on ((mem_depsOf hj).2 ⟨e, he, hb, rfl⟩)
theorem anc_listed {L : Array Bool} (hc : ClosedL md ops L) (hE : E ∈ Region.ready md ops L) : ∀ n, ∀ k ∈ anc md ops E n, L.getD k false = true := by
  obtain ⟨_, o, ho, hall⟩ := mem_ready.1 hE
  intro n
  induction n with
  | zero =>
    intro k hk
    obtain ⟨e, he, hb, rfl⟩ := (mem_depsOf ho).1 hk
    exact hall e he hb
  | succ n ih =>
    intro k hk
    have hk' : k ∈ (anc md ops E n ++ (anc md ops E n).flatMap (depsOf md ops)).eraseDups := hk
    rw [List.mem_eraseDups, List.mem_append, List.mem_flatMap] at hk'
    rcases hk' with h | ⟨d, hd, hkd⟩
    · exact ih k h
    · cases hod : ops[d]? with
      | none => unfold depsOf at hkd; rw [hod] at hkd; cases hkd
      | some od =>
        obtain ⟨e, he, hb, rfl⟩ := (mem_depsOf hod).1 hkd
        exact hc d od hod (ih d hd) e he hb
theorem closed_set {L : Array Bool} {j : Nat} (hc : ClosedL md ops L) (hj : j ∈ Region.ready md ops L) : ClosedL md ops (L.setIfInBounds j true) := by
  obtain ⟨_, o, ho, hall⟩ := mem_ready.1 hj
  intro k ok hk hl e he hb
  by_cases hjk : j = k
  · subst hjk
    obtain rfl := Option.some.inj (ho.symm.trans hk)
    exact getD_set_true (hall e he hb)
  · rw [getD_set_ne false hjk] at hl
    exact getD_set_true (hc k ok hk hl e he hb)

def wpMixE (P : Program) (md : Region.Mode) (ops : Array Oper) (Q : Exit → Act → World → Prop) (E : Nat) : Nat → Array Bool → Act → World → Prop
  | 0, listed, a, w => Region.ready md ops listed = [] ∧ ∀ x, Ge w x → Q .normal a x
  | fuel + 1, listed, a, w => (Region.ready md ops listed = [E] ∧ ∀ x, Ge w x → wpAny P md ops Q (fuel + 1) listed a x) ∨
      ∀ x, Ge w x → (Region.ready md ops listed = [] → Q .normal a x) ∧ ∀ i ∈ Region.ready md ops listed, wpOp P ops Q i (fun a' y => Ge x y ∧ wpMixE P md ops Q E fuel (listed.setIfInBounds i true) a' y) a x

theorem wpMixE_grow {fuel : Nat} {listed : Array Bool} {a : Act} {w x : World} (hx : Ge w x) (h : wpMixE P md ops Q E fuel listed a w) : wpMixE P md ops Q E fuel listed a x := by
  cases fuel with
  | zero => exact ⟨h.1, fun y hy => h.2 y (Ge.trans hx hy)⟩
  | succ fuel =>
    rcases h with ⟨h1, h2⟩ | h
    · exact .inl ⟨h1, fun y hy => h2 y (Ge.trans hx hy)⟩
    · exact .inr fun y hy => h y (Ge.trans hx hy)
theorem wpAny_of_mixE : ∀ (fuel : Nat) (listed : Array Bool) (a : Act) (w : World), wpMixE P md ops Q E fuel listed a w → wpAny P md ops Q fuel listed a w
  | 0, _, _, w, h => ⟨h.1, h.2 w (Below.refl _ _)⟩
  | _ + 1, _, _, w, .inl h => h.2 w (Below.refl _ _)
  | fuel + 1, _, _, w, .inr h => ⟨(h w (Below.refl _ _)).1, fun i hi => wpOp_mono (fun a' y hy => wpAny_of_mixE fuel _ a' y hy.2) ((h w (Below.refl _ _)).2 i hi)⟩

theorem wpMixE_first {i : Nat} {oi : Oper} {v : Value} (n : Nat) (hi : ops[i]? = some oi) (hE : i ∈ anc md ops E n) (hsel : ∀ (j : Nat) (o : Oper) cs b, ops[j]? = some o → o.op ≠ .select cs b) (hQ : ∀ c a w, Q (.panic c) (a.put oi.dst v) w → Q (.panic c) a w) :
    ∀ (fuel : Nat) (listed : Array Bool) (a : Act) (w : World), ClosedL md ops listed →
      (∀ j oj, ops[j]? = some oj → j ≠ i → listed.getD j true = false → (∀ e ∈ oj.after, Region.binds md e = true → e.on ≠ i) → oi.apart ops oj = true) →
      i ∈ Region.ready md ops listed → YieldsG P ops oi v a w → wpMixE P md ops Q E fuel (listed.setIfInBounds i true) (a.put oi.dst v) w → wpMixE P md ops Q E (fuel + 1) listed a w := by
  intro fuel
  induction fuel with
  | zero =>
    intro listed a w _ _ hr hy H
    refine .inr fun x hx => ⟨fun h => (by rw [h] at hr; cases hr), fun j hj => ?_⟩
    by_cases hji : j = i
    · subst hji
      exact hy.wpOp hi hx fun y hy' => ⟨hy', wpMixE_grow (Ge.trans hx hy') H⟩
    · have := ready_mono hj hji
      rw [H.1] at this
      cases this
  | succ fuel ih =>
    intro listed a w hcl hfree hr hy H
    refine .inr fun x hx => ⟨fun h => (by rw [h] at hr; cases hr), fun j hj => ?_⟩
    by_cases hji : j = i
    · subst hji
      exact hy.wpOp hi hx fun y hy' => ⟨hy', wpMixE_grow (Ge.trans hx hy') H⟩
    · rcases H with ⟨h1, _⟩ | H
      · exfalso
        have h2 := ready_mono hj hji
        rw [h1] at h2
        obtain rfl : j = E := by simpa using h2
        have h3 := anc_listed hcl hj n i hE
        have h4 := (mem_ready.1 hr).1
        rcases Nat.lt_or_ge i listed.size with h' | h'
        · simp [h'] at h3 h4; rw [h4] at h3; cases h3
        · simp [Array.getElem?_eq_none h'] at h3
      · have h1 := (H x hx).2 j (ready_mono hj hji)
        obtain ⟨hjun, oj, hoj, hall⟩ := mem_ready.1 hj
        have hnot : ∀ e ∈ oj.after, Region.binds md e = true → e.on ≠ i := fun e he hb heq => by
          have h2 := hall e he hb
          have h0 := (mem_ready.1 hr).1
          rw [heq] at h2
          rcases Nat.lt_or_ge i listed.size with h' | h'
          · simp [h'] at h0 h2; rw [h0] at h2; cases h2
          · simp [Array.getElem?_eq_none h'] at h2
        have h2 := wpOp_past hoj (hfree j oj hoj hji hjun hnot) (fun cs b => hsel i oi cs b hi) (fun cs b => hsel j oj cs b hoj) hQ h1
        refine wpOp_mono (fun a' y hy2 => ?_) h2
        obtain ⟨⟨hs1, hs2⟩, hg, hm⟩ := hy2
        refine ⟨hg, ih (listed.setIfInBounds j true) a' y (closed_set hcl hj) ?_ (ready_mono hr (Ne.symm hji)) ?_ ?_⟩
        · intro k ok hk hki hun hno
          refine hfree k ok hk hki ?_ hno
          by_cases hjk : j = k
          · subst hjk; exact hjun
          · rw [getD_set_ne true hjk] at hun; exact hun
        · unfold YieldsG at *
          rw [hs1, hs2]
          exact hy.imp (fun ⟨p, q⟩ => ⟨p, fun z hz => q z (Ge.trans (Ge.trans hx hg) hz)⟩) id
        · rw [Array.setIfInBounds_comm _ _ hji]
          exact hm

/-- Take number i first: it must have come ahead of E in every order. -/
theorem wpMixE_take (i n : Nat) {oi : Oper} {fuel : Nat} {listed : Array Bool} {a : Act} {w : World} (hi : ops[i]? = some oi) (hs : Region.noSelect ops = true) (hf : Region.free md ops listed i = true) (hr : (Region.ready md ops listed).contains i = true)
    (hcl : closedB md ops listed = true) (hE : (anc md ops E n).contains i = true)
    (hQ : ∀ v c a w, Q (.panic c) (a.put oi.dst v) w → Q (.panic c) a w)
    (h : ∀ K : Act → Prop, (∀ a', wpMixE P md ops Q E fuel (listed.setIfInBounds i true) a' w → K a') → if Region.wanted oi (yielded ops a.tmps) then ∃ v, (∀ p : Regrown, Oper.quietUpon P (Ge (Gr w p)) (Gr w p) v ((execOp a.eval oi).run P (Gr w p))) ∧ K (a.put oi.dst v) else K (a.put oi.dst undef)) :
    wpMixE P md ops Q E (fuel + 1) listed a w := by
  have h' := h _ fun _ h => h
  have hE' : i ∈ anc md ops E n := by simpa using hE
  by_cases hw : Region.wanted oi (yielded ops a.tmps) = true
  · rw [if_pos hw] at h'
    obtain ⟨v, hv, hk⟩ := h'
    refine wpMixE_first n hi hE' (Region.noSelect_spec hs) (hQ v) fuel listed a w (closedB_spec hcl) (Region.free_spec hi hf) (by simpa using hr) (.inl ⟨hw, fun x hx => ?_⟩) hk
    obtain ⟨p, rfl⟩ := regrown_of_below hx
    exact hv p
  · rw [if_neg hw] at h'
    exact wpMixE_first n hi hE' (Region.noSelect_spec hs) (hQ undef) fuel listed a w (closedB_spec hcl) (Region.free_spec hi hf) (by simpa using hr) (.inr ⟨by simpa using hw, rfl⟩) h'
/-- From here on as it comes: E alone may come up. -/
theorem wpMixE_leave {fuel : Nat} {listed : Array Bool} {a : Act} {w : World} (hr : Region.ready md ops listed = [E]) (h : ∀ x, Ge w x → wpAny P md ops Q (fuel + 1) listed a x) : wpMixE P md ops Q E (fuel + 1) listed a w := .inl ⟨hr, h⟩
theorem wpAny_one (i : Nat) {oi : Oper} {fuel : Nat} {listed : Array Bool} {a : Act} {w : World} (hi : ops[i]? = some oi) (hr : Region.ready md ops listed = [i]) (hw : Region.wanted oi (yielded ops a.tmps) = true)
    (h : oi.wp P a w (wpAny P md ops Q fuel (listed.setIfInBounds i true)) Q) : wpAny P md ops Q (fuel + 1) listed a w := by
  refine ⟨fun h => (by rw [hr] at h; cases h), fun j hj => ?_⟩
  rw [hr] at hj
  obtain rfl : j = i := by simpa using hj
  unfold wpOp
  simp only [hi]
  rw [if_pos hw]
  exact .inl h
theorem wpAny_done {listed : Array Bool} {a : Act} {w : World} (hr : Region.ready md ops listed = []) (h : Q .normal a w) : wpAny P md ops Q 0 listed a w := ⟨hr, h⟩
/-- Whatever order is picked, in this world and in every one that has grown out of it. -/
def wpAnyG (P : Program) (md : Region.Mode) (ops : Array Oper) (Q : Exit → Act → World → Prop) (fuel : Nat) (listed : Array Bool) (a : Act) (w : World) : Prop := ∀ x, Ge w x → wpAny P md ops Q fuel listed a x
theorem wpAnyG_pure (i : Nat) {oi : Oper} {fuel : Nat} {listed : Array Bool} {a : Act} {w : World} (hi : ops[i]? = some oi) (hs : Region.noSelect ops = true) (hf : Region.free md ops listed i = true) (hr : (Region.ready md ops listed).contains i = true)
    (hQ : ∀ v c a w, Q (.panic c) (a.put oi.dst v) w → Q (.panic c) a w)
    (h : ∀ K : Act → Prop, (∀ a', wpAnyG P md ops Q fuel (listed.setIfInBounds i true) a' w → K a') → if Region.wanted oi (yielded ops a.tmps) then ∃ v, (∀ x : World, (execOp a.eval oi).run P x = .ok (.value v) x) ∧ K (a.put oi.dst v) else K (a.put oi.dst undef)) :
    wpAnyG P md ops Q (fuel + 1) listed a w := by
  have h' := h _ fun _ h => h
  intro x hx
  by_cases hw : Region.wanted oi (yielded ops a.tmps) = true
  · rw [if_pos hw] at h'
    obtain ⟨v, hv, hk⟩ := h'
    exact wpAny_take hi hs hf hr (hQ v) (.inl ⟨hw, hv⟩) (hk x hx)
  · rw [if_neg hw] at h'
    exact wpAny_take hi hs hf hr (hQ undef) (.inr ⟨by simpa using hw, rfl⟩) (h' x hx)
theorem wpAnyG_mixE (E : Nat) {fuel : Nat} {listed : Array Bool} {a : Act} {w : World} (h : wpMixE P md ops Q E fuel listed a w) : wpAnyG P md ops Q fuel listed a w := fun _ hx => wpAny_of_mixE _ _ _ _ (wpMixE_grow hx h)
theorem wp_region_anyG {id : Nat} {a : Act} {w : World} (hm : P.follows .mixedOrders = true) (h : wpAnyG P .any ops Q ops.size (Array.replicate ops.size false) a w) : (Code.region id ops true).wp P Q a w :=
  wp_region_any hm (h { w with drawn := w.drawn + 1 } ⟨rfl, rfl, rfl, Nat.le_refl _, fun _ _ => rfl⟩)
theorem wp_region_mixE (E : Nat) {id : Nat} {a : Act} {w : World} (hm : P.follows .mixedOrders = true) (h : wpMixE P .any ops Q E ops.size (Array.replicate ops.size false) a w) : (Code.region id ops true).wp P Q a w :=
  wp_region_any hm (wpAny_of_mixE _ _ _ _ (wpMixE_grow (w := w) (x := { w with drawn := w.drawn + 1 }) ⟨rfl, rfl, rfl, Nat.le_refl _, fun _ _ => rfl⟩ h))
end
end Go.Proofs.YtikdkijggejnfaaGreatDoor
