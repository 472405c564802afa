/- Parts. -/
import Derived.Test.YtbanjohfcnadfaaGreatDoorPw1
namespace Go.Proofs.YtbanjohfcnadfaaGreatDoor
namespace Mth

/-- A transfer: its number, to whom, key, how much. -/
structure Snt where
  i : Int
  t : Int
  k : ByteArray
  n : Int
/-- What was seen of a neighbour. -/
structure Sn where
  f : Int
  l : Int
  ids : List Int
/-- A request. -/
structure Rq where
  no : Int
  k : ByteArray
  n : Int
  s : Int
/-- A node. -/
structure Nd where
  id : Int
  par : Int
  kids : List Int
  next : Int
  pu : List Pu
  out : List Snt
  seen : List Sn
  old : Int
  reqs : List Rq
instance : Inhabited Snt := ⟨⟨0, 0, ByteArray.empty, 0⟩⟩
instance : Inhabited Sn := ⟨⟨0, 0, []⟩⟩
instance : Inhabited Rq := ⟨⟨0, ByteArray.empty, 0, 0⟩⟩
abbrev encNum (x : Int) : List Value := [.int .i64 x]
abbrev encSnt (s : Snt) : List Value := [.int .i64 s.i, .int .i64 s.t, .string s.k, .int .i64 s.n]
abbrev encRq (r : Rq) : List Value := [.int .i64 r.no, .string r.k, .int .i64 r.n, .int .i64 r.s]
theorem encNum_length (x : Int) : (encNum x).length = 1 := rfl
theorem encSnt_length (x : Snt) : (encSnt x).length = 4 := rfl
theorem encRq_length (x : Rq) : (encRq x).length = 4 := rfl

/-- Each place is right, and each two that stand beside each other. -/
def chk {α : Type} (p : α → Bool) (r : α → α → Bool) : List α → Bool
  | [] => true
  | [x] => p x
  | x :: y :: l => p x && r x y && chk p r (y :: l)
section
variable {α : Type} (p : α → Bool) (r : α → α → Bool)
theorem chk_cons (x : α) (l : List α) : chk p r (x :: l) = (p x && (match l.head? with | none => true | some y => r x y) && chk p r l) := by
  cases l with
  | nil => simp [chk]
  | cons y l => simp [chk]
theorem chk_snoc (l : List α) (x : α) : chk p r (l ++ [x]) = (chk p r l && (p x && (match l.getLast? with | none => true | some y => r y x))) := by
  induction l with
  | nil => simp [chk]
  | cons y l ih =>
    rw [List.cons_append, chk_cons, ih, chk_cons]
    cases l with
    | nil => simp [chk, Bool.and_comm, Bool.and_left_comm]
    | cons z l => simp [Bool.and_assoc]
theorem chk_append (l m : List α) : chk p r (l ++ m) = true → chk p r l = true := by
  induction l with
  | nil => simp [chk]
  | cons y l ih =>
    intro h
    rw [List.cons_append, chk_cons] at h
    rw [chk_cons]
    simp only [Bool.and_eq_true] at h ⊢
    refine ⟨⟨h.1.1, ?_⟩, ih h.2⟩
    cases l with
    | nil => simp
    | cons z l => simpa using h.1.2
theorem chk_first (l : List α) (h : 0 < l.length) : chk p r (l.take 1) = p l[0] := by
  match l, h with
  | x :: l, _ => simp [chk]
theorem chk_next (l : List α) (k : Nat) (h : k + 1 < l.length) : chk p r (l.take (k + 2)) = (chk p r (l.take (k + 1)) && (p l[k + 1] && r l[k] l[k + 1])) := by
  rw [List.take_succ_eq_append_getElem h, chk_snoc]
  have e : (l.take (k + 1)).getLast? = some l[k] := by
    rw [List.take_succ_eq_append_getElem (by omega), List.getLast?_append]
    simp
  rw [e]
theorem chk_bad (l : List α) (k : Nat) (h : chk p r (l.take k) = false) : chk p r l = false := by
  cases hc : chk p r l with
  | false => rfl
  | true =>
    rw [← List.take_append_drop k l] at hc
    rw [chk_append p r _ _ hc] at h
    cases h
end

/-- A node's place. -/
def kidB (id par x : Int) : Bool := ndB x && decide (x ≠ id) && decide (x ≠ par)
def ltB (x y : Int) : Bool := decide (x < y)
def placeB (n : Nd) : Bool := ndB n.id && decide (-1 ≤ n.par ∧ n.par ≤ 29) && decide (n.par ≠ n.id) && decide (n.kids.length ≤ 30) && chk (kidB n.id n.par) ltB n.kids
def hasB (l : List Int) (x : Int) : Bool := l.any fun y => decide (y = x)
def nearB (n : Nd) (x : Int) : Bool := (decide (0 ≤ x) && decide (x = n.par)) || hasB n.kids x
def idB (low x : Int) : Bool := decide (low ≤ x ∧ x ≤ 1000000000)
def snB (s : Sn) : Bool := smB s.l && decide (s.ids.length ≤ 40) && chk (idB s.l) ltB s.ids
def toldB (n : Nd) : Bool := decide ((n.seen.length : Int) = n.kids.length + (if 0 ≤ n.par then 1 else 0)) && chk (fun s => nearB n s.f && snB s) (fun s t => ltB s.f t.f) n.seen
def outB (n : Nd) (o : Snt) : Bool := decide (1 ≤ o.i ∧ o.i ≤ n.next - 1) && nearB n o.t && keyOk o.k.data.toList && smB o.n
def reqB (n : Nd) (q : Rq) : Bool := decide (n.old + 1 ≤ q.no ∧ q.no ≤ 1000000000) && keyOk q.k.data.toList && smB q.n && decide (0 ≤ q.s ∧ q.s ≤ 2)
def outsB (n : Nd) : Bool := decide (n.out.length ≤ 40) && chk (outB n) (fun s t => ltB s.i t.i) n.out
def reqsB (n : Nd) : Bool := amB n.old && decide (n.reqs.length ≤ 30) && chk (reqB n) (fun s t => ltB s.no t.no) n.reqs
def ndOk (n : Nd) : Bool := placeB n && psOk n.pu && toldB n && smB n.next && outsB n && reqsB n
end Mth
open Go.RowKit

/-- A number lies between two others. -/
def Inn (x a b : Int) : Prop := a ≤ x ∧ x ≤ b
instance (x a b : Int) : Decidable (Inn x a b) := by unfold Inn; infer_instance

theorem l01InB (x a b : Int) (w : World) : Calls Tryz.prog 37 #[.int .i64 x, .int .i64 a, .int .i64 b] w fun e w' => e = .returned (.bool (decide (Inn x a b))) ∧ w = w' := by
  by_cases h : Inn x a b
  · rw [decide_eq_true h]; exact l01In_yes x a b w h.1 h.2
  · rw [decide_eq_false h]; exact l01In_no x a b w (by unfold Inn at h; omega)
theorem l01Amount (n : Int) (w : World) : Calls Tryz.prog 70 #[.int .i64 n] w fun e w' => e = .returned (.bool (decide (Inn n 0 1000000000))) ∧ w = w' := by
  go_enter Tryz.func70, Tryz.ntmps70
  go_wp2_with (go_at_call 37; refine (l01InB _ _ _ _).mono ?_; rintro e w1 ⟨rfl, rfl⟩)
  go_ret
  exact ⟨rfl, rfl⟩
end Go.Proofs.YtbanjohfcnadfaaGreatDoor
