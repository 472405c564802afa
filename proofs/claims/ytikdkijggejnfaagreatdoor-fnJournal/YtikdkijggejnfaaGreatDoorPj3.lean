/- Parts. -/
import Derived.Test.YtikdkijggejnfaaGreatDoorPj2
import Derived.Test.YtikdkijggejnfaaGreatDoorPj1
import Derived.Lib.Strings
import Derived.Lib.BufferWrite
import Derived.Lib.UnsafeStr
import Derived.Laws.MakeOwn
import Derived.Laws.CopyOwn
namespace Go.Proofs.YtikdkijggejnfaaGreatDoor
open Go.RowKit Go.Extern.Stop Go.Stop Go.Extern

set_option maxRecDepth 100000 in
set_option maxHeartbeats 2000000 in
theorem errorsAs (err : Value) (tb : Nat) (old : Value) (w : World) (hne : ∃ v, err = .iface 145 v)
    (has : ∀ (tg : Value) (t a : Addr) (old : Value) (w : World), w.cell? a = some (.pointer (some t)) → w.cell? t = some old → w.frozen? t = false →
      Calls Tryz.prog 124 #[err, tg, .agg #[.pointer (some ⟨7, 125, none⟩), .pointer (some a), .int .u64 150], .iface 167 (.agg #[.pointer (some ⟨7, 123, none⟩)])] w fun e w' => e = .returned (.bool true) ∧ Below t.block w w')
    (hg : w.cell? ⟨0, 0, none⟩ = some (.iface 167 (.agg #[.pointer (some ⟨7, 101, none⟩)])))
    (ht : w.cell? ⟨tb, 0, none⟩ = some old) (hf : w.frozen? ⟨tb, 0, none⟩ = false) :
    Calls Tryz.prog 108 #[err, .iface 125 (.pointer (some ⟨tb, 0, none⟩))] w fun e w' => e = .returned (.bool true) ∧ Below tb w w' := by
  obtain ⟨v, rfl⟩ := hne
  have HAS := hide has
  clear has
  have hVO := @run_callFunc_extern Tryz.prog 121 _ (fun args => ReflectliteValue.unpack (args.getD 0 (.tuple #[]))) Tryz.func121 (by kernel_rfl) (by kernel_rfl) (by kernel_rfl) (by kernel_rfl)
  have hTY := @run_callFunc_extern Tryz.prog 122 _ (ReflectliteValue.methodAny (ReflectliteValue.valueError "reflectlite.Value.Type" 0) (fun t _ _ _ => ReflectliteType.toType t)) Tryz.func122 (by kernel_rfl) (by kernel_rfl) (by kernel_rfl) (by kernel_rfl)
  have hIN := @run_callFunc_extern Tryz.prog 123 _ (ReflectliteValue.method (ReflectliteValue.valueError "reflectlite.Value.IsNil" 0) ReflectliteValue.isNil) Tryz.func123 (by kernel_rfl) (by kernel_rfl) (by kernel_rfl) (by kernel_rfl)
  have hKI := @run_callFunc_extern Tryz.prog 161 _ (ReflectliteType.abiMethod fun t => do pure (.int .u8 (← Rtype.kind t))) Tryz.func161 (by kernel_rfl) (by kernel_rfl) (by kernel_rfl) (by kernel_rfl)
  have hEL := @run_callFunc_extern Tryz.prog 180 _ (ReflectliteType.method ReflectliteType.elem) Tryz.func180 (by kernel_rfl) (by kernel_rfl) (by kernel_rfl) (by kernel_rfl)
  have hIM := @run_callFunc_extern Tryz.prog 181 _ (ReflectliteType.relation "Implements" ReflectliteType.implements_) Tryz.func181 (by kernel_rfl) (by kernel_rfl) (by kernel_rfl) (by kernel_rfl)
  have f1 := As.valueOfPtr
  have f2 := As.typePtr
  have f3 := As.methodKind
  have f4 := As.kindPtr
  have f5 := As.methodElem
  have f6 := As.elemType
  have f7 := As.kindStruct
  have f8 := As.methodImplements
  have f9 := As.implements
  have hgl := World.lt_of_cell hg
  have htl := World.lt_of_cell ht
  simp only at hgl htl
  have n8 := As.isNil ⟨w.heap.size, 0, none⟩ ⟨tb, 0, none⟩ ((w.alloc (.cells #[.pointer (some ⟨tb, 0, none⟩)] 125)).alloc (.cells #[.pointer (some ⟨7, 125, none⟩), .pointer (some ⟨w.heap.size, 0, none⟩), .int .u64 150] 148)) (by simp)
  have hg2 : ((w.alloc (.cells #[.pointer (some ⟨tb, 0, none⟩)] 125)).alloc (.cells #[.pointer (some ⟨7, 125, none⟩), .pointer (some ⟨w.heap.size, 0, none⟩), .int .u64 150] 148)).cell? ⟨0, 0, none⟩ = some (.iface 167 (.agg #[.pointer (some ⟨7, 101, none⟩)])) := by
    rw [World.cell?_alloc_lt _ _ ⟨0, 0, none⟩ (by simp <;> omega), World.cell?_alloc_lt _ _ ⟨0, 0, none⟩ hgl]; exact hg
  go_enter Tryz.func108, Tryz.ntmps108
  go_wp2_with (go_at_call 124; refine (unhide HAS _ ⟨tb, 0, none⟩ ⟨w.heap.size, 0, none⟩ old _ ?_ ?_ ?_).mono ?_; (simp); (rw [World.cell?_alloc_lt _ _ ⟨tb, 0, none⟩ (by simp; omega), World.cell?_alloc_lt _ _ ⟨tb, 0, none⟩ htl]; exact ht); (rw [World.frozen?_alloc_old _ _ ⟨tb, 0, none⟩ (by simp; omega), World.frozen?_alloc_old _ _ ⟨tb, 0, none⟩ (Nat.ne_of_lt htl)]; exact hf); rintro e w' ⟨rfl, hbel⟩)
  go_ret
  exact ⟨rfl, (((Below.refl _ _).alloc (by omega) _).alloc (by simp; omega) _).trans hbel⟩

/-- What the program needs of memory: the library's own handle of the type 'error'. -/
def Handle (w : World) : Prop := w.cell? ⟨0, 0, none⟩ = some (.iface 167 (.agg #[.pointer (some ⟨7, 101, none⟩)]))
theorem Handle.below {w w' : World} (h : Handle w) (hb : Below w.heap.size w w') : Handle w' := by
  have hl := World.lt_of_cell h
  unfold Handle; rw [hb.cell (p := ⟨0, 0, none⟩) hl]; exact h

theorem isNo_nil (w : World) : Calls Tryz.prog 87 #[.nilIface] w fun e w' => e = .returned (.bool false) ∧ Below w.heap.size w w' := by
  go_enter Tryz.func87, Tryz.ntmps87
  go_wp2_with (go_at_call 108; refine (as_nil _ _).mono ?_; rintro e w' ⟨rfl, rfl⟩)
  go_ret
  exact ⟨rfl, (Below.refl _ _).alloc (Nat.le_refl _) _⟩

theorem isNo_one (p : Int) (w : World) (h : Handle w) : Calls Tryz.prog 87 #[.iface 145 (.agg #[.iface 123 (.agg #[.int .i64 p])])] w fun e w' => e = .returned (.bool true) ∧ Below w.heap.size w w' := by
  have hl := World.lt_of_cell h
  have HG := hide (show Handle (w.alloc (.cells #[.int .i64 0] 123)) from h.below ((Below.refl _ _).alloc (Nat.le_refl _) _))
  clear h
  go_enter Tryz.func87, Tryz.ntmps87
  go_wp2_with (go_at_call 108; refine (errorsAs _ w.heap.size (.int .i64 0) _ ⟨_, rfl⟩ (fun tg t a old w h1 h2 h3 => as_one p tg t a old w h1 h2 h3) (unhide HG) ?_ ?_).mono ?_; (simp); (simp); rintro e w' ⟨rfl, hbel⟩)
  go_ret
  exact ⟨rfl, ((Below.refl _ _).alloc (Nat.le_refl _) _).trans hbel⟩

theorem isNo_two (p : Int) (w : World) (h : Handle w) : Calls Tryz.prog 87 #[.iface 145 (.agg #[.iface 145 (.agg #[.iface 123 (.agg #[.int .i64 p])])])] w fun e w' => e = .returned (.bool true) ∧ Below w.heap.size w w' := by
  have hl := World.lt_of_cell h
  have HG := hide (show Handle (w.alloc (.cells #[.int .i64 0] 123)) from h.below ((Below.refl _ _).alloc (Nat.le_refl _) _))
  clear h
  go_enter Tryz.func87, Tryz.ntmps87
  go_wp2_with (go_at_call 108; refine (errorsAs _ w.heap.size (.int .i64 0) _ ⟨_, rfl⟩ (fun tg t a old w h1 h2 h3 => as_two p tg t a old w h1 h2 h3) (unhide HG) ?_ ?_).mono ?_; (simp); (simp); rintro e w' ⟨rfl, hbel⟩)
  go_ret
  exact ⟨rfl, ((Below.refl _ _).alloc (Nat.le_refl _) _).trans hbel⟩
open Go.RowKit

/-- The number at a place that may lie outside. -/
def getAt (s : ByteArray) (i : Int) : Option (Nat × Nat) := if i < 0 then none else Mth.get s.data.toList i.toNat
theorem getAt_neg (s : ByteArray) (i : Int) (h : i < 0) : getAt s i = none := by simp [getAt, h]
theorem getAt_nat (s : ByteArray) (n : Nat) : getAt s n = Mth.get s.data.toList n := by
  unfold getAt; rw [if_neg (by omega)]; rfl

theorem numAtI (s : ByteArray) (i : Int) (w : World) (hs : s.size ≤ maxLen) : Calls Tryz.prog 125 #[.string s, .int .i64 i] w fun e w' => e = .returned (numRes (getAt s i) i) ∧ w = w' := by
  by_cases h : i < 0
  · rw [getAt_neg s i h]; exact numAt_neg s i w h
  · obtain ⟨n, rfl⟩ := Int.eq_ofNat_of_zero_le (show 0 ≤ i by omega)
    rw [getAt_nat]; exact numAt s n w hs
theorem specGetNumI (s : ByteArray) (i : Int) (w : World) (hs : s.size ≤ maxLen) : Calls Tryz.prog 46 #[.string s, .int .i64 i] w fun e w' => e = .returned (getRes (getAt s i) i) ∧ Below w.heap.size w w' := by
  by_cases h : i < 0
  · rw [getAt_neg s i h]
    exact (specGetNum_neg s i w h).mono fun e w' ⟨he, hw⟩ => ⟨he, hw ▸ Below.refl _ _⟩
  · obtain ⟨n, rfl⟩ := Int.eq_ofNat_of_zero_le (show 0 ≤ i by omega)
    rw [getAt_nat]; exact specGetNum s n w hs

set_option maxRecDepth 100000 in
set_option maxHeartbeats 1000000 in
theorem implGetNumI (s : ByteArray) (i : Int) (w : World) (hs : s.size ≤ maxLen) (hH : Handle w) : Calls Tryz.prog 111 #[.string s, .int .i64 i] w fun e w' => e = .returned (getRes (getAt s i) i) ∧ Below w.heap.size w w' := by
  have HN := hide (fun w1 => numAtI s i w1 hs)
  have HH := hide hH
  clear hH
  cases hG : getAt s i with
  | none =>
    rw [hG] at HN
    go_enter Tryz.func111, Tryz.ntmps111
    go_wp2_with (first | (go_at_call 125; refine (unhide HN _).mono ?_; rintro e w' ⟨rfl, rfl⟩; simp only [numRes]) | (go_at_call 87; refine (isNo_one _ _ (unhide HH)).mono ?_; rintro e w' ⟨rfl, hbel⟩))
    go_ret2
    exact ⟨rfl, hbel⟩
  | some p =>
    obtain ⟨n, c⟩ := p
    rw [hG] at HN
    go_enter Tryz.func111, Tryz.ntmps111
    go_wp2_with (first | (go_at_call 125; refine (unhide HN _).mono ?_; rintro e w' ⟨rfl, rfl⟩; simp only [numRes]) | (go_at_call 87; refine (isNo_nil _).mono ?_; rintro e w' ⟨rfl, hbel⟩))
    go_ret2
    exact ⟨rfl, hbel⟩

theorem infoByte : (Tryz.prog.info? 5).map (fun i => (i.zero, i.size, i.bytes)) = some (some (.int .u8 0), 1, 1) := by kernel_rfl
theorem sizeByte : (Tryz.prog.info? 5).map (·.size) = some 1 := by kernel_rfl
theorem cellsByte : Tryz.prog.cellsOf 5 = 1 := by kernel_rfl

theorem cloneIn_empty (w : World) : Calls Tryz.prog 83 #[.string ByteArray.empty] w fun e w' => e = .returned (.string ByteArray.empty) ∧ w = w' := by
  go_enter Tryz.func83, Tryz.ntmps83
  go_wp2
  go_ret
  exact ⟨rfl, rfl⟩

/-- 'make([]byte, n)': a new row of n noughts, under a name. -/
theorem make_bytes (n : Nat) (hn : n ≤ 281474976710656) : ∃ M : Array Value, M.size = n ∧ ∀ W : World, (Instr.makeSlice 30 (.int .i64 (n : Int)) (.int .i64 (n : Int))).run Tryz.prog W = .ok (.slice (some ⟨W.heap.size, 0, none⟩) n n) (W.alloc (.cells M 5)) := by
  obtain ⟨i0, hi, hz0, hz1, hz2⟩ := info_parts infoByte
  refine ⟨madeCells (Value.int .u8 0).cells (((n : Nat) : Int).toNat * i0.size), by rw [size_madeCells, hz1]; simp, fun W => ?_⟩
  simpa using run_make (P := Tryz.prog) W 30 5 i0 (.int .u8 0) Tryz.underlying30 hi hz0 .i64 .i64 (n : Int) (n : Int) (by omega) (by omega) (by rw [hz2]; omega) (by omega)

/-- 'copy(b, s)' over a whole new row: the row then holds the text's bytes. -/
theorem copy_all (w : World) (s : ByteArray) (M : Array Value) (hM : M.size = s.size) : ∃ Y : Array Value, Y.toList = s.data.toList.map bv ∧
    (Builtin.copy_ #[30, 9] 3 #[.slice (some ⟨w.heap.size, 0, none⟩) s.size s.size, .string s]).run Tryz.prog (w.alloc (.cells M 5)) = .ok (goInt s.size) ((w.alloc (.cells M 5)).setRow w.heap.size Y) := by
  have h := Lib.run_copy_row_string (P := Tryz.prog) (w.alloc (.cells M 5)) 30 9 3 5 w.heap.size 0 s.size s.size s M 5 Tryz.underlying30 sizeByte (heap_alloc_new w _) (Nat.le_refl _) (by omega)
  refine ⟨_, ?_, h⟩
  rw [List.toList_toArray, List.take_zero, List.nil_append, List.drop_of_length_le (by rw [Array.length_toList]; omega), List.append_nil]
  rfl

set_option maxHeartbeats 1000000 in
set_option maxRecDepth 100000 in
theorem cloneIn (s : ByteArray) (w : World) (h0 : 0 < s.size) (hlim : s.size ≤ 281474976710656) :
    Calls Tryz.prog 83 #[.string s] w fun e w' => e = .returned (.string s) ∧ Below w.heap.size w w' := by
  obtain ⟨M, hMs, hmk⟩ := make_bytes s.size hlim
  obtain ⟨Y, hY, hcp⟩ := copy_all w s M hMs
  have hYs : Y.size = s.size := by rw [← Array.length_toList, hY]; simp
  have hg : ((w.alloc (.cells M 5)).setRow w.heap.size Y).heap[w.heap.size]? = some (.cells Y 5 (0, 0)) := setRow_heap _ _ M _ 5 (0, 0) (heap_alloc_new w _)
  have hus := Lib.run_unsafeString_row (P := Tryz.prog) ((w.alloc (.cells M 5)).setRow w.heap.size Y) 117 3 9 5 Tryz.underlying117 cellsByte w.heap.size Y.size (by unfold World.shape?; rw [hg]) s.data.toList
    (fun e => by have := size_toList s; rw [e] at this; simp at this; omega) (by rw [size_toList]; omega) (by rw [size_toList]; omega)
    (fun j x hx => Lib.cells_of_row hg Y.size j _ (by rw [List.take_of_length_le (by rw [Array.length_toList]; exact Nat.le_refl _), hY]; simp [bv, hx]))
  rw [size_toList, Lib.mk_data] at hus
  have hne : ((s.size : Int) == 0) = false := beq_eq_false_iff_ne.2 (by omega)
  have hlt : (0 : Int) < (s.size : Int) := by omega
  clear hY hMs hg
  go_enter Tryz.func83, Tryz.ntmps83
  go_wp2
  go_ret
  exact ⟨rfl, Lib.below_freeze (below_setRow ((Below.refl _ w).alloc (Nat.le_refl _) _) (Nat.le_refl _) Y) (p := ⟨w.heap.size, 0, none⟩) (Nat.le_refl _) _⟩

theorem clone (s : ByteArray) (w : World) (hlim : s.size ≤ 281474976710656) :
    Calls Tryz.prog 58 #[.string s] w fun e w' => e = .returned (.string s) ∧ Below w.heap.size w w' := by
  by_cases h0 : 0 < s.size
  · go_enter Tryz.func58, Tryz.ntmps58
    go_wp2_with (go_at_call 83; refine (cloneIn s _ h0 hlim).mono ?_; rintro e w' ⟨rfl, hbel⟩)
    go_ret
    exact ⟨rfl, hbel⟩
  · obtain rfl := eq_empty s (by omega)
    go_enter Tryz.func58, Tryz.ntmps58
    go_wp2_with (go_at_call 83; refine (cloneIn_empty _).mono ?_; rintro e w' ⟨rfl, rfl⟩)
    go_ret
    exact ⟨rfl, Below.refl _ _⟩

/-- What GetText hands back. -/
def textRes (o : Option (ByteArray × Nat)) : Value :=
  match o with
  | none => .tuple #[.string ByteArray.empty, .int .i64 (-1)]
  | some (t, b) => .tuple #[.string t, .int .i64 b]
/-- The text at a place. -/
def textOf (s : ByteArray) (i : Nat) (o : Option (Nat × Nat)) : Option (ByteArray × Nat) :=
  match o with
  | none => none
  | some (n, c) => if 1000 < n ∨ s.size - (i + c) < n then none else some (s.extract (i + c) (i + c + n), i + c + n)

theorem get_some_nat {s : ByteArray} {i : Int} {n c : Nat} (h : getAt s i = some (n, c)) : ∃ k : Nat, i = k ∧ Mth.get s.data.toList k = some (n, c) ∧ n ≤ 4000000000 ∧ k + c ≤ s.size := by
  by_cases h0 : i < 0
  · rw [getAt_neg s i h0] at h; cases h
  · obtain ⟨k, rfl⟩ := Int.eq_ofNat_of_zero_le (show 0 ≤ i by omega)
    have h' : getAt s (k : Int) = some (n, c) := h
    rw [getAt_nat] at h'
    have hb := Mth.get_bound _ _ _ _ h'
    rw [size_toList] at hb
    exact ⟨k, rfl, h', hb.1, hb.2.2.2⟩

set_option maxRecDepth 100000 in
set_option maxHeartbeats 1000000 in
theorem specGetText (s : ByteArray) (i : Int) (w : World) (hs : s.size ≤ maxLen) : Calls Tryz.prog 37 #[.string s, .int .i64 i] w fun e w' => e = .returned (textRes (textOf s i.toNat (getAt s i))) ∧ Below w.heap.size w w' := by
  have HS := hide (fun w1 => specGetNumI s i w1 hs)
  unfold maxLen at hs
  cases hG : getAt s i with
  | none =>
    rw [hG] at HS
    go_enter Tryz.func37, Tryz.ntmps37
    go_wp2_with (go_at_call 46; refine (unhide HS _).mono ?_; rintro e w1 ⟨rfl, hb1⟩; simp only [getRes])
    go_ret2
    exact ⟨rfl, hb1⟩
  | some p =>
    obtain ⟨n, c⟩ := p
    obtain ⟨k, rfl, _, hn, hk⟩ := get_some_nat hG
    rw [hG] at HS
    by_cases hbad : 1000 < n ∨ s.size - (k + c) < n
    · have HR : Hid (textOf s k (some (n, c)) = none) := by unfold textOf; exact if_pos hbad
      rw [Int.toNat_natCast]
      by_cases h1 : 1000 < n
      · clear hbad
        go_enter Tryz.func37, Tryz.ntmps37
        go_wp2_with (go_at_call 46; refine (unhide HS _).mono ?_; rintro e w1 ⟨rfl, hb1⟩; simp only [getRes])
        go_ret2
        exact ⟨by rw [unhide HR]; rfl, hb1⟩
      · have h2 : (s.size : Int) - ((k : Int) + (c : Int)) < (n : Int) := by omega
        clear hbad
        go_enter Tryz.func37, Tryz.ntmps37
        go_wp2_with (go_at_call 46; refine (unhide HS _).mono ?_; rintro e w1 ⟨rfl, hb1⟩; simp only [getRes])
        go_ret2
        exact ⟨by rw [unhide HR]; rfl, hb1⟩
    · have HR : Hid (textOf s k (some (n, c)) = some (s.extract (k + c) (k + c + n), k + c + n)) := by unfold textOf; exact if_neg hbad
      rw [Int.toNat_natCast]
      have h1 : ¬ 1000 < n := by omega
      have h2 : ¬ (s.size : Int) - ((k : Int) + (c : Int)) < (n : Int) := by omega
      clear hbad
      go_enter Tryz.func37, Tryz.ntmps37
      go_wp2_with (go_at_call 46; refine (unhide HS _).mono ?_; rintro e w1 ⟨rfl, hb1⟩; simp only [getRes])
      go_ret2
      exact ⟨by rw [unhide HR]; simp [textRes], hb1⟩

/-- The two errors that textAt hands on. -/
def textErr (o : Option (Nat × Nat)) (i : Int) : Value :=
  match o with
  | none => .iface 145 (.agg #[.iface 145 (.agg #[.iface 123 (.agg #[.int .i64 i])])])
  | some _ => .iface 145 (.agg #[.iface 123 (.agg #[.int .i64 i])])
/-- What textAt hands back. -/
def textAtRes (t : Option (ByteArray × Nat)) (o : Option (Nat × Nat)) (i : Int) : Value :=
  match t with
  | none => .tuple #[.string ByteArray.empty, .int .i64 0, textErr o i]
  | some (x, b) => .tuple #[.string x, .int .i64 b, .nilIface]

set_option maxRecDepth 100000 in
set_option maxHeartbeats 1000000 in
theorem textAt (s : ByteArray) (i : Int) (w : World) (hs : s.size ≤ maxLen) : Calls Tryz.prog 109 #[.string s, .int .i64 i] w fun e w' => e = .returned (textAtRes (textOf s i.toNat (getAt s i)) (getAt s i) i) ∧ Below w.heap.size w w' := by
  have HS := hide (fun w1 => numAtI s i w1 hs)
  unfold maxLen at hs
  cases hG : getAt s i with
  | none =>
    rw [hG] at HS
    go_enter Tryz.func109, Tryz.ntmps109
    go_wp2_with (go_at_call 125; refine (unhide HS _).mono ?_; rintro e w1 ⟨rfl, rfl⟩; simp only [numRes])
    go_ret3
    exact ⟨rfl, Below.refl _ _⟩
  | some p =>
    obtain ⟨n, c⟩ := p
    obtain ⟨k, rfl, _, hn, hk⟩ := get_some_nat hG
    rw [hG] at HS
    by_cases hbad : 1000 < n ∨ s.size - (k + c) < n
    · have HR : Hid (textOf s k (some (n, c)) = none) := by unfold textOf; exact if_pos hbad
      rw [Int.toNat_natCast]
      by_cases h1 : 1000 < n
      · clear hbad
        go_enter Tryz.func109, Tryz.ntmps109
        go_wp2_with (first | (go_at_call 125; refine (unhide HS _).mono ?_; rintro e w1 ⟨rfl, rfl⟩; simp only [numRes]) | (go_at_call 107; refine (noNumberAt _ _).mono ?_; rintro e w' ⟨rfl, rfl⟩))
        go_ret3
        exact ⟨by rw [unhide HR]; rfl, Below.refl _ _⟩
      · have h2 : (s.size : Int) - ((k : Int) + (c : Int)) < (n : Int) := by omega
        clear hbad
        go_enter Tryz.func109, Tryz.ntmps109
        go_wp2_with (first | (go_at_call 125; refine (unhide HS _).mono ?_; rintro e w1 ⟨rfl, rfl⟩; simp only [numRes]) | (go_at_call 107; refine (noNumberAt _ _).mono ?_; rintro e w' ⟨rfl, rfl⟩))
        go_ret3
        exact ⟨by rw [unhide HR]; rfl, Below.refl _ _⟩
    · have HR : Hid (textOf s k (some (n, c)) = some (s.extract (k + c) (k + c + n), k + c + n)) := by unfold textOf; exact if_neg hbad
      rw [Int.toNat_natCast]
      have h1 : ¬ 1000 < n := by omega
      have h2 : ¬ (s.size : Int) - ((k : Int) + (c : Int)) < (n : Int) := by omega
      have hz : (s.extract (k + c) (k + c + n)).size ≤ 281474976710656 := by rw [ByteArray.size_extract]; omega
      clear hbad
      go_enter Tryz.func109, Tryz.ntmps109
      go_wp2_with (first | (go_at_call 125; refine (unhide HS _).mono ?_; rintro e w1 ⟨rfl, rfl⟩; simp only [numRes]) | (go_at_call 58; refine (clone _ _ hz).mono ?_; rintro e w2 ⟨rfl, hb2⟩))
      go_ret3
      exact ⟨by rw [unhide HR]; simp [textAtRes], hb2⟩

set_option maxRecDepth 100000 in
set_option maxHeartbeats 1000000 in
theorem implGetText (s : ByteArray) (i : Int) (w : World) (hs : s.size ≤ maxLen) (hH : Handle w) : Calls Tryz.prog 89 #[.string s, .int .i64 i] w fun e w' => e = .returned (textRes (textOf s i.toNat (getAt s i))) ∧ Below w.heap.size w w' := by
  have HN := hide (fun w1 => textAt s i w1 hs)
  have HH := hide hH
  clear hH
  cases hT : textOf s i.toNat (getAt s i) with
  | none =>
    rw [hT] at HN
    cases hG : getAt s i with
    | none =>
      rw [hG] at HN
      go_enter Tryz.func89, Tryz.ntmps89
      go_wp2_with (first | (go_at_call 109; refine (unhide HN _).mono ?_; rintro e w1 ⟨rfl, hb1⟩; simp only [textAtRes, textErr]) | (go_at_call 87; refine (isNo_two _ _ ((unhide HH).below hb1)).mono ?_; rintro e w2 ⟨rfl, hb2⟩))
      go_ret2
      exact ⟨rfl, hb1.trans (hb2.mono hb1.size)⟩
    | some p =>
      rw [hG] at HN
      go_enter Tryz.func89, Tryz.ntmps89
      go_wp2_with (first | (go_at_call 109; refine (unhide HN _).mono ?_; rintro e w1 ⟨rfl, hb1⟩; simp only [textAtRes, textErr]) | (go_at_call 87; refine (isNo_one _ _ ((unhide HH).below hb1)).mono ?_; rintro e w2 ⟨rfl, hb2⟩))
      go_ret2
      exact ⟨rfl, hb1.trans (hb2.mono hb1.size)⟩
  | some p =>
    obtain ⟨x, b⟩ := p
    rw [hT] at HN
    go_enter Tryz.func89, Tryz.ntmps89
    go_wp2_with (first | (go_at_call 109; refine (unhide HN _).mono ?_; rintro e w1 ⟨rfl, hb1⟩; simp only [textAtRes]) | (go_at_call 87; refine (isNo_nil _).mono ?_; rintro e w2 ⟨rfl, hb2⟩))
    go_ret2
    exact ⟨rfl, hb1.trans (hb2.mono hb1.size)⟩

/-- A text's bytes ahead of which the count stands. -/
def putText (s : ByteArray) : ByteArray := ⟨(Mth.put s.size ++ s.data.toList).toArray⟩

theorem add_put (s : ByteArray) : (⟨(Mth.put s.size).toArray⟩ : ByteArray) ++ s = putText s := by
  apply ByteArray.ext
  simp [putText]

theorem specPutText_none (s : ByteArray) (w : World) (h : 1000 < s.size) :
    Calls Tryz.prog 49 #[.string s] w fun e w' => e = .returned (.string ByteArray.empty) ∧ w = w' := by
  go_enter Tryz.func49, Tryz.ntmps49
  go_wp2
  go_ret
  exact ⟨rfl, rfl⟩

set_option maxRecDepth 100000 in
set_option maxHeartbeats 400000 in
theorem specPutText (s : ByteArray) (w : World) (h : s.size ≤ 1000) :
    Calls Tryz.prog 49 #[.string s] w fun e w' => e = .returned (.string (putText s)) ∧ Below w.heap.size w w' := by
  have hl := Mth.put_length s.size
  have hadd := fun w1 => run_string_add_sum (P := Tryz.prog) w1 ⟨(Mth.put s.size).toArray⟩ s (by rw [size_of_list]; omega)
  simp only [add_put] at hadd
  go_enter Tryz.func49, Tryz.ntmps49
  go_wp2_with (go_at_call 48; refine (specPutNum s.size _ (by omega)).mono ?_; rintro e w' ⟨rfl, hbel⟩)
  go_ret
  exact ⟨rfl, by assumption⟩

/-- What PutNum hands back at whatever number. -/
def putS (n : Int) : ByteArray := if 0 ≤ n ∧ n ≤ 4000000000 then ⟨(Mth.put n.toNat).toArray⟩ else ByteArray.empty
theorem specPutAny (n : Int) (w : World) : Calls Tryz.prog 48 #[.int .i64 n] w fun e w' => e = .returned (.string (putS n)) ∧ Below w.heap.size w w' := by
  unfold putS
  by_cases h : 0 ≤ n ∧ n ≤ 4000000000
  · rw [if_pos h]
    exact specPutNumI n w h.1 h.2
  · rw [if_neg h]
    exact (specPutNum_none n w (by omega)).mono fun e w' ⟨he, hw⟩ => ⟨he, hw ▸ Below.refl _ _⟩
/-- What PutText hands back at whatever text. -/
def putT (s : ByteArray) : ByteArray := if s.size ≤ 1000 then putText s else ByteArray.empty
theorem specPutTAny (s : ByteArray) (w : World) : Calls Tryz.prog 49 #[.string s] w fun e w' => e = .returned (.string (putT s)) ∧ Below w.heap.size w w' := by
  unfold putT
  by_cases h : s.size ≤ 1000
  · rw [if_pos h]; exact specPutText s w h
  · rw [if_neg h]; exact (specPutText_none s w (by omega)).mono fun e w' ⟨he, hw⟩ => ⟨he, hw ▸ Below.refl _ _⟩
theorem putS_size (n : Int) : (putS n).size ≤ 6 := by
  unfold putS
  split
  · rw [size_of_list]; exact Mth.put_length _
  · decide
theorem putT_size (x : ByteArray) : (putT x).size ≤ 1006 := by
  unfold putT
  split
  · unfold putText; rw [size_of_list, List.length_append, size_toList]; have := Mth.put_length x.size; omega
  · decide

/-- The two results of GetNum, each by itself. -/
def numN (o : Option (Nat × Nat)) : Int := match o with | none => 0 | some (n, _) => n
def numT (o : Option (Nat × Nat)) (i : Int) : Int := match o with | none => -1 | some (_, c) => i + c
theorem getRes_two (o : Option (Nat × Nat)) (i : Int) : getRes o i = .tuple #[.int .i64 (numN o), .int .i64 (numT o i)] := by cases o <;> rfl
def txtS (o : Option (ByteArray × Nat)) : ByteArray := match o with | none => ByteArray.empty | some (t, _) => t
def txtE (o : Option (ByteArray × Nat)) : Int := match o with | none => -1 | some (_, b) => b
theorem textRes_two (o : Option (ByteArray × Nat)) : textRes o = .tuple #[.string (txtS o), .int .i64 (txtE o)] := by cases o <;> rfl

/-- What was read was put so. -/
theorem read_put {s : ByteArray} {i : Int} {n c : Nat} (h : getAt s i = some (n, c)) : ∃ k : Nat, i = k ∧ k + c ≤ s.size ∧ 0 < c ∧ n ≤ 4000000000 ∧ (putS n).toList = (s.extract k (k + c)).toList := by
  obtain ⟨k, rfl, hg, hn, hk⟩ := get_some_nat h
  have hb := Mth.get_bound _ _ _ _ hg
  refine ⟨k, rfl, hk, hb.2.1, hn, ?_⟩
  unfold putS
  rw [if_pos (by omega), Int.toNat_natCast, ByteArray.toList_mk, Lib.extract_toList, Mth.get_was_put _ _ _ _ hg]
  congr 1; omega
theorem read_text {s : ByteArray} {i : Int} {t : ByteArray} {e : Nat} (h : textOf s i.toNat (getAt s i) = some (t, e)) : ∃ k : Nat, i = k ∧ k < e ∧ e ≤ s.size ∧ t.size ≤ 1000 ∧ (putT t).toList = (s.extract k e).toList := by
  cases hG : getAt s i with
  | none => rw [hG] at h; simp [textOf] at h
  | some p =>
    obtain ⟨n, c⟩ := p
    obtain ⟨k, rfl, hk, hc, hn, hput⟩ := read_put hG
    rw [hG, Int.toNat_natCast] at h
    unfold textOf at h
    simp only at h
    split at h
    · cases h
    · rename_i hbad
      simp only [Option.some.injEq, Prod.mk.injEq] at h
      obtain ⟨rfl, rfl⟩ := h
      have hsz : (s.extract (k + c) (k + c + n)).size = n := by rw [ByteArray.size_extract]; omega
      refine ⟨k, rfl, by omega, by omega, by omega, ?_⟩
      unfold putT
      rw [if_pos (by omega)]
      unfold putText
      rw [ByteArray.toList_mk, hsz]
      have e1 : Mth.put n = (s.extract k (k + c)).toList := by
        rw [← hput]; unfold putS; rw [if_pos (by omega), Int.toNat_natCast, ByteArray.toList_mk]
      rw [e1, Lib.extract_toList, Lib.extract_data, Lib.extract_toList]
      have h1 : k + c - k = c := by omega
      have h2 : k + c + n - (k + c) = n := by omega
      have h3 : k + c + n - k = c + n := by omega
      rw [h1, h2, h3, ← List.drop_drop, List.take_add]


set_option maxRecDepth 100000 in
set_option maxHeartbeats 1000000 in
theorem specKeyOk (s : ByteArray) (w : World) (hs : s.size ≤ maxLen) :
    Calls Tryz.prog 76 #[.string s] w fun e w' => e = .returned (.bool (Mth.keyOk s.data.toList)) ∧ w = w' := by
  unfold maxLen at hs
  go_enter Tryz.func76, Tryz.ntmps76
  go_wp2
  go_loop [3] (fun i => ∃ k : Nat, k ≤ s.size ∧ i = .int .i64 k ∧ (s.data.toList.take k).all Mth.keyByte = true) (fun i => s.size - (intOf i).toNat)
  case atStart => exact ⟨0, Nat.zero_le _, rfl, rfl⟩
  case round =>
    obtain ⟨k, hk, rfl, hall⟩ := hrel
    have HA := hide hall
    clear hall
    by_cases hlt : k < s.size
    · have HS : Hid ((s.data.toList.take (k + 1)).all Mth.keyByte = ((s.data.toList.take k).all Mth.keyByte && Mth.keyByte s[k])) := by rw [Mth.take_snoc s k hlt]; exact Mth.all_snoc _ _
      have hc : s[k].toNat < 256 := s[k].toNat_lt
      rcases Mth.byte_cases s[k] with h | h
      · have HK := hide (Mth.keyByte_yes _ h)
        rcases h with ⟨h1, h2⟩ | ⟨h1, h2⟩
        all_goals
          go_wp2_with (go_at_call 72; first | (refine (l01In_yes _ _ _ _ ?_ ?_).mono ?_; omega; omega; rintro e w' ⟨rfl, rfl⟩) | (refine (l01In_no _ _ _ _ ?_).mono ?_; omega; rintro e w' ⟨rfl, rfl⟩))
          go_round
          case rel => exact ⟨k + 1, by omega, by go_num, by rw [unhide HS, unhide HA, unhide HK]; rfl⟩
          case measure => simp [intOf]; omega
      · have HK := hide (Mth.keyByte_no _ h)
        have HF : Hid (Mth.keyOk s.data.toList = false) := Mth.keyOk_bad _ (k + 1) (by rw [unhide HS, unhide HA, unhide HK]; rfl)
        rcases h with h1 | ⟨h1, h2⟩ | h1
        all_goals
          go_wp2_with (go_at_call 72; first | (refine (l01In_yes _ _ _ _ ?_ ?_).mono ?_; omega; omega; rintro e w' ⟨rfl, rfl⟩) | (refine (l01In_no _ _ _ _ ?_).mono ?_; omega; rintro e w' ⟨rfl, rfl⟩))
          go_ret
          exact ⟨ret_bool (unhide HF).symm, rfl⟩
    · rw [Mth.take_all s k hlt] at HA
      have HF : Hid (Mth.keyOk s.data.toList = decide (1 ≤ s.data.toList.length ∧ s.data.toList.length ≤ 10)) := Mth.keyOk_all _ (unhide HA)
      rw [size_toList s] at HF
      by_cases hin : (1 : Int) ≤ (s.size : Int) ∧ (s.size : Int) ≤ 10
      · obtain ⟨hi1, hi2⟩ := hin
        go_wp2_with (go_at_call 72; first | (refine (l01In_yes _ _ _ _ ?_ ?_).mono ?_; omega; omega; rintro e w' ⟨rfl, rfl⟩) | (refine (l01In_no _ _ _ _ ?_).mono ?_; omega; rintro e w' ⟨rfl, rfl⟩))
        go_ret
        exact ⟨ret_bool (by rw [unhide HF]; simp; omega), rfl⟩
      · go_wp2_with (go_at_call 72; first | (refine (l01In_yes _ _ _ _ ?_ ?_).mono ?_; omega; omega; rintro e w' ⟨rfl, rfl⟩) | (refine (l01In_no _ _ _ _ ?_).mono ?_; omega; rintro e w' ⟨rfl, rfl⟩))
        go_ret
        exact ⟨ret_bool (by rw [unhide HF]; simp; omega), rfl⟩

theorem small_yes (n : Int) (w : World) (h1 : 97 ≤ n) (h2 : n ≤ 122) : Calls Tryz.prog 97 #[.int .u8 n] w fun e w' => e = .returned (.bool true) ∧ w = w' := by
  go_enter Tryz.func97, Tryz.ntmps97
  go_wp2
  go_ret
  exact ⟨rfl, rfl⟩
theorem small_no (n : Int) (w : World) (h : n < 97 ∨ 122 < n) : Calls Tryz.prog 97 #[.int .u8 n] w fun e w' => e = .returned (.bool false) ∧ w = w' := by
  by_cases h1 : 97 ≤ n
  · have h2 : ¬ n ≤ 122 := by omega
    clear h
    go_enter Tryz.func97, Tryz.ntmps97
    go_wp2
    go_ret
    exact ⟨rfl, rfl⟩
  · clear h
    go_enter Tryz.func97, Tryz.ntmps97
    go_wp2
    go_ret
    exact ⟨rfl, rfl⟩
theorem digit_yes (n : Int) (w : World) (h1 : 48 ≤ n) (h2 : n ≤ 57) : Calls Tryz.prog 98 #[.int .u8 n] w fun e w' => e = .returned (.bool true) ∧ w = w' := by
  go_enter Tryz.func98, Tryz.ntmps98
  go_wp2
  go_ret
  exact ⟨rfl, rfl⟩
theorem digit_no (n : Int) (w : World) (h : n < 48 ∨ 57 < n) : Calls Tryz.prog 98 #[.int .u8 n] w fun e w' => e = .returned (.bool false) ∧ w = w' := by
  by_cases h1 : 48 ≤ n
  · have h2 : ¬ n ≤ 57 := by omega
    clear h
    go_enter Tryz.func98, Tryz.ntmps98
    go_wp2
    go_ret
    exact ⟨rfl, rfl⟩
  · clear h
    go_enter Tryz.func98, Tryz.ntmps98
    go_wp2
    go_ret
    exact ⟨rfl, rfl⟩
end Go.Proofs.YtikdkijggejnfaaGreatDoor
