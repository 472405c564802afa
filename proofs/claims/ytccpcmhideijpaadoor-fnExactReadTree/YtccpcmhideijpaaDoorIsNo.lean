/-
  What the program's isNoNumber comes to: false at nil, true at what noNumberAt makes and at that wrapped once more.
-/
import Derived.Test.YtccpcmhideijpaaDoorAsWalk
namespace Go.Proofs.YtccpcmhideijpaaDoor
open Go.RowKit Go.Extern.Stop Go.Stop Go.Extern

set_option maxRecDepth 100000 in
set_option maxHeartbeats 2000000 in
theorem errorsAs (err : Value) (tb : Nat) (old : Value) (w : World) (hne : ∃ v, err = .iface 70 v)
    (has : ∀ (tg : Value) (t a : Addr) (old : Value) (w : World), w.cell? a = some (.pointer (some t)) → w.cell? t = some old → w.frozen? t = false →
      Calls Tryd.prog 51 #[err, tg, .agg #[.pointer (some ⟨7, 65, none⟩), .pointer (some a), .int .u64 150], .iface 90 (.agg #[.pointer (some ⟨7, 63, none⟩)])] w fun e w' => e = .returned (.bool true) ∧ Below t.block w w')
    (hg : w.cell? ⟨0, 0, none⟩ = some (.iface 90 (.agg #[.pointer (some ⟨7, 49, none⟩)])))
    (ht : w.cell? ⟨tb, 0, none⟩ = some old) (hf : w.frozen? ⟨tb, 0, none⟩ = false) :
    Calls Tryd.prog 41 #[err, .iface 65 (.pointer (some ⟨tb, 0, none⟩))] w fun e w' => e = .returned (.bool true) ∧ Below tb w w' := by
  obtain ⟨v, rfl⟩ := hne
  have HAS := hide has
  clear has
  have hVO := @run_callFunc_extern Tryd.prog 48 _ (fun args => ReflectliteValue.unpack (args.getD 0 (.tuple #[]))) Tryd.func48 (by kernel_rfl) (by kernel_rfl) (by kernel_rfl) (by kernel_rfl)
  have hTY := @run_callFunc_extern Tryd.prog 49 _ (ReflectliteValue.methodAny (ReflectliteValue.valueError "reflectlite.Value.Type" 0) (fun t _ _ _ => ReflectliteType.toType t)) Tryd.func49 (by kernel_rfl) (by kernel_rfl) (by kernel_rfl) (by kernel_rfl)
  have hIN := @run_callFunc_extern Tryd.prog 50 _ (ReflectliteValue.method (ReflectliteValue.valueError "reflectlite.Value.IsNil" 0) ReflectliteValue.isNil) Tryd.func50 (by kernel_rfl) (by kernel_rfl) (by kernel_rfl) (by kernel_rfl)
  have hKI := @run_callFunc_extern Tryd.prog 94 _ (ReflectliteType.abiMethod fun t => do pure (.int .u8 (← Rtype.kind t))) Tryd.func94 (by kernel_rfl) (by kernel_rfl) (by kernel_rfl) (by kernel_rfl)
  have hEL := @run_callFunc_extern Tryd.prog 107 _ (ReflectliteType.method ReflectliteType.elem) Tryd.func107 (by kernel_rfl) (by kernel_rfl) (by kernel_rfl) (by kernel_rfl)
  have hIM := @run_callFunc_extern Tryd.prog 108 _ (ReflectliteType.relation "Implements" ReflectliteType.implements_) Tryd.func108 (by kernel_rfl) (by kernel_rfl) (by kernel_rfl) (by kernel_rfl)
  have f1 := As.valueOfPtr
  have f2 := As.typePtr
  have f3 := As.methodKind
  have f4 := As.kindPtr
  have f5 := As.methodElem
  have f6 := As.elemType
  have f7 := As.kindStruct
  have f8 := As.methodImplements
  have f9 := As.implements
  have hgl := World.lt_of_cell hg
  have htl := World.lt_of_cell ht
  simp only at hgl htl
  have n8 := As.isNil ⟨w.heap.size, 0, none⟩ ⟨tb, 0, none⟩ ((w.alloc (.cells #[.pointer (some ⟨tb, 0, none⟩)] 65)).alloc (.cells #[.pointer (some ⟨7, 65, none⟩), .pointer (some ⟨w.heap.size, 0, none⟩), .int .u64 150] 74)) (by simp)
  have hg2 : ((w.alloc (.cells #[.pointer (some ⟨tb, 0, none⟩)] 65)).alloc (.cells #[.pointer (some ⟨7, 65, none⟩), .pointer (some ⟨w.heap.size, 0, none⟩), .int .u64 150] 74)).cell? ⟨0, 0, none⟩ = some (.iface 90 (.agg #[.pointer (some ⟨7, 49, none⟩)])) := by
    rw [World.cell?_alloc_lt _ _ ⟨0, 0, none⟩ (by simp <;> omega), World.cell?_alloc_lt _ _ ⟨0, 0, none⟩ hgl]; exact hg
  go_enter Tryd.func41, Tryd.ntmps41
  go_wp2_with (go_at_call 51; refine (unhide HAS _ ⟨tb, 0, none⟩ ⟨w.heap.size, 0, none⟩ old _ ?_ ?_ ?_).mono ?_; (simp); (rw [World.cell?_alloc_lt _ _ ⟨tb, 0, none⟩ (by simp; omega), World.cell?_alloc_lt _ _ ⟨tb, 0, none⟩ htl]; exact ht); (rw [World.frozen?_alloc_old _ _ ⟨tb, 0, none⟩ (by simp; omega), World.frozen?_alloc_old _ _ ⟨tb, 0, none⟩ (Nat.ne_of_lt htl)]; exact hf); rintro e w' ⟨rfl, hbel⟩)
  go_ret
  exact ⟨rfl, (((Below.refl _ _).alloc (by omega) _).alloc (by simp; omega) _).trans hbel⟩

/-- What the program needs of memory: the library's own handle of the type 'error'. -/
def Handle (w : World) : Prop := w.cell? ⟨0, 0, none⟩ = some (.iface 90 (.agg #[.pointer (some ⟨7, 49, none⟩)]))
theorem Handle.below {w w' : World} (h : Handle w) (hb : Below w.heap.size w w') : Handle w' := by
  have hl := World.lt_of_cell h
  unfold Handle; rw [hb.cell (p := ⟨0, 0, none⟩) hl]; exact h

theorem isNo_nil (w : World) : Calls Tryd.prog 32 #[.nilIface] w fun e w' => e = .returned (.bool false) ∧ Below w.heap.size w w' := by
  go_enter Tryd.func32, Tryd.ntmps32
  go_wp2_with (go_at_call 41; refine (as_nil _ _).mono ?_; rintro e w' ⟨rfl, rfl⟩)
  go_ret
  exact ⟨rfl, (Below.refl _ _).alloc (Nat.le_refl _) _⟩

theorem isNo_one (p : Int) (w : World) (h : Handle w) : Calls Tryd.prog 32 #[.iface 70 (.agg #[.iface 63 (.agg #[.int .i64 p])])] w fun e w' => e = .returned (.bool true) ∧ Below w.heap.size w w' := by
  have hl := World.lt_of_cell h
  have HG := hide (show Handle (w.alloc (.cells #[.int .i64 0] 63)) from h.below ((Below.refl _ _).alloc (Nat.le_refl _) _))
  clear h
  go_enter Tryd.func32, Tryd.ntmps32
  go_wp2_with (go_at_call 41; refine (errorsAs _ w.heap.size (.int .i64 0) _ ⟨_, rfl⟩ (fun tg t a old w h1 h2 h3 => as_one p tg t a old w h1 h2 h3) (unhide HG) ?_ ?_).mono ?_; (simp); (simp); rintro e w' ⟨rfl, hbel⟩)
  go_ret
  exact ⟨rfl, ((Below.refl _ _).alloc (Nat.le_refl _) _).trans hbel⟩

theorem isNo_two (p : Int) (w : World) (h : Handle w) : Calls Tryd.prog 32 #[.iface 70 (.agg #[.iface 70 (.agg #[.iface 63 (.agg #[.int .i64 p])])])] w fun e w' => e = .returned (.bool true) ∧ Below w.heap.size w w' := by
  have hl := World.lt_of_cell h
  have HG := hide (show Handle (w.alloc (.cells #[.int .i64 0] 63)) from h.below ((Below.refl _ _).alloc (Nat.le_refl _) _))
  clear h
  go_enter Tryd.func32, Tryd.ntmps32
  go_wp2_with (go_at_call 41; refine (errorsAs _ w.heap.size (.int .i64 0) _ ⟨_, rfl⟩ (fun tg t a old w h1 h2 h3 => as_two p tg t a old w h1 h2 h3) (unhide HG) ?_ ?_).mono ?_; (simp); (simp); rintro e w' ⟨rfl, hbel⟩)
  go_ret
  exact ⟨rfl, ((Below.refl _ _).alloc (Nat.le_refl _) _).trans hbel⟩
end Go.Proofs.YtccpcmhideijpaaDoor
