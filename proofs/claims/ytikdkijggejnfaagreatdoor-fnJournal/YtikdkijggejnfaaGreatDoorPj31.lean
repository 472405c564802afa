/- Parts. -/
import Derived.Test.YtikdkijggejnfaaGreatDoorPj13
import Derived.Test.YtikdkijggejnfaaGreatDoorPj16
import Derived.Test.YtikdkijggejnfaaGreatDoorPj23
import Derived.Test.YtikdkijggejnfaaGreatDoorPj24
import Derived.Test.YtikdkijggejnfaaGreatDoorPj25
import Derived.Test.YtikdkijggejnfaaGreatDoorPj28
import Derived.Test.YtikdkijggejnfaaGreatDoorPj30
import Derived.Test.YtikdkijggejnfaaGreatDoorPj22
import Derived.Test.YtikdkijggejnfaaGreatDoorPj21
import Derived.Laws.IdiomStrings
import Derived.Lib.AppendIntMem
namespace Go.Proofs.YtikdkijggejnfaaGreatDoor
open Go.RowKit
open Mth

/-- Operations each in a block of its own. -/
structure JSt (w : World) (fs : List (Nat × Op5)) (W : World) : Prop where
  bel : Below w.heap.size w W
  own : ∀ x ∈ fs, W.heap[x.1]? = some (.cells (opA x.2) 25 (0, 0))
theorem JSt.step {w W W' : World} {fs : List (Nat × Op5)} (h : JSt w fs W) (hb : Below W.heap.size W W') : JSt w fs W' := ⟨h.bel.trans (hb.mono h.bel.size), fun x hx => blk_step (h.own x hx) hb⟩
theorem JSt.put {w W : World} {fs : List (Nat × Op5)} (h : JSt w fs W) (o : Op5) : JSt w ((W.heap.size, o) :: fs) (W.alloc (.cells (opA o) 25)) := by
  refine ⟨h.bel.alloc h.bel.size _, fun x hx => ?_⟩
  rcases List.mem_cons.1 hx with rfl | hx
  · exact heap_alloc_new W _
  · rw [Below.heap_alloc _ _ _ (blk_lt (h.own x hx))]
    exact h.own x hx
theorem JSt.less {w W : World} {fs gs : List (Nat × Op5)} (h : JSt w fs W) (hs : ∀ x ∈ gs, x ∈ fs) : JSt w gs W := ⟨h.bel, fun x hx => h.own x (hs x hx)⟩
theorem cells11 {w : World} {g : Nat} {K no : Int} {k : ByteArray} {n mK mF mT mI mL : Int} {mk : ByteArray} {mN : Int} (h : w.heap[g]? = some (.cells (opA ⟨K, no, k, n, ⟨mK, mF, mT, mI, mL, mk, mN⟩⟩) 25 (0, 0))) :
    w.cell? ⟨g, 0, none⟩ = some (.int .i64 K) ∧ w.cell? ⟨g, 1, none⟩ = some (.int .i64 no) ∧ w.cell? ⟨g, 2, none⟩ = some (.string k) ∧ w.cell? ⟨g, 3, none⟩ = some (.int .i64 n) ∧ w.cell? ⟨g, 4, none⟩ = some (.int .i64 mK) ∧ w.cell? ⟨g, 5, none⟩ = some (.int .i64 mF) ∧ w.cell? ⟨g, 6, none⟩ = some (.int .i64 mT) ∧ w.cell? ⟨g, 7, none⟩ = some (.int .i64 mI) ∧ w.cell? ⟨g, 8, none⟩ = some (.int .i64 mL) ∧ w.cell? ⟨g, 9, none⟩ = some (.string mk) ∧ w.cell? ⟨g, 10, none⟩ = some (.int .i64 mN) := (eleven_at h).1
theorem jn_len (s : ByteArray) (hz : s.size ≤ 60000) : (rdAll s).1.length ≤ s.size := by
  obtain ⟨c1, c2, _⟩ := rdAll_cat s hz
  have h1 : ∀ L : List Op5, L.length ≤ (catE L).length := by
    intro L
    induction L with
    | nil => simp
    | cons o L ih =>
      have h : catE (o :: L) = (entryB o).data.toList ++ catE L := catE_cons [] o L
      have h4 : 4 ≤ (entryB o).size := by unfold entryB frameT; rw [ByteArray.size_append, wordB_size]; omega
      rw [h, List.length_append, size_toList, List.length_cons]
      omega
  have h2 := h1 (rdAll s).1
  rw [← c2, List.length_take, size_toList] at h2
  omega
theorem jn_wr (t : ByteArray) (o : Op5) (ht : t.size ≤ 8000) : wrB (t.extract 0 (rdAll t).2) o = opOk o := by
  have := frameT_le (opBytes o)
  unfold wrB entryB
  rw [ByteArray.size_extract]
  cases opOk o with
  | false => rfl
  | true => simp; omega
theorem cell_lt {w : World} {b o : Nat} {v : Value} (h : w.cell? ⟨b, o, none⟩ = some v) : b < w.heap.size := by
  rcases Nat.lt_or_ge b w.heap.size with h' | h'
  · exact h'
  · simp [World.cell?, Array.getElem?_eq_none h'] at h
/-- A byte of the code, or another number below 256: the same one in every world that has grown out of this one. -/
theorem atG (a : Option Addr) (len cap i : Nat) (w : World) (hcode : CodeOk w a len) (hi : i ≤ 1000) : ∃ x : Int, 0 ≤ x ∧ x ≤ 255 ∧ ∀ w' : World, Below w.heap.size w w' → Calls Tryz.prog 23 #[.slice a len cap, .int .i64 i] w' fun e w'' => e = .returned (.int .i64 x) ∧ Below w'.heap.size w' w'' := by
  have hl := hcode.1
  by_cases hlt : i < len
  · obtain ⟨b, off, z, rfl, hb, z0, z1, hz⟩ := hcode.2 i hlt
    refine ⟨z, z0, z1, fun w' hw => ?_⟩
    have hz' : w'.cell? ⟨b, off + i, none⟩ = some (.int .u8 z) := (hw.cell (p := ⟨b, off + i, none⟩) hb).trans hz
    clear hcode hz hw
    go_enter Tryz.func23, Tryz.ntmps23
    go_wp2
    go_ret
    exact ⟨rfl, Below.refl _ _⟩
  · refine ⟨((i : Int) * 7 + (len : Int)) % 256, by omega, by omega, fun w' hw => ?_⟩
    clear hcode hw
    go_enter Tryz.func23, Tryz.ntmps23
    go_wp2
    go_ret
    exact ⟨rfl, Below.refl _ _⟩
theorem addr_add (b off i : Nat) : (⟨b, off, none⟩ : Addr).add i = ⟨b, off + i, none⟩ := by
  unfold Addr.add; split <;> simp_all
theorem jconv_bytes (s : ByteArray) (w : World) : ∃ (cap : Nat) (w1 : World), (convert 9 30 (.string s)).run Tryz.prog w = .ok (.slice (some ⟨w.heap.size, 0, none⟩) s.size cap) w1 ∧ (∀ i (hi : i < s.size), w1.cell? ⟨w.heap.size, i, none⟩ = some (.int .u8 (s[i].toNat : Int))) ∧ (∀ i, i < s.size → w1.frozen? ⟨w.heap.size, i, none⟩ = false) ∧ Below w.heap.size w w1 := by
  refine ⟨_, _, run_bytes_of_string (P := Tryz.prog) w 9 30 5 s Tryz.underlying9 Tryz.underlying30 Tryz.underlying5, ?_, ?_, ?_⟩
  · intro i hi
    have h := World.cell?_alloc_mark w.drew (bytesRow s (grownCap w s.size 0 5)) 5 ((bytesRow s (grownCap w s.size 0 5)).size, (bytesRow s (grownCap w s.size 0 5)).size + 1) i
    refine Eq.trans h ?_
    rw [bytesRow_at s _ i hi]
    rfl
  · intro i hi
    have h := World.frozen?_alloc_mark w.drew (bytesRow s (grownCap w s.size 0 5)) 5 (bytesRow s (grownCap w s.size 0 5)).size ((bytesRow s (grownCap w s.size 0 5)).size + 1) i
    refine Eq.trans h ?_
    have hz : s.size ≤ (bytesRow s (grownCap w s.size 0 5)).size := by simp [bytesRow]
    simp
    omega
  · exact ((Below.refl _ w).drew).alloc (Nat.le_refl _) _

theorem jconv_changed (s : ByteArray) (w : World) (g i cap : Nat) (c : UInt8) (hi : i < s.size) (hc : ∀ j (hj : j < s.size), w.cell? ⟨g, j, none⟩ = some (.int .u8 (s[j].toNat : Int))) :
    (convert 30 9 (.slice (some ⟨g, 0, none⟩) s.size cap)).run Tryz.prog (w.setCell ⟨g, i, none⟩ (.int .u8 (c.toNat : Int))) = .ok (.string ⟨(s.data.toList.set i c).toArray⟩) (w.setCell ⟨g, i, none⟩ (.int .u8 (c.toNat : Int))) := by
  have h := run_convert_bytes_back (P := Tryz.prog) (w.setCell ⟨g, i, none⟩ (.int .u8 (c.toNat : Int))) 30 9 5 ⟨g, 0, none⟩ cap (s.data.toList.set i c) Tryz.underlying30 Tryz.underlying5 Tryz.underlying9 (fun j hj => by
    have hj' : j < s.size := by simpa using hj
    rw [addr_add, Nat.zero_add]
    by_cases e : j = i
    · subst e
      rw [World.cell?_setCell_same _ _ _ (hc j hj')]
      simp
    · rw [World.cell?_setCell_other _ _ _ _ (by simp <;> omega), hc j hj']
      rw [List.getElem_set_ne (by omega)]
      simp [ByteArray.getElem_eq_getElem_data])
  simpa using h
end Go.Proofs.YtikdkijggejnfaaGreatDoor
