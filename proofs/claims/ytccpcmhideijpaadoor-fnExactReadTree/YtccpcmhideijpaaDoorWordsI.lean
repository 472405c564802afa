/-
  What the program's Words comes to (strings.Split, each piece cloned), and the law's walk.
-/
import Derived.Test.YtccpcmhideijpaaDoorWordsS
import Derived.Test.YtccpcmhideijpaaDoorClone
import Derived.Test.YtccpcmhideijpaaDoorShelf
namespace Go.Proofs.YtccpcmhideijpaaDoor
open Go.RowKit

/-- What the program needs of memory: the library's own variable holds some number. -/
def MaxLenIs (w : World) : Prop := ∃ m : Int, w.cell? ⟨1, 0, none⟩ = some (.int .i64 m)
theorem MaxLenIs.below {w w' : World} (h : MaxLenIs w) (hb : Below w.heap.size w w') : MaxLenIs w' := by
  obtain ⟨m, hm⟩ := h
  have hl : 1 < w.heap.size := by
    rcases Nat.lt_or_ge 1 w.heap.size with h' | h'
    · exact h'
    · simp [World.cell?, Array.getElem?_eq_none h'] at hm
  exact ⟨m, by rw [hb.cell (p := ⟨1, 0, none⟩) hl]; exact hm⟩

theorem words_split (s : ByteArray) : Lib.splitB ⟨#[32]⟩ 0 (Lib.countB s ⟨#[32]⟩) s = words s := by
  have h := Lib.splitB_data ⟨#[32]⟩ 0 (Lib.countB s ⟨#[32]⟩) s
  unfold words Lib.split
  have e : (ByteArray.mk #[32]).data.toList = [32] := rfl
  rw [e] at h
  rw [show Lib.count s.data.toList [32] = Lib.countB s ⟨#[32]⟩ from rfl, ← h]
  rw [List.map_map]
  conv => lhs; rw [← List.map_id (Lib.splitB ⟨#[32]⟩ 0 (Lib.countB s ⟨#[32]⟩) s)]
  apply List.map_congr_left
  intro x _
  simp
theorem words_length (s : ByteArray) : (words s).length = Lib.countB s ⟨#[32]⟩ + 1 := by
  rw [← words_split, Lib.splitB_all ⟨#[32]⟩ (by decide) 0 _ s rfl]
theorem splitK_le (k : Nat) : ∀ (l : List UInt8), ∀ p ∈ Lib.splitK [32] 0 k l, p.length ≤ l.length := by
  induction k with
  | zero => intro l p hp; simp [Lib.splitK] at hp; subst hp; exact Nat.le_refl _
  | succ k ih =>
    intro l p hp
    unfold Lib.splitK at hp
    split at hp
    · simp at hp; subst hp; exact Nat.le_refl _
    · rcases List.mem_cons.1 hp with rfl | hp
      · rw [List.length_take]; omega
      · have := ih _ p hp
        rw [List.length_drop] at this; omega
theorem words_size (s : ByteArray) : ∀ t ∈ words s, t.size ≤ s.size := by
  intro t ht
  obtain ⟨l, hl, rfl⟩ := List.mem_map.1 ht
  have := splitK_le _ _ l hl
  rw [size_toList] at this
  rw [size_of_list]; exact this
theorem set_same (w : World) (g i : Nat) (xs : List ByteArray) (h : strBlock w g xs) (hi : i < xs.length) : strBlock (w.setCell ⟨g, i, none⟩ (.string xs[i])) g xs := by
  have := h.set i xs[i]
  rwa [List.set_getElem_self] at this

set_option maxRecDepth 100000 in
set_option maxHeartbeats 1000000 in
theorem implWords (s : ByteArray) (w : World) (hs : s.size ≤ 1048576) (hM : MaxLenIs w) :
    Calls Tryd.prog 17 #[.string s] w fun e w' => e = .returned (.slice (some ⟨w.heap.size, 0, none⟩) (words s).length (words s).length) ∧ strBlock w' w.heap.size (words s) ∧ Below w.heap.size w w' := by
  obtain ⟨m, hm⟩ := hM
  have hsp := Tryd.strings_Split s ⟨#[32]⟩ m w (by omega) hm (by decide)
  rw [words_split, ← words_length] at hsp
  have HSP := hide hsp
  have hmax : (words s).length ≤ 1048577 := by
    rw [words_length]
    have := Lib.countB_le ⟨#[32]⟩ (by decide) s.size s (Nat.le_refl _)
    omega
  clear hsp hm
  have HZ := hide (words_size s)
  generalize words s = xs at *
  go_enter Tryd.func17, Tryd.ntmps17
  go_wp2_with (go_at_call 29; refine (unhide HSP).mono ?_; rintro e w1 ⟨rfl, rfl⟩)
  go_loopw [10] (fun i wr => ∃ k : Nat, k ≤ xs.length ∧ i = .int .i64 k ∧ strBlock wr w.heap.size xs ∧ Below w.heap.size w wr) (fun i _ => xs.length - (intOf i).toNat)
  case atStart => exact ⟨0, Nat.zero_le _, rfl, heap_alloc_new w _, (Below.refl _ _).alloc (Nat.le_refl _) _⟩
  case round =>
    obtain ⟨k, hk, rfl, hblk, hbel⟩ := hrel
    have HB := hide hblk
    have HBEL := hide hbel
    clear hblk hbel
    by_cases hlt : k < xs.length
    · have c1 := (unhide HB).cell k hlt
      have hz : xs[k].size ≤ 281474976710656 := by have := unhide HZ xs[k] (List.getElem_mem hlt); omega
      go_wp2_with (go_at_call 30; refine (clone _ _ hz).mono ?_; rintro e w1 ⟨rfl, hb1⟩; have HB1 := hide ((unhide HB).below hb1 (unhide HB).lt); have c2 := (unhide HB1).cell k hlt; have f2 := (unhide HB1).free k)
      go_roundw
      case rel => exact ⟨k + 1, by omega, by go_num, set_same _ _ k xs (unhide HB1) hlt, ((unhide HBEL).trans (hb1.mono (unhide HBEL).size)).setCell (Nat.le_refl _) _⟩
      case measure => simp [intOf]; omega
    · go_wp2
      go_ret
      exact ⟨rfl, unhide HB, unhide HBEL⟩

theorem words_pos (s : ByteArray) : 0 < (words s).length := by rw [words_length]; omega
theorem words_max (s : ByteArray) (hs : s.size ≤ 1048576) : (words s).length ≤ 1048577 := by
  rw [words_length]
  have := Lib.countB_le ⟨#[32]⟩ (by decide) s.size s (Nat.le_refl _)
  omega
/-- What a row of the call's own is, where it holds something. -/
theorem own_cells {w : World} {base : Nat} {v : Value} {xs : List ByteArray} (h : w.ownsRow base 9 1 v xs.length (xs.map Value.string)) (hp : 0 < xs.length) :
    ∃ g cap, v = .slice (some ⟨g, 0, none⟩) xs.length cap ∧ base ≤ g ∧ g < w.heap.size ∧ ∀ i (hi : i < xs.length), w.cell? ⟨g, i, none⟩ = some (.string xs[i]) := by
  rcases h.2 with ⟨_, hn⟩ | ⟨g, cap, cur, rfl, hb, hh, _⟩
  · omega
  · refine ⟨g, cap, rfl, hb, (h.lt g rfl).2, fun i hi => ?_⟩
    have := h.cells rfl i (.string xs[i]) (by simp [hi])
    by_cases h0 : i = 0
    · subst h0; simpa [Addr.add] using this
    · simpa [Addr.add, h0] using this
end Go.Proofs.YtccpcmhideijpaaDoor
