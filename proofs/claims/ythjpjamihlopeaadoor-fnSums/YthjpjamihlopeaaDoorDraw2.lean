/-
  The draws' further functions: a new cursor, a coin, a choice from a list, some bytes.
-/
import Derived.Test.YthjpjamihlopeaaDoorDraw
namespace Go.Proofs.YthjpjamihlopeaaDoor
open Go.RowKit

set_option maxRecDepth 100000 in
set_option maxHeartbeats 1000000 in
theorem l01Once (c : Nat) (n : Int) (w : World) (hc : Cur w c) (hn : 0 < n) (hm : n ≤ 4000000000) :
    Calls Tryd.prog 37 #[.pointer (some ⟨c, 0, none⟩), .int .i64 n] w fun e w' => ∃ b : Bool, e = .returned (.bool b) ∧ Cur w' c ∧ Keeps c w w' := by
  have HC := hide hc
  clear hc
  go_enter Tryd.func37, Tryd.ntmps37
  go_wp2_with (go_at_call 39; refine (l01Below c n _ (unhide HC) hn hm).mono ?_; rintro e w1 ⟨x, rfl, hx0, hx1, hc1, hk1⟩; have HC1 := hide hc1; clear hc1)
  all_goals
    go_ret
    exact ⟨_, rfl, unhide HC1, hk1⟩

set_option maxRecDepth 100000 in
set_option maxHeartbeats 1000000 in
theorem l01PickInt (c g cap : Nat) (zs : List Int) (w : World) (hc : Cur w c) (hne : g ≠ c) (hp : 0 < zs.length) (hm : zs.length ≤ 1000) (hcell : ∀ i (hi : i < zs.length), w.cell? ⟨g, i, none⟩ = some (.int .i64 zs[i])) (hgl : g < w.heap.size) :
    Calls Tryd.prog 40 #[.pointer (some ⟨c, 0, none⟩), .slice (some ⟨g, 0, none⟩) zs.length cap] w fun e w' => ∃ z : Int, e = .returned (.int .i64 z) ∧ z ∈ zs ∧ Cur w' c ∧ Keeps c w w' := by
  have HC := hide hc
  have HL := hide hcell
  clear hc hcell
  go_enter Tryd.func40, Tryd.ntmps40
  go_wp2_with fail
  refine (l01Below c _ _ (unhide HC) (by omega) (by omega)).mono ?_
  rintro e w1 ⟨x, rfl, hx0, hx1, hc1, hk1⟩
  obtain ⟨k, rfl⟩ := Int.eq_ofNat_of_zero_le hx0
  have hk : k < zs.length := by omega
  have hcell1 : w1.cell? ⟨g, k, none⟩ = some (.int .i64 zs[k]) := (World.cell?_of_block (w := w) (hk1.block g hgl hne)).trans (unhide HL k hk)
  have HC1 := hide hc1
  clear hc1
  go_wp2
  go_ret
  exact ⟨_, rfl, List.getElem_mem hk, unhide HC1, hk1⟩

set_option maxRecDepth 100000 in
set_option maxHeartbeats 1000000 in
theorem l01Pick (c g cap : Nat) (xs : List ByteArray) (w : World) (hc : Cur w c) (hne : g ≠ c) (hp : 0 < xs.length) (hm : xs.length ≤ 1000) (hcell : ∀ i (hi : i < xs.length), w.cell? ⟨g, i, none⟩ = some (.string xs[i])) (hgl : g < w.heap.size) :
    Calls Tryd.prog 45 #[.pointer (some ⟨c, 0, none⟩), .slice (some ⟨g, 0, none⟩) xs.length cap] w fun e w' => ∃ x : ByteArray, e = .returned (.string x) ∧ x ∈ xs ∧ Cur w' c ∧ Keeps c w w' := by
  have HC := hide hc
  have HL := hide hcell
  clear hc hcell
  go_enter Tryd.func45, Tryd.ntmps45
  go_wp2_with fail
  refine (l01Below c _ _ (unhide HC) (by omega) (by omega)).mono ?_
  rintro e w1 ⟨x, rfl, hx0, hx1, hc1, hk1⟩
  obtain ⟨k, rfl⟩ := Int.eq_ofNat_of_zero_le hx0
  have hk : k < xs.length := by omega
  have hcell1 : w1.cell? ⟨g, k, none⟩ = some (.string xs[k]) := (World.cell?_of_block (w := w) (hk1.block g hgl hne)).trans (unhide HL k hk)
  have HC1 := hide hc1
  clear hc1
  go_wp2
  go_ret
  exact ⟨_, rfl, List.getElem_mem hk, unhide HC1, hk1⟩

theorem infoU8d : (Tryd.prog.info? 5).map (fun i => (i.zero, i.size, i.bytes)) = some (some (.int .u8 0), 1, 1) := by kernel_rfl
theorem Keeps.grown {c : Nat} {w w' : World} (h : Keeps c w w') : w.grownBy w' (some c) := ⟨h.os, h.tape, h.output, h.size, fun k hk hne => h.block k hk (fun e => hne (by rw [e]))⟩
theorem own_keeps {w w' : World} {base c : Nat} {e : TypeId} {v : Value} {n : Nat} {xs : List Value} (h : w.ownsRow base e 1 v n xs) (hk : Keeps c w w') (hc : c < base) : w'.ownsRow base e 1 v n xs := by
  apply h.kept hk.grown
  cases hv : v.ownBlock with
  | none => exact .inl rfl
  | some k =>
    right
    intro e'
    have := (h.lt k hv).1
    cases e'
    omega
/-- Behind calls that turn the cursor, and append to a row of the call's own, all but the cursor's block is as it was. -/
theorem keeps_append {w wr w1 : World} {c : Nat} {e : TypeId} {v : Value} {n : Nat} {xs : List Value} {o : Obj} (hk : Keeps c w wr) (hown : wr.ownsRow w.heap.size e 1 v n xs) (hg : (wr.alloc o).grownBy w1 v.ownBlock) : Keeps c w w1 := by
  refine ⟨hg.os.trans hk.os, hg.tape.trans hk.tape, hg.output.trans hk.output, by have h1 := hg.size; have h2 := hk.size; simp at h1; omega, fun k hkl hne => ?_⟩
  have hs := hk.size
  rw [hg.block k (by simp; omega) (fun e' => by have := (hown.lt k e'.symm).1; omega), Below.heap_alloc _ _ _ (by omega)]
  exact hk.block k hkl hne
theorem cur_append {w wr w1 : World} {c : Nat} {e : TypeId} {v : Value} {n : Nat} {xs : List Value} {o : Obj} (hc : Cur wr c) (hcl : c < w.heap.size) (hs : w.heap.size ≤ wr.heap.size) (hown : wr.ownsRow w.heap.size e 1 v n xs) (hg : (wr.alloc o).grownBy w1 v.ownBlock) : Cur w1 c := by
  refine hc.below (B := w.heap.size) ?_ hcl
  exact ((Below.refl _ _).alloc hs o).grown hg (by simp; omega) (fun k hk => (hown.lt k hk).1)

set_option maxRecDepth 100000 in
set_option maxHeartbeats 2000000 in
theorem l01Bytes (c : Nat) (n : Nat) (w : World) (hc : Cur w c) (hm : n ≤ 2000) :
    Calls Tryd.prog 38 #[.pointer (some ⟨c, 0, none⟩), .int .i64 n] w fun e w' => ∃ t : ByteArray, e = .returned (.string t) ∧ t.size = n ∧ Cur w' c ∧ Keeps c w w' := by
  obtain ⟨i0, hi, hz0, hz1, hz2⟩ := info_parts infoU8d
  have hcl := hc.lt
  have HC := hide hc
  clear hc
  go_enter Tryd.func38, Tryd.ntmps38
  go_wp2
  go_loopw [5, 6] (fun v i wr => ∃ (k : Nat) (l : List UInt8), k ≤ n ∧ l.length = k ∧ i = .int .i64 k ∧ wr.ownsRow w.heap.size 5 1 v l.length (l.map bv) ∧ Cur wr c ∧ Keeps c w wr) (fun _ i _ => n - (intOf i).toNat)
  case atStart => exact ⟨0, [], Nat.zero_le _, rfl, rfl, World.ownsRow_lit _ #[] 0 (Nat.le_refl _) (by decide) rfl, (unhide HC).keep_below ((Below.refl _ _).alloc (Nat.le_refl _) _), Keeps.of_below ((Below.refl _ _).alloc (Nat.le_refl _) _)⟩
  case round =>
    obtain ⟨k, l, hk, hl, rfl, hown, hcr, hkr⟩ := hrel
    have HL := hide hl
    have HCR := hide hcr
    have HKR := hide hkr
    have HO := hide hown
    have hll : l.length ≤ 2000 := by omega
    clear hl hcr hkr hown
    by_cases hlt : k < n
    · go_wp2_with fail
      refine (l01Below c 256 _ (unhide HCR) (by omega) (by omega)).mono ?_
      rintro e w1 ⟨x, rfl, hx0, hx1, hc1, hk1⟩
      obtain ⟨b, hb⟩ : ∃ b : UInt8, x = b.toNat := ⟨UInt8.ofNat x.toNat, by rw [Mth.toNat_byte _ (by omega)]; omega⟩
      have hown1 := own_keeps (unhide HO) hk1 hcl
      have HC1 := hide hc1
      have HK1 := hide ((unhide HKR).trans hk1)
      have hsz1 : w.heap.size ≤ w1.heap.size := (unhide HK1).size
      have HB := hide hb
      clear hc1 hk1 hb
      go_wp2_with (at_builtin; refine wpList_append_own _ rfl _ _ 22 rfl w.heap.size 5 i0 (.int .u8 0) 1 1 Tryd.underlying22 hi hz0 hz1 hz2 rfl (by decide) _ _ _ rfl (hown1.alloc _) ⟨w1.heap.size, 0, none⟩ 1 1 [.int .u8 x] rfl rfl ?c1 ?c2 ?c3 ?c4 ?c5 ?_)
      case c1 => exact cell_one_new _ _ _
      case c2 => intro u hu; simp at hu; subst hu; rfl
      case c3 => unfold maxLen; omega
      case c4 => omega
      case c5 => simp; omega
      intro v' w2 hown' hgrow _
      have HK2 := hide (keeps_append (unhide HK1) hown1 hgrow)
      have HC2 := hide (cur_append (unhide HC1) hcl hsz1 hown1 hgrow)
      have HO2 := hide (own_snoc b (unhide HB) hown')
      clear hown' hgrow hown1
      go_wp2
      go_roundw
      case rel => exact ⟨k + 1, l ++ [b], by omega, by have := unhide HL; simp; omega, by go_num, unhide HO2, unhide HC2, unhide HK2⟩
      case measure => simp [intOf]; omega
    · have hconv := conv_owned 22 9 Tryd.underlying22 Tryd.underlying5 Tryd.underlying9 (unhide HO)
      go_wp2
      go_ret
      exact ⟨_, rfl, by rw [size_of_list, unhide HL]; omega, unhide HCR, unhide HKR⟩

set_option maxRecDepth 100000 in
set_option maxHeartbeats 1000000 in
theorem l01New (a : Option Addr) (len cap : Nat) (w : World) (hlen : len ≤ 1048576) (hcode : ∀ j < len, ∃ (b off : Nat) (z : Int), a = some ⟨b, off, none⟩ ∧ b < w.heap.size ∧ 0 ≤ z ∧ z ≤ 255 ∧ w.cell? ⟨b, off + j, none⟩ = some (.int .u8 z)) :
    Calls Tryd.prog 36 #[.slice a len cap] w fun e w' => e = .returned (.pointer (some ⟨w.heap.size, 0, none⟩)) ∧ Cur w' w.heap.size ∧ Below w.heap.size w w' := by
  have HCODE := hide hcode
  clear hcode
  go_enter Tryd.func36, Tryd.ntmps36
  go_wp2
  go_loop [3, 4] (fun h i => ∃ (k : Nat) (x : Int), k ≤ len ∧ i = .int .i64 k ∧ h = .int .i64 x) (fun _ i => len - (intOf i).toNat)
  case atStart => exact ⟨0, _, Nat.zero_le _, rfl, rfl⟩
  case round =>
    obtain ⟨k, x, hk, rfl, rfl⟩ := hrel
    by_cases hlt : k < len
    · obtain ⟨b, off, z, rfl, hb, z0, z1, hz⟩ := unhide HCODE k hlt
      by_cases h4 : k < 4000
      · go_wp2
        go_round
        case rel => exact ⟨k + 1, _, by omega, by go_num, rfl⟩
        case measure => simp [intOf]; omega
      · go_wp2
        go_ret
        refine ⟨rfl, ?_, (Below.refl _ _).alloc (Nat.le_refl _) _⟩
        exact ⟨_, len, cap, 0, x, heap_alloc_new w _, Nat.zero_le _, hlen, fun j hj => by
          obtain ⟨b', off', z', e, hb', z0', z1', hz'⟩ := unhide HCODE j hj
          exact ⟨b', off', z', e, hb', z0', z1', by rw [World.cell?_alloc_lt _ _ ⟨b', off' + j, none⟩ hb']; exact hz'⟩⟩
    · have hd : decide ((k : Int) < (len : Int)) = false := by simp; omega
      go_wp2
      go_ret
      refine ⟨rfl, ?_, (Below.refl _ _).alloc (Nat.le_refl _) _⟩
      exact ⟨_, len, cap, 0, x, heap_alloc_new w _, Nat.zero_le _, hlen, fun j hj => by
        obtain ⟨b', off', z', e, hb', z0', z1', hz'⟩ := unhide HCODE j hj
        exact ⟨b', off', z', e, hb', z0', z1', by rw [World.cell?_alloc_lt _ _ ⟨b', off' + j, none⟩ hb']; exact hz'⟩⟩
end Go.Proofs.YthjpjamihlopeaaDoor
