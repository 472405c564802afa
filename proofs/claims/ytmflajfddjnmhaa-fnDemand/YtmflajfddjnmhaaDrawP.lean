/-
  The draws' further functions: a new cursor, a coin, a choice from a list of numbers.
-/
import Derived.Test.YtmflajfddjnmhaaDraw
namespace Go.Proofs.Ytmflajfddjnmhaa
open Go.RowKit

set_option maxRecDepth 100000 in
set_option maxHeartbeats 1000000 in
theorem l01Once (c : Nat) (n : Int) (w : World) (hc : Cur w c) (hn : 0 < n) (hm : n ≤ 4000000000) :
    Calls Try.prog 41 #[.pointer (some ⟨c, 0, none⟩), .int .i64 n] w fun e w' => ∃ b : Bool, e = .returned (.bool b) ∧ Cur w' c ∧ Keeps c w w' := by
  have HC := hide hc
  clear hc
  go_enter Try.func41, Try.ntmps41
  go_wp2_with (go_at_call 40; refine (l01Below c n _ (unhide HC) hn hm).mono ?_; rintro e w1 ⟨x, rfl, hx0, hx1, hc1, hk1⟩; have HC1 := hide hc1; clear hc1)
  all_goals
    go_ret
    exact ⟨_, rfl, unhide HC1, hk1⟩

set_option maxRecDepth 100000 in
set_option maxHeartbeats 1000000 in
theorem l01PickInt (c g cap : Nat) (zs : List Int) (w : World) (hc : Cur w c) (hne : g ≠ c) (hp : 0 < zs.length) (hm : zs.length ≤ 1000) (hcell : ∀ i (hi : i < zs.length), w.cell? ⟨g, i, none⟩ = some (.int .i64 zs[i])) (hgl : g < w.heap.size) :
    Calls Try.prog 32 #[.pointer (some ⟨c, 0, none⟩), .slice (some ⟨g, 0, none⟩) zs.length cap] w fun e w' => ∃ z : Int, e = .returned (.int .i64 z) ∧ z ∈ zs ∧ Cur w' c ∧ Keeps c w w' := by
  have HC := hide hc
  have HL := hide hcell
  clear hc hcell
  go_enter Try.func32, Try.ntmps32
  go_wp2_with fail
  refine (l01Below c _ _ (unhide HC) (by omega) (by omega)).mono ?_
  rintro e w1 ⟨x, rfl, hx0, hx1, hc1, hk1⟩
  obtain ⟨k, rfl⟩ := Int.eq_ofNat_of_zero_le hx0
  have hk : k < zs.length := by omega
  have hcell1 : w1.cell? ⟨g, k, none⟩ = some (.int .i64 zs[k]) := (World.cell?_of_block (w := w) (hk1.block g hgl hne)).trans (unhide HL k hk)
  have HC1 := hide hc1
  clear hc1
  go_wp2
  go_ret
  exact ⟨_, rfl, List.getElem_mem hk, unhide HC1, hk1⟩

set_option maxRecDepth 100000 in
set_option maxHeartbeats 1000000 in
theorem l01New (a : Option Addr) (len cap : Nat) (w : World) (hlen : len ≤ 1048576) (hcode : ∀ j < len, ∃ (b off : Nat) (z : Int), a = some ⟨b, off, none⟩ ∧ b < w.heap.size ∧ 0 ≤ z ∧ z ≤ 255 ∧ w.cell? ⟨b, off + j, none⟩ = some (.int .u8 z)) :
    Calls Try.prog 30 #[.slice a len cap] w fun e w' => e = .returned (.pointer (some ⟨w.heap.size, 0, none⟩)) ∧ Cur w' w.heap.size ∧ Below w.heap.size w w' := by
  have HCODE := hide hcode
  clear hcode
  go_enter Try.func30, Try.ntmps30
  go_wp2
  go_loop [3, 4] (fun h i => ∃ (k : Nat) (x : Int), k ≤ len ∧ i = .int .i64 k ∧ h = .int .i64 x) (fun _ i => len - (intOf i).toNat)
  case atStart => exact ⟨0, _, Nat.zero_le _, rfl, rfl⟩
  case round =>
    obtain ⟨k, x, hk, rfl, rfl⟩ := hrel
    by_cases hlt : k < len
    · obtain ⟨b, off, z, rfl, hb, z0, z1, hz⟩ := unhide HCODE k hlt
      by_cases h4 : k < 4000
      · go_wp2
        go_round
        case rel => exact ⟨k + 1, _, by omega, by go_num, rfl⟩
        case measure => simp [intOf]; omega
      · go_wp2
        go_ret
        refine ⟨rfl, ?_, (Below.refl _ _).alloc (Nat.le_refl _) _⟩
        exact ⟨_, len, cap, 0, x, heap_alloc_new w _, Nat.zero_le _, hlen, fun j hj => by
          obtain ⟨b', off', z', e, hb', z0', z1', hz'⟩ := unhide HCODE j hj
          exact ⟨b', off', z', e, hb', z0', z1', by rw [World.cell?_alloc_lt _ _ ⟨b', off' + j, none⟩ hb']; exact hz'⟩⟩
    · have hd : decide ((k : Int) < (len : Int)) = false := by simp; omega
      go_wp2
      go_ret
      refine ⟨rfl, ?_, (Below.refl _ _).alloc (Nat.le_refl _) _⟩
      exact ⟨_, len, cap, 0, x, heap_alloc_new w _, Nat.zero_le _, hlen, fun j hj => by
        obtain ⟨b', off', z', e, hb', z0', z1', hz'⟩ := unhide HCODE j hj
        exact ⟨b', off', z', e, hb', z0', z1', by rw [World.cell?_alloc_lt _ _ ⟨b', off' + j, none⟩ hb']; exact hz'⟩⟩
end Go.Proofs.Ytmflajfddjnmhaa
