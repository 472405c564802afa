/- Parts. -/
import Derived.Test.YtgkimogaghgjaaaPa12
import Derived.Test.YtgkimogaghgjaaaPa2
import Derived.Deep.RegionHeld
namespace Go.Proofs.Ytgkimogaghgjaaa
open Go.RowKit
open Mth

set_option maxRecDepth 100000 in
set_option maxHeartbeats 4000000 in
theorem eqKeeperS (a b : Option Addr) (ca cb : Nat) (l m : List KpI) (hlm : l.map (fun x => x.1) = m.map (fun x => x.1)) (w : World) (hl : l.length ≤ 1048600) (hks : ∀ p ∈ l, KpSz p.1 1048576) (ha : KpsAt w a l) (hb : KpsAt w b m) :
    Calls Try.prog 29 #[.slice a l.length ca, .slice b l.length cb] w fun e w' => e = .returned (.bool true) ∧ Below w.heap.size w w' := by
  have hml : m.length = l.length := by have := congrArg List.length hlm; simpa using this.symm
  have HML := hide hml
  have HLM := hide hlm
  have HA := hide ha
  have HB := hide hb
  clear ha hb hlm hml
  go_enter Try.func29, Try.ntmps29
  go_wp2_with fail
  go_loopw [5] (fun i wr => ∃ k : Nat, k ≤ l.length ∧ i = .int .i64 k ∧ Below w.heap.size w wr) (fun i _ => l.length - (intOf i).toNat)
  case atStart => exact ⟨0, Nat.zero_le _, rfl, Below.refl _ _⟩
  case round =>
    obtain ⟨k, hk, rfl, hbel⟩ := hrel
    have HBL := hide hbel
    clear hbel
    by_cases hlt : k < l.length
    · have hlt2 : k < m.length := by rw [unhide HML]; exact hlt
      obtain ⟨g1, o1, rfl, hg1, hr1⟩ := ((unhide HA).below (unhide HBL)).range k hlt
      obtain ⟨g2, o2, rfl, hg2, hr2⟩ := ((unhide HB).below (unhide HBL)).range k hlt2
      have hkk := hks l[k] (List.getElem_mem hlt)
      have hat := ((unhide HA).below (unhide HBL)).each l[k] (List.getElem_mem hlt)
      have hbt := ((unhide HB).below (unhide HBL)).each m[k] (List.getElem_mem hlt2)
      have hxy : l[k].1 = m[k].1 := by
        have h := congrArg (fun z => z[k]?) (unhide HLM)
        simpa [hlt, hlt2] using h
      generalize l[k] = pu at *
      generalize m[k] = pv at *
      have HEQ := hide (fun w1 (h : Ge wr w1) => eqKeeperV pu pv hxy w1 hkk (hat.below h) (hbt.below h))
      have HR1 := hide hr1
      have HR2 := hide hr2
      have HI1 : Hid ((Try.prog.info? 63).map (·.size) = some (encK pu).length) := infoKI
      have HI2 : Hid ((Try.prog.info? 63).map (·.size) = some (encK pv).length) := infoKI
      clear hkk hat hbt hxy hr1 hr2 hlt2
      generalize encK pu = V1 at HEQ HR1 HI1
      generalize encK pv = V2 at HEQ HR2 HI2
      go_upto_region 6 with fail
      refine wp_region_mix (by kernel_rfl) ?_
      show wpMix _ _ _ _ 10 (Array.replicate 10 false) _ _
      refine wpMix_take 0 rfl (by kernel_rfl) (by kernel_rfl) (by kernel_rfl) (fun _ _ _ _ h => h) (fun K hK => ?_)
      go_simp
      first
        | (refine hK _ ?_; clear hK K)
        | (apply Exists.intro
           refine ⟨fun _ => ?_, hK _ ?_⟩
           (fail)
           clear hK K)
      refine wpMix_take 1 rfl (by kernel_rfl) (by kernel_rfl) (by kernel_rfl) (fun _ _ _ _ h => h) (fun K hK => ?_)
      go_simp
      first
        | (refine hK _ ?_; clear hK K)
        | (apply Exists.intro
           refine ⟨fun _ => ?_, hK _ ?_⟩
           (fail)
           clear hK K)
      refine wpMix_take 2 rfl (by kernel_rfl) (by kernel_rfl) (by kernel_rfl) (fun _ _ _ _ h => h) (fun K hK => ?_)
      go_simp
      first
        | (refine hK _ ?_; clear hK K)
        | (apply Exists.intro
           refine ⟨fun _ => ?_, hK _ ?_⟩
           (fail)
           clear hK K)
      refine wpMix_mid 3 rfl (by kernel_rfl) (by kernel_rfl) (by kernel_rfl) (fun _ _ _ _ h => h) (by rfl) 63 _ rfl g1 (o1 + k * 22) (by first | rfl | simp [Act.eval, Act.put]) V1 _ (unhide HR1) hg1 Try.underlying63 rfl (unhide HI1) ?_
      go_simp
      refine wpMix_take 4 rfl (by kernel_rfl) (by kernel_rfl) (by kernel_rfl) (fun _ _ _ _ h => h) (fun K hK => ?_)
      go_simp
      first
        | (refine hK _ ?_; clear hK K)
        | (apply Exists.intro
           refine ⟨fun _ => ?_, hK _ ?_⟩
           (fail)
           clear hK K)
      refine wpMix_take 5 rfl (by kernel_rfl) (by kernel_rfl) (by kernel_rfl) (fun _ _ _ _ h => h) (fun K hK => ?_)
      go_simp
      first
        | (refine hK _ ?_; clear hK K)
        | (apply Exists.intro
           refine ⟨fun _ => ?_, hK _ ?_⟩
           (fail)
           clear hK K)
      refine wpMix_take 6 rfl (by kernel_rfl) (by kernel_rfl) (by kernel_rfl) (fun _ _ _ _ h => h) (fun K hK => ?_)
      go_simp
      first
        | (refine hK _ ?_; clear hK K)
        | (apply Exists.intro
           refine ⟨fun _ => ?_, hK _ ?_⟩
           (fail)
           clear hK K)
      refine wpMix_mid 7 rfl (by kernel_rfl) (by kernel_rfl) (by kernel_rfl) (fun _ _ _ _ h => h) (by rfl) 63 _ rfl g2 (o2 + k * 22) (by first | rfl | simp [Act.eval, Act.put]) V2 _ (unhide HR2) hg2 Try.underlying63 rfl (unhide HI2) ?_
      go_simp
      refine wpMix_one 8 rfl (by kernel_rfl) (by rfl) (fun x hx => ?_)
      go_simp
      refine (unhide HEQ x hx).mono ?_
      rintro e y ⟨rfl, hby⟩
      refine ⟨hby, ?_⟩
      have HBY := hide (Ge.trans hx hby)
      clear hx hby
      refine wpMix_take 9 rfl (by kernel_rfl) (by kernel_rfl) (by kernel_rfl) (fun _ _ _ _ h => h) (fun K hK => ?_)
      go_simp
      first
        | (refine hK _ ?_; clear hK K)
        | (apply Exists.intro
           refine ⟨fun _ => ?_, hK _ ?_⟩
           (fail)
           clear hK K)
      refine wpMix_done (by kernel_rfl) (fun z hz => ?_)
      have HBL5 := hide ((unhide HBL).trans ((Ge.trans (unhide HBY) hz).mono (unhide HBL).size))
      clear hz HBY HEQ HR1 HR2 HI1 HI2
      go_simp
      go_wp2_with fail
      go_roundw
      case rel => exact ⟨k + 1, by omega, by go_num, unhide HBL5⟩
      case measure => simp [intOf]; omega
    · have hke : k = l.length := by omega
      subst hke
      have hnlt : decide ((l.length : Int) < (l.length : Int)) = false := by simp
      go_wp2_with fail
      go_ret
      exact ⟨rfl, unhide HBL⟩

abbrev encStr (x : ByteArray) : List Value := [.string x]
theorem encStr_length (x : ByteArray) : (encStr x).length = 1 := rfl

abbrev StrsAt (w : World) (a : Option Addr) (l : List ByteArray) : Prop := GR.At encStr 1 w a l
theorem StrsAt.one {w : World} {a : Option Addr} {l : List ByteArray} (h : StrsAt w a l) (i : Nat) (hi : i < l.length) : ∃ g off, a = some ⟨g, off, none⟩ ∧ g < w.heap.size ∧ w.cell? ⟨g, off + i, none⟩ = some (.string l[i]) := by
  obtain ⟨g, off, e, hg, hc⟩ := h i hi
  refine ⟨g, off, e, hg, ?_⟩
  simpa using hc 0 (by omega)
abbrev strBlkS (w : World) (g : Nat) (l : List ByteArray) : Prop := GR.Blk encStr 9 w g l
theorem strBlkS.one {w : World} {g : Nat} {l : List ByteArray} (h : strBlkS w g l) (i : Nat) (hi : i < l.length) : w.cell? ⟨g, i, none⟩ = some (.string l[i]) := by
  simpa using GR.Blk.cell h encStr_length i hi 0 (by omega)
theorem strBlkS.step {w w' : World} {g : Nat} {l : List ByteArray} (h : strBlkS w g l) (hb : Below w.heap.size w w') : strBlkS w' g l := by
  have hl := GR.Blk.lt h
  unfold strBlkS GR.Blk at *
  rw [hb.block g hl]
  exact h
theorem infoStrS : (Try.prog.info? 9).map (fun i => (i.zero, i.size, i.bytes)) = some (some (.string ByteArray.empty), 1, 16) := by kernel_rfl
theorem makeStrS (n : Nat) (hn : n ≤ 2000000) : ∀ W : World, (Instr.makeSlice 26 (.int .i64 (n : Int)) (.int .i64 (n : Int))).run Try.prog W = .ok (.slice (some ⟨W.heap.size, 0, none⟩) n n) (W.alloc (.cells (GR.flat encStr (List.replicate n ByteArray.empty)).toArray 9)) := by
  obtain ⟨i0, hi, hz0, hz1, hz2⟩ := info_parts infoStrS
  intro W
  have h := run_make (P := Try.prog) W 26 9 i0 (.string ByteArray.empty) Try.underlying26 hi hz0 .i64 .i64 (n : Int) (n : Int) (by omega) (by omega) (by rw [hz2]; omega) (by omega)
  rw [hz1] at h
  have e := GR.made_flat encStr 1 encStr_length (by omega) ByteArray.empty (Value.cells (.string ByteArray.empty)) rfl n
  simp only [Int.toNat_natCast] at h
  rw [e] at h
  exact h
theorem take_setSt (l : List ByteArray) (z : ByteArray) (k : Nat) (hk : k < l.length) : (l.take k ++ List.replicate (l.length - k) z).set k l[k] = l.take (k + 1) ++ List.replicate (l.length - (k + 1)) z := by
  have hlen : (l.take k).length = k := by simp; omega
  rw [List.set_append_right _ _ (by omega), hlen, Nat.sub_self]
  have e : l.length - k = (l.length - (k + 1)) + 1 := by omega
  rw [e, List.replicate_succ, List.take_succ_eq_append_getElem hk, List.append_assoc]
  rfl

set_option maxRecDepth 100000 in
set_option maxHeartbeats 2000000 in
theorem toStringS (a : Option Addr) (cap : Nat) (l : List ByteArray) (w : World) (hl : l.length ≤ 1048576) (ha : StrsAt w a l) :
    Calls Try.prog 24 #[.slice a l.length cap] w fun e w' => e = .returned (.slice (some ⟨w.heap.size, 0, none⟩) l.length l.length) ∧ strBlkS w' w.heap.size l ∧ Below w.heap.size w w' := by
  have hmk := makeStrS l.length (by omega)
  have HA := hide ha
  clear ha
  go_enter Try.func24, Try.ntmps24
  go_wp2_with fail
  go_loopw [4] (fun i wr => ∃ k : Nat, k ≤ l.length ∧ i = .int .i64 k ∧ strBlkS wr w.heap.size (l.take k ++ List.replicate (l.length - k) ByteArray.empty) ∧ Below w.heap.size w wr) (fun i _ => l.length - (intOf i).toNat)
  case atStart => exact ⟨0, Nat.zero_le _, rfl, by unfold strBlkS GR.Blk; rw [List.take_zero, List.nil_append, Nat.sub_zero]; exact heap_alloc_new w _, below_one' w _⟩
  case round =>
    obtain ⟨k, hk, rfl, hB, hbel⟩ := hrel
    have HB := hide hB
    have HBL := hide hbel
    clear hB hbel hmk
    by_cases hlt : k < l.length
    · obtain ⟨g, off, rfl, hgw, q0⟩ := StrsAt.one (GR.At.below (unhide HA) (unhide HBL)) k hlt
      have TS := hide (take_setSt l ByteArray.empty k hlt)
      generalize l[k] = pu at *
      have hln : (l.take k ++ List.replicate (l.length - k) ByteArray.empty).length = l.length := by simp; omega
      have s0 := strBlkS.one (unhide HB) k (by omega)
      have f0 := GR.Blk.free (unhide HB) k
      go_wp2_with fail
      first | go_region | skip
      go_roundw
      case rel =>
        have h := GR.Blk.set (unhide HB) encStr_length k (by omega) pu
        rw [unhide TS] at h
        have h2 := GR.setW_below (o := k * 1) (Nat.le_refl w.heap.size) (encStr pu) (unhide HBL)
        rw [Nat.mul_one] at h h2
        exact ⟨k + 1, by omega, by go_num, h, h2⟩
      case measure => simp [intOf]; omega
    · have hke : k = l.length := by omega
      subst hke
      have hnlt : decide ((l.length : Int) < (l.length : Int)) = false := by simp
      go_wp2_with fail
      go_ret
      have h := unhide HB
      rw [List.take_length, Nat.sub_self, List.replicate_zero, List.append_nil] at h
      exact ⟨rfl, h, unhide HBL⟩

set_option maxRecDepth 100000 in
set_option maxHeartbeats 2000000 in
theorem eqStringSW (a b : Option Addr) (ca cb : Nat) (l : List ByteArray) (w : World) (hl : l.length ≤ 1048600) (ha : StrsAt w a l) (hb : StrsAt w b l) :
    Calls Try.prog 12 #[.slice a l.length ca, .slice b l.length cb] w fun e w' => e = .returned (.bool true) ∧ Below w.heap.size w w' := by
  have HA := hide ha
  have HB := hide hb
  clear ha hb
  go_enter Try.func12, Try.ntmps12
  go_wp2_with fail
  go_loopw [5] (fun i wr => ∃ k : Nat, k ≤ l.length ∧ i = .int .i64 k ∧ Below w.heap.size w wr) (fun i _ => l.length - (intOf i).toNat)
  case atStart => exact ⟨0, Nat.zero_le _, rfl, Below.refl _ _⟩
  case round =>
    obtain ⟨k, hk, rfl, hbel⟩ := hrel
    have HBL := hide hbel
    clear hbel
    by_cases hlt : k < l.length
    · obtain ⟨g1, o1, rfl, hg1, s0⟩ := StrsAt.one (GR.At.below (unhide HA) (unhide HBL)) k hlt
      obtain ⟨g2, o2, rfl, hg2, t0⟩ := StrsAt.one (GR.At.below (unhide HB) (unhide HBL)) k hlt
      generalize l[k] = pu at *
      go_wp2_with fail
      go_quiet (fail)
      go_wp2_with fail
      go_roundw
      case rel => exact ⟨k + 1, by omega, by go_num, (unhide HBL).trans ⟨rfl, rfl, rfl, Nat.le_refl _, fun _ _ => rfl⟩⟩
      case measure => simp [intOf]; omega
    · have hke : k = l.length := by omega
      subst hke
      have hnlt : decide ((l.length : Int) < (l.length : Int)) = false := by simp
      go_wp2_with fail
      go_ret
      exact ⟨rfl, unhide HBL⟩
set_option maxRecDepth 100000 in
set_option maxHeartbeats 2000000 in
theorem szStringS (a : Option Addr) (ca : Nat) (l : List ByteArray) (z0 : Int) (w : World) (h0 : 0 ≤ z0) (h1 : z0 ≤ 1048576) (hl : l.length ≤ maxLen) (hks : ∀ p ∈ l, p.size ≤ maxLen) (ha : StrsAt w a l) :
    Calls Try.prog 18 #[.slice a l.length ca, .int .i64 z0] w fun e w' => ∃ r : Int, e = .returned (.int .i64 r) ∧ (r = -1 ∨ 0 ≤ r ∧ r ≤ z0 ∧ l.length ≤ 1048576 ∧ ∀ p ∈ l, p.size ≤ 1048576) ∧ Below w.heap.size w w' := by
  have HA := hide ha
  clear ha
  unfold maxLen at hl
  by_cases hbig : (l.length : Int) ≤ z0
  · have hn : ¬ (z0 - (l.length : Int) < 0) := by omega
    go_enter Try.func18, Try.ntmps18
    go_wp2_with fail
    go_loopw [1, 5] (fun lf i wr => ∃ (k : Nat) (z : Int), k ≤ l.length ∧ i = .int .i64 k ∧ lf = .int .i64 z ∧ 0 ≤ z ∧ z ≤ z0 ∧ (∀ p ∈ l.take k, p.size ≤ 1048576) ∧ Below w.heap.size w wr) (fun _ i _ => l.length - (intOf i).toNat)
    case atStart => exact ⟨0, z0 - l.length, Nat.zero_le _, rfl, by go_num, by omega, by omega, fun p hp => by simp at hp, Below.refl _ _⟩
    case round =>
      obtain ⟨k, z, hk, rfl, rfl, hz0, hz1, hall, hbel⟩ := hrel
      have HALL := hide hall
      have HBL := hide hbel
      clear hall hbel
      by_cases hlt : k < l.length
      · obtain ⟨g, off, rfl, hgw, q0⟩ := StrsAt.one (GR.At.below (unhide HA) (unhide HBL)) k hlt
        have hkk := hks l[k] (List.getElem_mem hlt)
        have HT := hide (List.take_succ_eq_append_getElem hlt)
        generalize l[k] = pu at *
        unfold maxLen at hkk
        by_cases hc : (pu.size : Int) ≤ z
        · have hn2 : ¬ (z - (pu.size : Int) < 0) := by omega
          go_wp2_with fail
          go_roundw
          case rel =>
            refine ⟨k + 1, z - pu.size, by omega, by go_num, by go_num, by omega, by omega, ?_, unhide HBL⟩
            intro p hp
            rw [unhide HT] at hp
            rcases List.mem_append.1 hp with h | h
            · exact unhide HALL p h
            · rw [List.mem_singleton] at h
              subst h
              omega
          case measure => simp [intOf]; omega
        · have hn2 : z - (pu.size : Int) < 0 := by omega
          go_wp2_with fail
          go_ret
          exact ⟨-1, rfl, .inl rfl, unhide HBL⟩
      · have hke : k = l.length := by omega
        subst hke
        have hnlt : decide ((l.length : Int) < (l.length : Int)) = false := by simp
        go_wp2_with fail
        go_ret
        have h := unhide HALL
        rw [List.take_length] at h
        exact ⟨z, rfl, .inr ⟨hz0, hz1, by omega, h⟩, unhide HBL⟩
  · have hn : z0 - (l.length : Int) < 0 := by omega
    go_enter Try.func18, Try.ntmps18
    go_wp2_with fail
    go_ret
    exact ⟨-1, rfl, .inl rfl, Below.refl _ _⟩
theorem szGivenSW (a : Option Addr) (ca n : Nat) (z0 : Int) (w : World) (h0 : 0 ≤ z0) (h1 : z0 ≤ 1048576) (hl : n ≤ maxLen) :
    Calls Try.prog 20 #[.slice a n ca, .int .i64 z0] w fun e w' => e = .returned (.int .i64 (if (n : Int) ≤ z0 then z0 - n else -1)) ∧ w = w' := by
  unfold maxLen at hl
  by_cases hc : (n : Int) ≤ z0
  · rw [if_pos hc]
    have hn : ¬ (z0 - (n : Int) < 0) := by omega
    go_enter Try.func20, Try.ntmps20
    go_wp2_with fail
    go_ret
    exact ⟨rfl, rfl⟩
  · rw [if_neg hc]
    have hn : z0 - (n : Int) < 0 := by omega
    go_enter Try.func20, Try.ntmps20
    go_wp2_with fail
    go_ret
    exact ⟨rfl, rfl⟩

/-- A tree as a value. -/
abbrev trv (a : Option Addr) (l : List Int) (cap : Nat) : Value := .agg #[.slice a l.length cap]
theorem szTree (a : Option Addr) (ca : Nat) (l : List Int) (z0 : Int) (w : World) (h0 : 0 ≤ z0) (h1 : z0 ≤ 1048576) (hl : l.length ≤ maxLen) :
    Calls Try.prog 16 #[trv a l ca, .int .i64 z0] w fun e w' => e = .returned (.int .i64 (if (l.length : Int) ≤ z0 then z0 - l.length else -1)) ∧ Below w.heap.size w w' := by
  have HC := hide (fun W => szIntS a ca l z0 W h0 h1 hl)
  by_cases hc : (l.length : Int) ≤ z0
  · rw [if_pos hc] at *
    have hn : decide (z0 - (l.length : Int) < 0) = false := decide_eq_false (by omega)
    go_enter Try.func16, Try.ntmps16
    go_wp2_with (go_at_call 40; refine (unhide HC _).mono ?_; rintro e w1 ⟨rfl, rfl⟩)
    go_ret
    exact ⟨rfl, below_one' w _⟩
  · rw [if_neg hc] at *
    go_enter Try.func16, Try.ntmps16
    go_wp2_with (go_at_call 40; refine (unhide HC _).mono ?_; rintro e w1 ⟨rfl, rfl⟩)
    go_ret
    exact ⟨rfl, below_one' w _⟩
theorem tr_lt {w : World} {g : Nat} {o : Obj} (h : w.heap[g]? = some o) : g < w.heap.size := by
  rcases Nat.lt_or_ge g w.heap.size with h' | h'
  · exact h'
  · rw [Array.getElem?_eq_none h'] at h; cases h
theorem tr_step {w w' : World} {g : Nat} {o : Obj} (h : w.heap[g]? = some o) (hb : Below w.heap.size w w') : w'.heap[g]? = some o := by
  rw [hb.block g (tr_lt h)]; exact h
theorem one_at {w : World} {g : Nat} {v : Value} {t : TypeId} (h : w.heap[g]? = some (.cells #[v] t (0, 0))) : w.cell? ⟨g, 0, none⟩ = some v ∧ w.frozen? ⟨g, 0, none⟩ = false := by
  refine ⟨?_, ?_⟩
  · rw [cell_of_row w g _ _ t (0, 0) h]; rfl
  · unfold World.frozen?; rw [h]; simp
theorem one_set {w : World} {g : Nat} {v : Value} {t : TypeId} (u : Value) (h : w.heap[g]? = some (.cells #[v] t (0, 0))) : (w.setCell ⟨g, 0, none⟩ u).heap[g]? = some (.cells #[u] t (0, 0)) := by
  unfold World.setCell
  simp only [Array.getElem?_modify]
  rw [if_pos trivial, h]
  simp
theorem one_other {w : World} {g g' : Nat} {o : Obj} (u : Value) (hne : g' ≠ g) (h : w.heap[g']? = some o) : (w.setCell ⟨g, 0, none⟩ u).heap[g']? = some o := (Below.heap_setCell _ _ _ _ hne).trans h
theorem bodyPost_atT {P : Program} {fn : Func} {Q : Ending → World → Prop} {x : Exit} {act : Act} {W : World} (h : ∀ W', W' = W → bodyPost P fn Q x act W') : bodyPost P fn Q x act W := h W rfl
set_option maxRecDepth 100000 in
/-- A tree of the call's own. -/
theorem toTree (a : Option Addr) (cap : Nat) (l : List Int) (w : World) (hl : l.length ≤ 1048576) (ha : IntsAt w a l) :
    Calls Try.prog 22 #[trv a l cap] w fun e w' => ∃ g, e = .returned (trv (some ⟨g, 0, none⟩) l l.length) ∧ w.heap.size ≤ g ∧ intBlk w' g l ∧ Below w.heap.size w w' := by
  have HC := hide (fun W (hb : Below w.heap.size w W) => toIntS a cap l W hl (GR.At.below ha hb))
  clear ha
  go_enter Try.func22, Try.ntmps22
  go_wp2_with fail
  generalize hW : ((w.alloc (.cells #[.slice a l.length cap] 24)).alloc (.cells #[.slice none 0 0] 33)).alloc (.cells #[.slice none 0 0] 33) = W at *
  have hb0 : Below w.heap.size w W := by rw [← hW]; exact (((below_one' w _).alloc (by simp) _).alloc (by simp; omega) _)
  have hO1 : W.heap[w.heap.size + 1]? = some (.cells #[.slice none 0 0] 33 (0, 0)) := by
    rw [← hW]
    refine (Below.heap_alloc _ _ _ (by simp)).trans ?_
    have := heap_alloc_new (w.alloc (.cells #[.slice a l.length cap] 24)) (.cells #[.slice none 0 0] 33)
    rwa [World.size_alloc] at this
  have hO2 : W.heap[w.heap.size + 1 + 1]? = some (.cells #[.slice none 0 0] 33 (0, 0)) := by
    rw [← hW]
    have := heap_alloc_new ((w.alloc (.cells #[.slice a l.length cap] 24)).alloc (.cells #[.slice none 0 0] 33)) (.cells #[.slice none 0 0] 33)
    rwa [World.size_alloc, World.size_alloc] at this
  refine (unhide HC _ hb0).mono ?_
  rintro e w1 ⟨rfl, hblk, hb1⟩
  have hP1 := tr_step hO1 hb1
  have hP2 := tr_step hO2 hb1
  have HB := hide (hb0.trans (hb1.mono hb0.size))
  have hz1 := tr_lt hO2
  clear hb0 hb1 hO1 hO2 hW
  have HK := hide hblk
  have HP1 := hide hP1
  have HP2 := hide hP2
  obtain ⟨c1, f1⟩ := one_at hP1
  obtain ⟨c2, f2⟩ := one_at hP2
  clear hP1 hP2 hblk
  go_wp2_with fail
  refine bodyPost_atT (fun W' hW' => ?_)
  have h2 := one_set (.slice (some ⟨W.heap.size, 0, none⟩) l.length l.length) (unhide HP2)
  have h1 := one_set (.slice (some ⟨W.heap.size, 0, none⟩) l.length l.length) (one_other (.slice (some ⟨W.heap.size, 0, none⟩) l.length l.length) (show w.heap.size + 1 ≠ w.heap.size + 1 + 1 by omega) (unhide HP1))
  rw [← hW'] at h1
  have r0 := (one_at h1).1
  refine bodyPost_ret (v := .agg #[.slice (some ⟨W.heap.size, 0, none⟩) l.length l.length]) (by simp [results, Try.results22, go_sem, r0]) rfl ⟨_, rfl, by omega, ?_, ?_⟩
  · rw [hW']
    unfold intBlk GR.Blk
    exact one_other _ (by omega) (one_other _ (by omega) (unhide HK))
  · rw [hW']
    exact ((unhide HB).setCell (p := ⟨w.heap.size + 1 + 1, 0, none⟩) (by simp; omega) _).setCell (p := ⟨w.heap.size + 1, 0, none⟩) (by simp) _
set_option maxRecDepth 100000 in
theorem eqTree (a b : Option Addr) (ca cb : Nat) (l : List Int) (w : World) (hl : l.length ≤ 1048600) (ha : IntsAt w a l) (hb : IntsAt w b l) :
    Calls Try.prog 28 #[trv a l ca, trv b l cb] w fun e w' => e = .returned (.bool true) ∧ Below w.heap.size w w' := by
  have HC := hide (fun W (hw : Below w.heap.size w W) => eqIntS a b ca cb l W hl (GR.At.below ha hw) (GR.At.below hb hw))
  clear ha hb
  go_enter Try.func28, Try.ntmps28
  have HB := hide (show Below w.heap.size w ((w.alloc (.cells #[.slice a l.length ca] 33)).alloc (.cells #[.slice b l.length cb] 33)) from (below_one' w _).alloc (by simp) _)
  go_wp2_with (go_at_call 48; refine (unhide HC _ (unhide HB)).mono ?_; rintro e w1 ⟨rfl, hb2⟩)
  go_ret
  exact ⟨rfl, (unhide HB).trans (hb2.mono (unhide HB).size)⟩

end Go.Proofs.Ytgkimogaghgjaaa
