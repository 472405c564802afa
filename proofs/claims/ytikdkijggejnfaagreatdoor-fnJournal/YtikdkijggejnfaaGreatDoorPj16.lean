/- Parts. -/
import Derived.Test.YtikdkijggejnfaaGreatDoorPj15
import Derived.Test.YtikdkijggejnfaaGreatDoorPj12
import Derived.Test.YtikdkijggejnfaaGreatDoorPj14
import Derived.Test.YtikdkijggejnfaaGreatDoorPj1
import Derived.Laws.DeepStrings4
import Derived.Laws.AppendOwnNone
import Derived.Maps.AppendAt
import Derived.Laws.OwnMore
namespace Go.Proofs.YtikdkijggejnfaaGreatDoor
open Go.RowKit
open Mth

theorem l01Bytes1 (c : Nat) (w : World) (hc : Cur w c) : Calls Tryz.prog 69 #[.pointer (some ⟨c, 0, none⟩), .int .i64 1] w.drew fun e w' => ∃ t : ByteArray, e = .returned (.string t) ∧ t.size = 1 ∧ Cur w' c ∧ Keeps c w w' :=
  (l01Bytes c 1 w.drew (show Cur w.drew c from hc) (by omega)).mono fun _ _ ⟨t, h1, h2, h3, h4⟩ => ⟨t, h1, h2, h3, ⟨h4.os, h4.tape, h4.output, h4.size, h4.block⟩⟩
set_option maxRecDepth 100000 in
set_option maxHeartbeats 2000000 in
theorem l01Spoil (c : Nat) (s : ByteArray) (w : World) (hs : s.size ≤ 20000) (hc : Cur w c) : Calls Tryz.prog 43 #[.pointer (some ⟨c, 0, none⟩), .string s] w fun e w' => ∃ t : ByteArray, e = .returned (.string t) ∧ t.size ≤ s.size + 1 ∧ Cur w' c ∧ Keeps c w w' := by
  have HC := hide hc
  clear hc
  go_enter Tryz.func43, Tryz.ntmps43
  go_wp2_with fail
  refine (l01Below c _ _ (unhide HC) (by omega) (by omega)).mono ?_
  rintro e w1 ⟨i, rfl, hi0, hi1, hc1, hk1⟩
  obtain ⟨k, rfl⟩ := Int.eq_ofNat_of_zero_le hi0
  have hk : k ≤ s.size := by omega
  have HC1 := hide hc1
  have HK1 := hide hk1
  clear hc1 hk1 HC hi0 hi1
  go_wp2_with fail
  refine (l01Below c 8 _ (unhide HC1) (by omega) (by omega)).mono ?_
  rintro e w2 ⟨z, rfl, hz0, hz1, hc2, hk2⟩
  have HC2 := hide hc2
  have HK2 := hide ((unhide HK1).trans hk2)
  clear hc2 hk2 HC1 HK1
  have hki : (k : Int) ≤ (s.size : Int) := by omega
  have hzc : z = 0 ∨ z = 1 ∨ 2 ≤ z := by omega
  rcases hzc with rfl | rfl | h2z
  · clear hz0 hz1
    go_wp2_with fail
    go_ret
    exact ⟨_, rfl, by rw [ByteArray.size_extract]; omega, unhide HC2, unhide HK2⟩
  · clear hz0 hz1
    have hl1 : (s.extract 0 k).size = k := by rw [ByteArray.size_extract]; omega
    have hl2 : (s.extract k s.size).size = s.size - k := by rw [ByteArray.size_extract]; omega
    go_upto_region 6 with fail
    go_region_with (go_at_call 69; refine (l01Bytes1 c w2 (unhide HC2)).mono ?_; rintro e w5 ⟨t, rfl, ht, hc5, hk5⟩; have a1 := fun w1 => run_string_add_sum (P := Tryz.prog) w1 (s.extract 0 k) t (by omega); have a2 := fun w1 => run_string_add_sum (P := Tryz.prog) w1 (s.extract 0 k ++ t) (s.extract k s.size) (by rw [ByteArray.size_append]; omega))
    go_simp
    go_wp2_with fail
    go_ret
    exact ⟨_, rfl, by simp only [ByteArray.size_append]; omega, hc5, (unhide HK2).trans hk5⟩
  · have q0 : (z == 0) = false := by simp; omega
    have q1 : (z == 1) = false := by simp; omega
    clear hz0 hz1
    go_wp2_with fail
    go_ret
    exact ⟨_, rfl, by omega, unhide HC2, unhide HK2⟩
theorem alloc_size (w : World) (o : Obj) : (w.alloc o).heap.size = w.heap.size + 1 := by simp
theorem l01NewC (a : Option Addr) (len cap : Nat) (w : World) (o : Obj) (h : CodeOk w a len) : Calls Tryz.prog 31 #[.slice a len cap] (w.alloc o) fun e w' => e = .returned (.pointer (some ⟨w.heap.size + 1, 0, none⟩)) ∧ Cur w' (w.heap.size + 1) ∧ w'.heap[w.heap.size]? = some o ∧ Below w.heap.size w w' := by
  have h1 := h.below (below_one w o)
  refine (l01New a len cap _ h1.1 h1.2).mono ?_
  rintro e w' ⟨rfl, hc, hb⟩
  rw [alloc_size] at hc hb ⊢
  have hb' : Below (w.alloc o).heap.size (w.alloc o) w' := by rw [alloc_size]; exact hb
  exact ⟨rfl, hc, blk_step (heap_alloc_new w o) hb', (below_one w o).trans (hb.mono (by omega))⟩
theorem wrT_le (s : ByteArray) (o : Op5) : (wrT s o).size ≤ s.size + 1010 := by
  unfold wrT
  split
  · have := frameT_le (opBytes o)
    rw [ByteArray.size_append]
    unfold entryB
    omega
  · omega
theorem putOp_le (o : Op5) : (putOp o).size ≤ 2025 := by
  unfold putOp
  split
  · exact opBytes_le o
  · decide
set_option maxRecDepth 100000 in
set_option maxHeartbeats 4000000 in
theorem l06Log (c : Nat) (w : World) (hc : Cur w c) : Calls Tryz.prog 32 #[.pointer (some ⟨c, 0, none⟩)] w fun e w' => ∃ t : ByteArray, e = .returned (.string t) ∧ t.size ≤ 8000 ∧ Cur w' c ∧ Keeps c w w' := by
  have HC := hide hc
  clear hc
  go_enter Tryz.func32, Tryz.ntmps32
  go_wp2_with fail
  refine (l01Below c 8 _ (unhide HC) (by omega) (by omega)).mono ?_
  rintro e w1 ⟨x, rfl, hx0, hx1, hc1, hk1⟩
  obtain ⟨nn, rfl⟩ := Int.eq_ofNat_of_zero_le hx0
  have hnn : nn < 8 := by omega
  have HC1 := hide hc1
  have HK1 := hide hk1
  clear hc1 hk1 HC hx0 hx1
  go_wp2_with fail
  go_loopw [3, 5] (fun v i wr => ∃ (k : Nat) (s : ByteArray), k ≤ nn ∧ i = .int .i64 k ∧ v = .string s ∧ s.size ≤ k * 1010 ∧ Cur wr c ∧ Keeps c w wr) (fun _ i _ => nn - (intOf i).toNat)
  case atStart => exact ⟨0, ⟨#[]⟩, Nat.zero_le _, rfl, rfl, Nat.zero_le _, unhide HC1, unhide HK1⟩
  case round =>
    obtain ⟨k, s, hk, rfl, rfl, hsz, hcu, hke⟩ := hrel
    have HCU := hide hcu
    have HKE := hide hke
    clear hcu hke HC1 HK1
    by_cases hlt : k < nn
    · go_wp2_with fail
      refine (l05Op c _ (unhide HCU)).mono ?_
      rintro e w2 ⟨o, rfl, hks, hms, hc2, hk2⟩
      have HC2 := hide hc2
      have HK2 := hide ((unhide HKE).trans hk2)
      have HW := hide (specWrite s o w2 (by omega) (Nat.le_trans hks (by unfold maxLen; omega)) (Nat.le_trans hms (by unfold maxLen; omega)))
      have hle := wrT_le s o
      unfold wrV at HW
      generalize wrT s o = t at *
      generalize wrB s o = tb at *
      clear hc2 hk2 hks hms HCU HKE
      obtain ⟨oK, ono, ok, on, ⟨mK, mF, mT, mI, mL, mk, mN⟩⟩ := o
      go_wp2_with fail
      refine (unhide HW).mono ?_
      rintro e w3 ⟨rfl, hb3⟩
      have HC3 := hide ((unhide HC2).keep_below hb3)
      have HK3 := hide ((unhide HK2).trans (Keeps.of_below hb3))
      clear hb3 HC2 HK2 HW
      go_wp2_with fail
      go_roundw
      case rel => exact ⟨k + 1, t, by omega, by go_num, rfl, by omega, unhide HC3, unhide HK3⟩
      case measure => simp [intOf]; omega
    · go_wp2_with fail
      refine (l01Spoil c s _ (by omega) (unhide HCU)).mono ?_
      rintro e w2 ⟨t, rfl, ht, hc2, hk2⟩
      have HC2 := hide hc2
      have HK2 := hide ((unhide HKE).trans hk2)
      clear hc2 hk2 HCU HKE
      go_wp2_with fail
      go_ret
      exact ⟨t, rfl, by omega, unhide HC2, unhide HK2⟩
set_option maxRecDepth 100000 in
set_option maxHeartbeats 4000000 in
theorem drawWrite (a : Option Addr) (len cap : Nat) (w : World) (hcode : CodeOk w a len) : Calls Tryz.prog 9 #[.slice a len cap] w fun e w' => ∃ (t : ByteArray) (o : Op5), e = .returned (.tuple #[.string t, opw o]) ∧ t.size ≤ 8000 ∧ o.k.size ≤ 20 ∧ o.m.k.size ≤ 20 ∧ Below w.heap.size w w' := by
  have HN := hide (l01NewC a len cap w (.cells #[.int .i64 0, .int .i64 0, .string ⟨#[]⟩, .int .i64 0, .int .i64 0, .int .i64 0, .int .i64 0, .int .i64 0, .int .i64 0, .string ⟨#[]⟩, .int .i64 0] 25) hcode)
  clear hcode
  go_enter Tryz.func9, Tryz.ntmps9
  go_wp2_with fail
  refine (unhide HN).mono ?_
  rintro e w1 ⟨rfl, hc1, hr1, hb1⟩
  go_wp2_with fail
  refine (l06Log (w.heap.size + 1) _ hc1).mono ?_
  rintro e w2 ⟨t, rfl, ht, hc2, hk2⟩
  have hR2 : w2.heap[w.heap.size]? = some (.cells #[.int .i64 0, .int .i64 0, .string ⟨#[]⟩, .int .i64 0, .int .i64 0, .int .i64 0, .int .i64 0, .int .i64 0, .int .i64 0, .string ⟨#[]⟩, .int .i64 0] 25 (0, 0)) := by rw [hk2.block _ (blk_lt hr1) (by omega)]; exact hr1
  have hB2 : Below w.heap.size w w2 := hb1.trans (hk2.below (by omega) hb1.size)
  clear hc1 hr1 hb1 hk2 HN
  go_wp2_with fail
  refine (l05Op (w.heap.size + 1) _ hc2).mono ?_
  rintro e w3 ⟨⟨K, no, k, n, ⟨mK, mF, mT, mI, mL, mk, mN⟩⟩, rfl, hks, hms, hc3, hk3⟩
  have hR3 : w3.heap[w.heap.size]? = some (.cells #[.int .i64 0, .int .i64 0, .string ⟨#[]⟩, .int .i64 0, .int .i64 0, .int .i64 0, .int .i64 0, .int .i64 0, .int .i64 0, .string ⟨#[]⟩, .int .i64 0] 25 (0, 0)) := by rw [hk3.block _ (blk_lt hR2) (by omega)]; exact hR2
  have hB3 : Below w.heap.size w w3 := hB2.trans (hk3.below (by omega) hB2.size)
  have hz3 := blk_lt hR3
  obtain ⟨⟨d0, d1, d2, d3, d4, d5, d6, d7, d8, d9, d10⟩, f0, f1, f2, f3, f4, f5, f6, f7, f8, f9, f10⟩ := eleven_at hR3
  have HR := hide hR3
  have HB := hide hB3
  clear hR2 hB2 hR3 hB3 hc2 hc3 hk3
  go_wp2_with fail
  refine bodyPost_atE (fun W' hW' => ?_)
  obtain ⟨⟨r0, r1, r2, r3, r4, r5, r6, r7, r8, r9, r10⟩, _⟩ := eleven_at (show W'.heap[w.heap.size]? = some (.cells #[.int .i64 K, .int .i64 no, .string k, .int .i64 n, .int .i64 mK, .int .i64 mF, .int .i64 mT, .int .i64 mI, .int .i64 mL, .string mk, .int .i64 mN] 25 (0, 0)) by rw [hW']; exact eleven_set (unhide HR))
  have hbb : Below w.heap.size w W' := by rw [hW']; exact eleven_set_below (unhide HB) (Nat.le_refl _)
  exact bodyPost_ret (v := .tuple #[.string t, .agg #[.int .i64 K, .int .i64 no, .string k, .int .i64 n, .int .i64 mK, .int .i64 mF, .int .i64 mT, .int .i64 mI, .int .i64 mL, .string mk, .int .i64 mN]]) (by simp [results, Tryz.results9, go_sem, r0, r1, r2, r3, r4, r5, r6, r7, r8, r9, r10]) rfl ⟨t, ⟨K, no, k, n, ⟨mK, mF, mT, mI, mL, mk, mN⟩⟩, rfl, ht, hks, hms, hbb⟩
set_option maxRecDepth 100000 in
set_option maxHeartbeats 2000000 in
theorem drawGetOp (a : Option Addr) (len cap : Nat) (w : World) (hcode : CodeOk w a len) : Calls Tryz.prog 13 #[.slice a len cap] w fun e w' => ∃ t : ByteArray, e = .returned (.string t) ∧ t.size ≤ 2026 ∧ Below w.heap.size w w' := by
  have HN := hide (l01New a len cap w hcode.1 hcode.2)
  clear hcode
  go_enter Tryz.func13, Tryz.ntmps13
  go_wp2_with fail
  refine (unhide HN).mono ?_
  rintro e w1 ⟨rfl, hc1, hb1⟩
  have HB1 := hide hb1
  clear hb1
  go_wp2_with fail
  refine (l05Op w.heap.size _ hc1).mono ?_
  rintro e w2 ⟨o, rfl, hks, hms, hc2, hk2⟩
  have HB2 := hide (below_then_keeps (unhide HB1) hk2)
  have HP := hide (specPutOp o w2 (Nat.le_trans hks (by unfold maxLen; omega)) (Nat.le_trans hms (by unfold maxLen; omega)))
  have hsz := putOp_le o
  clear hc1 hk2 HB1 hks hms
  generalize putOp o = p at *
  obtain ⟨K, no, k, n, ⟨mK, mF, mT, mI, mL, mk, mN⟩⟩ := o
  go_wp2_with fail
  refine (unhide HP).mono ?_
  rintro e w3 ⟨rfl, hb3⟩
  have HC3 := hide (hc2.keep_below hb3)
  have HB3 := hide ((unhide HB2).trans (hb3.mono (unhide HB2).size))
  clear hb3 hc2 HB2 HP
  go_wp2_with fail
  refine (l01Spoil w.heap.size _ _ (by omega) (unhide HC3)).mono ?_
  rintro e w4 ⟨t, rfl, ht, hc4, hk4⟩
  have HB4 := hide (below_then_keeps (unhide HB3) hk4)
  clear hc4 hk4 HB3 HC3
  go_wp2_with fail
  go_ret
  exact ⟨t, rfl, by omega, unhide HB4⟩

theorem bigNo (a : Option Addr) (len cap : Nat) (w : World) (h : len ≤ 1048576) : Calls Tryz.prog 8 #[.slice a len cap] w fun e w' => e = .returned (.bool false) ∧ w = w' := by
  go_enter Tryz.func8, Tryz.ntmps8
  go_wp2
  go_ret
  exact ⟨by simp; omega, rfl⟩
theorem bigYes (a : Option Addr) (len cap : Nat) (w : World) (h : 1048576 < len) : Calls Tryz.prog 8 #[.slice a len cap] w fun e w' => e = .returned (.bool true) ∧ w = w' := by
  go_enter Tryz.func8, Tryz.ntmps8
  go_wp2
  go_ret
  exact ⟨by simp; omega, rfl⟩
/-- A byte of the code, or another number below 256: the same one in every world with this memory. -/
theorem atX (a : Option Addr) (len cap i : Nat) (w : World) (hcode : CodeOk w a len) (hi : i ≤ 1000) : ∃ x : Int, 0 ≤ x ∧ x ≤ 255 ∧ ∀ w' : World, w'.heap = w.heap → Calls Tryz.prog 23 #[.slice a len cap, .int .i64 i] w' fun e w'' => e = .returned (.int .i64 x) ∧ w'' = w' := by
  have hl := hcode.1
  by_cases hlt : i < len
  · obtain ⟨b, off, z, rfl, hb, z0, z1, hz⟩ := hcode.2 i hlt
    refine ⟨z, z0, z1, fun w' hw => ?_⟩
    have hz' : w'.cell? ⟨b, off + i, none⟩ = some (.int .u8 z) := by rw [← hz]; unfold World.cell?; rw [hw]
    clear hcode hz
    go_enter Tryz.func23, Tryz.ntmps23
    go_wp2
    go_ret
    exact ⟨rfl, rfl⟩
  · refine ⟨((i : Int) * 7 + (len : Int)) % 256, by omega, by omega, fun w' hw => ?_⟩
    clear hcode
    go_enter Tryz.func23, Tryz.ntmps23
    go_wp2
    go_ret
    exact ⟨rfl, rfl⟩
namespace GR
open Go.RowKit
variable {α : Type} {enc : α → List Value} {sz : Nat}

theorem At.news {w : World} {x : Addr} {l : List α} (hs : ∀ y, (enc y).length = sz) (hz : 0 < sz) (h : At enc sz w (some x) l) : ∀ j u, (flat enc l)[j]? = some u → w.cell? (x.add j) = some u := by
  intro j u hu
  have hj : j < l.length * sz := by
    have := (List.getElem?_eq_some_iff.1 hu).1
    rwa [flat_length enc sz hs] at this
  have hq : j / sz < l.length := Nat.div_lt_of_lt_mul (by rw [Nat.mul_comm]; exact hj)
  have hr : j % sz < sz := Nat.mod_lt _ hz
  obtain ⟨g, off, e, hg, hc⟩ := h (j / sz) hq
  have hf := flat_at enc sz hs l (j / sz) hq (j % sz) hr
  have ej : j / sz * sz + j % sz = j := Nat.div_add_mod' j sz
  rw [ej] at hf
  have h2 := hc (j % sz) hr
  rw [ej, ← hf, hu] at h2
  injection e with e
  subst e
  have ea : (⟨g, off, none⟩ : Addr).add j = ⟨g, off + j, none⟩ := by unfold Addr.add; split <;> simp_all
  rw [ea]
  exact h2
theorem own_below {w w' : World} {B : Nat} {e : TypeId} {sz : Nat} {v : Value} {n : Nat} {xs : List Value} (h : w.ownsRow B e sz v n xs) (hb : Below w.heap.size w w') : w'.ownsRow B e sz v n xs :=
  h.kept (row := none) ⟨hb.os, hb.tape, hb.output, hb.size, fun k hk _ => hb.block k hk⟩ (by cases v.ownBlock with | none => exact .inl rfl | some k => exact .inr (by simp))
theorem own_lower {w : World} {b b' : Nat} {e : TypeId} {sz : Nat} {v : Value} {n : Nat} {xs : List Value} (h : w.ownsRow b e sz v n xs) (hb : b' ≤ b) : w.ownsRow b' e sz v n xs := by
  refine ⟨h.1, ?_⟩
  rcases h.2 with h2 | ⟨g, cap, cur, hv, hg, hr⟩
  · exact .inl h2
  · exact .inr ⟨g, cap, cur, hv, Nat.le_trans hb hg, hr⟩
theorem below_append {w wr w1 : World} {B : Nat} {e : TypeId} {sz : Nat} {v : Value} {n : Nat} {xs : List Value} {o : Obj} (hb : Below B w wr) (hB : B ≤ wr.heap.size) (hown : wr.ownsRow B e sz v n xs) (hg : (wr.alloc o).grownBy w1 v.ownBlock) : Below B w w1 :=
  (hb.alloc hB o).grown hg (by simp; omega) (fun k hk => (hown.lt k hk).1)
end GR

theorem obj_lt {w : World} {g : Nat} {o : Obj} (h : w.heap[g]? = some o) : g < w.heap.size := by
  rcases Nat.lt_or_ge g w.heap.size with h' | h'
  · exact h'
  · rw [Array.getElem?_eq_none h'] at h; cases h
/-- All blocks but some read as before; new ones may lie behind. -/
structure KeepsL (F : List Nat) (w w' : World) : Prop where
  os : w'.os = w.os
  tape : w'.tape = w.tape
  output : w'.output = w.output
  size : w.heap.size ≤ w'.heap.size
  block : ∀ k, k < w.heap.size → k ∉ F → w'.heap[k]? = w.heap[k]?
theorem KeepsL.refl (F : List Nat) (w : World) : KeepsL F w w := ⟨rfl, rfl, rfl, Nat.le_refl _, fun _ _ _ => rfl⟩
theorem KeepsL.trans {F : List Nat} {a b c : World} (h : KeepsL F a b) (k : KeepsL F b c) : KeepsL F a c :=
  ⟨k.os.trans h.os, k.tape.trans h.tape, k.output.trans h.output, Nat.le_trans h.size k.size, fun i hi hg => (k.block i (Nat.lt_of_lt_of_le hi h.size) hg).trans (h.block i hi hg)⟩
theorem KeepsL.mono {F F' : List Nat} {a b : World} (h : KeepsL F a b) (hs : ∀ x ∈ F, x ∈ F') : KeepsL F' a b :=
  ⟨h.os, h.tape, h.output, h.size, fun i hi hg => h.block i hi (fun hx => hg (hs i hx))⟩
theorem KeepsL.of_below {F : List Nat} {w w' : World} (h : Below w.heap.size w w') : KeepsL F w w' := ⟨h.os, h.tape, h.output, h.size, fun k hk _ => h.block k hk⟩
theorem KeepsL.set {g i : Nat} {w : World} (v : Value) : KeepsL [g] w (w.setCell ⟨g, i, none⟩ v) :=
  ⟨rfl, rfl, rfl, by simp [World.setCell], fun k _ hg => Below.heap_setCell _ _ _ _ (by simpa using hg)⟩
theorem KeepsL.below {F : List Nat} {B : Nat} {w w' : World} (h : KeepsL F w w') (hB : ∀ x ∈ F, B ≤ x) (hs : B ≤ w.heap.size) : Below B w w' :=
  ⟨h.os, h.tape, h.output, h.size, fun k hk => h.block k (by omega) (fun hx => by have := hB k hx; omega)⟩
theorem KeepsL.obj {F : List Nat} {w w' : World} {g : Nat} {o : Obj} (hk : KeepsL F w w') (h : w.heap[g]? = some o) (hg : g ∉ F) : w'.heap[g]? = some o := by
  rw [hk.block g (obj_lt h) hg]; exact h

/-- The block of a row that has something. -/
def fp {α : Type} (g : Nat) (l : List α) : List Nat := if l.isEmpty then [] else [g]
theorem fp_mem {α : Type} {g : Nat} {l : List α} (h : 0 < l.length) : g ∈ fp g l := by
  unfold fp
  cases l with
  | nil => simp at h
  | cons x l => simp
namespace GR
variable {α : Type}
/-- A row in a block of its own, which may be written. -/
def W (enc : α → List Value) (sz : Nat) (w : World) (a : Option Addr) (g : Nat) (l : List α) : Prop := ∀ i (hi : i < l.length), a = some ⟨g, 0, none⟩ ∧ g < w.heap.size ∧ ∀ j, j < sz → w.cell? ⟨g, i * sz + j, none⟩ = (enc l[i])[j]? ∧ w.frozen? ⟨g, i * sz + j, none⟩ = false
variable {enc : α → List Value} {sz : Nat}
theorem W.at {w : World} {a : Option Addr} {g : Nat} {l : List α} (h : W enc sz w a g l) : At enc sz w a l := fun i hi =>
  ⟨g, 0, (h i hi).1, (h i hi).2.1, fun j hj => by rw [Nat.zero_add]; exact ((h i hi).2.2 j hj).1⟩
theorem W.nil {w : World} {a : Option Addr} {g : Nat} : W enc sz w a g [] := fun i hi => by simp at hi
theorem W.keeps {F : List Nat} {w w' : World} {a : Option Addr} {g : Nat} {l : List α} (h : W enc sz w a g l) (hk : KeepsL F w w') (hd : ∀ x ∈ fp g l, x ∉ F) : W enc sz w' a g l := fun i hi => by
  obtain ⟨e, hg, hc⟩ := h i hi
  have hne : g ∉ F := hd g (fp_mem (by omega))
  exact ⟨e, Nat.lt_of_lt_of_le hg hk.size, fun j hj => ⟨(World.cell?_of_block (w := w) (hk.block g hg hne)).trans (hc j hj).1, (World.frozen?_of_block (w := w) (hk.block g hg hne)).trans (hc j hj).2⟩⟩
theorem W.below {w w' : World} {a : Option Addr} {g : Nat} {l : List α} (h : W enc sz w a g l) (hb : Below w.heap.size w w') : W enc sz w' a g l := h.keeps (F := []) (KeepsL.of_below hb) (fun _ _ => by simp)
end GR
open Go.Lib (decDigits)


theorem setW_cell_otherN {g k : Nat} : ∀ (vs : List Value) (w : World) (o : Nat), k < o ∨ o + vs.length ≤ k → (GR.setW w g o vs).cell? ⟨g, k, none⟩ = w.cell? ⟨g, k, none⟩ := by
  intro vs
  induction vs with
  | nil => intro w o _; rfl
  | cons v vs ih =>
    intro w o h
    rw [List.length_cons] at h
    exact (ih (w.setCell ⟨g, o, none⟩ v) (o + 1) (by omega)).trans (World.cell?_setCell_other _ _ _ _ (by simp <;> omega))
theorem setW_cell_sameN {g : Nat} : ∀ (vs : List Value) (w : World) (o : Nat), (∀ j, j < vs.length → ∃ v, w.cell? ⟨g, o + j, none⟩ = some v) → ∀ j, j < vs.length → (GR.setW w g o vs).cell? ⟨g, o + j, none⟩ = vs[j]? := by
  intro vs
  induction vs with
  | nil => intro w o _ j hj; simp at hj
  | cons v vs ih =>
    intro w o h j hj
    cases j with
    | zero =>
      obtain ⟨v0, hv0⟩ := h 0 (by simp)
      rw [Nat.add_zero] at hv0 ⊢
      refine (setW_cell_otherN vs (w.setCell ⟨g, o, none⟩ v) (o + 1) (by omega)).trans ?_
      rw [World.cell?_setCell_same _ _ _ hv0]
      rfl
    | succ j =>
      have h2 := ih (w.setCell ⟨g, o, none⟩ v) (o + 1) (fun j' hj' => by
        obtain ⟨v1, hv1⟩ := h (j' + 1) (by simpa using hj')
        refine ⟨v1, (World.cell?_setCell_other _ _ _ _ (by simp <;> omega)).trans ?_⟩
        rw [← hv1, show o + 1 + j' = o + (j' + 1) by omega]) j (by simpa using hj)
      rw [show o + 1 + j = o + (j + 1) by omega] at h2
      exact h2
theorem setW_frozenN {g k : Nat} : ∀ (vs : List Value) (w : World) (o : Nat), (GR.setW w g o vs).frozen? ⟨g, k, none⟩ = w.frozen? ⟨g, k, none⟩ := by
  intro vs
  induction vs with
  | nil => intro w o; rfl
  | cons v vs ih => intro w o; exact (ih (w.setCell ⟨g, o, none⟩ v) (o + 1)).trans (by rw [World.frozen?_setCell])
theorem setW_sizeN {g : Nat} : ∀ (vs : List Value) (w : World) (o : Nat), (GR.setW w g o vs).heap.size = w.heap.size := by
  intro vs
  induction vs with
  | nil => intro w o; rfl
  | cons v vs ih => intro w o; exact (ih (w.setCell ⟨g, o, none⟩ v) (o + 1)).trans (by simp [World.setCell])
theorem GR.W.set {α : Type} {enc : α → List Value} {sz : Nat} {w : World} {a : Option Addr} {g : Nat} {l : List α} (hs : ∀ x, (enc x).length = sz) (h : GR.W enc sz w a g l) (k : Nat) (x : α) (hk : k < l.length) : GR.W enc sz (GR.setW w g (k * sz) (enc x)) a g (l.set k x) := fun i hi => by
  have hi' : i < l.length := by simpa using hi
  obtain ⟨e, hg, hc⟩ := h i hi'
  refine ⟨e, by rw [setW_sizeN]; exact hg, fun j hj => ⟨?_, by rw [setW_frozenN]; exact (hc j hj).2⟩⟩
  by_cases hik : i = k
  · subst hik
    rw [setW_cell_sameN (enc x) w (i * sz) (fun j' hj' => by
      have hj4 : j' < sz := by rw [hs] at hj'; exact hj'
      have h1 := (hc j' hj4).1
      rw [List.getElem?_eq_getElem (by rw [hs]; exact hj4)] at h1
      exact ⟨_, h1⟩) j (by rw [hs]; exact hj)]
    simp
  · have hcase : i * sz + j < k * sz ∨ k * sz + sz ≤ i * sz + j := by
      rcases Nat.lt_or_gt_of_ne hik with h' | h'
      · left
        have := Nat.mul_le_mul_right sz (show i + 1 ≤ k by omega)
        rw [Nat.add_mul, Nat.one_mul] at this
        omega
      · right
        have := Nat.mul_le_mul_right sz (show k + 1 ≤ i by omega)
        rw [Nat.add_mul, Nat.one_mul] at this
        omega
    rw [setW_cell_otherN (enc x) w (k * sz) (by rw [hs]; exact hcase), (hc j hj).1, List.getElem_set_ne (by omega)]
/-- A row, cell by cell. -/
def GR.C (w : World) (a : Option Addr) (g : Nat) (cs : List Value) : Prop := ∀ j (hj : j < cs.length), a = some ⟨g, 0, none⟩ ∧ g < w.heap.size ∧ w.cell? ⟨g, j, none⟩ = some cs[j] ∧ w.frozen? ⟨g, j, none⟩ = false
theorem GR.C.set {w : World} {a : Option Addr} {g : Nat} {cs : List Value} (h : GR.C w a g cs) (k : Nat) (v : Value) : GR.C (w.setCell ⟨g, k, none⟩ v) a g (cs.set k v) := fun j hj => by
  have hj' : j < cs.length := by simpa using hj
  obtain ⟨e, hg, hc, hf⟩ := h j hj'
  refine ⟨e, by simpa [World.setCell] using hg, ?_, by rw [World.frozen?_setCell]; exact hf⟩
  by_cases hjk : j = k
  · subst hjk
    rw [World.cell?_setCell_same _ _ _ hc]
    simp
  · rw [World.cell?_setCell_other _ _ _ _ (by simp <;> omega), hc, List.getElem_set_ne (by omega)]
theorem GR.C.below {w w' : World} {a : Option Addr} {g : Nat} {cs : List Value} (h : GR.C w a g cs) (hb : Below w.heap.size w w') : GR.C w' a g cs := fun j hj => by
  obtain ⟨e, hg, hc, hf⟩ := h j hj
  exact ⟨e, Nat.lt_of_lt_of_le hg hb.size, (hb.cell (p := ⟨g, j, none⟩) hg).trans hc, (hb.frozen (p := ⟨g, j, none⟩) hg).trans hf⟩
end Go.Proofs.YtikdkijggejnfaaGreatDoor
