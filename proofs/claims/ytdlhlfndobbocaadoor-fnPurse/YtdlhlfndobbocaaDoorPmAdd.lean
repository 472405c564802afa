/-
  The program's addKey: a key put among the others, where there is room.
-/
import Derived.Test.YtdlhlfndobbocaaDoorPmKey
namespace Go.Proofs.YtdlhlfndobbocaaDoor
open Go.RowKit Go.Maps
open Mth

/-- The keys with one put in. -/
def insK (l : List Pu) (key : ByteArray) : List ByteArray := (l.map (·.k)).take (place l key) ++ key :: (l.map (·.k)).drop (place l key)
theorem insK_val (l : List Pu) (key : ByteArray) : insV (l.map (·.k)) (place l key) key = (insK l key).map Value.string := by
  unfold insV insK
  simp
theorem insK_length (l : List Pu) (key : ByteArray) : (insK l key).length = l.length + 1 := by
  unfold insK
  have := place_le l key
  simp
  omega
theorem put_keys_not {l : List Pu} {p : Pu} (h : found l p.k = false) : (putP l p).map (·.k) = insK l p.k := by
  rw [put_not_found h]
  unfold insK
  simp

set_option maxRecDepth 100000 in
set_option maxHeartbeats 2000000 in
theorem implAddKey (B mp mb n : Nat) (v : Value) (l : List Pu) (G : ByteArray → Pu) (key : ByteArray) (E : Nat → Addr) (w : World) (hp : l.Pairwise klt) (hl : l.length ≤ 20) (hB : B ≤ w.heap.size) (h : PM w B mp mb n v (l.map (·.k)) G) (he : Errs w E) :
    Calls Tryd.prog 74 #[.pointer (some ⟨mp, 0, none⟩), .string key] w fun e w' => Below B w w' ∧ (∀ k, k < w.heap.size → k ≠ mp → v.ownBlock ≠ some k → w'.heap[k]? = w.heap[k]?) ∧
      ((found l key = true ∧ e = .returned .nilIface ∧ PM w' B mp mb n v (l.map (·.k)) G) ∨
       (found l key = false ∧ l.length = 20 ∧ e = .returned (errV (E 4))) ∨
       (found l key = false ∧ l.length < 20 ∧ e = .returned .nilIface ∧ ∃ v', PM w' B mp mb n v' (insK l key) G)) := by
  have hrow := h.row
  rw [List.length_map] at hrow
  obtain ⟨a, cap, rfl⟩ : ∃ a cap, v = .slice a l.length cap := by
    rcases hrow.2 with ⟨rfl, h0⟩ | ⟨g, cap, cur, rfl, _⟩
    · exact ⟨none, 0, by rw [h0]⟩
    · exact ⟨_, _, rfl⟩
  have HBS := hide (bsRow B _ l key w hp hl hrow)
  have hmp := Fo.lt_of_blk h.blk
  have hmb := h.map.lt
  obtain ⟨⟨m0, m1⟩, f0, f1⟩ := two_at h.blk
  have ve := he.var 4 (by omega)
  have HH := hide h
  have HR := hide hrow
  clear h hrow he
  cases hf : found l key
  · by_cases h20 : l.length = 20
    · have hl20' : ((l.length : Int) == 20) = true := by simp; omega
      have H20 := hide h20
      clear h20
      go_enter Tryd.func74, Tryd.ntmps74
      go_wp2_with fail
      refine (unhide HBS).mono ?_
      rintro e w1 ⟨rfl, q, rfl⟩
      rw [hf]
      go_wp2_with fail
      go_ret
      exact ⟨⟨rfl, rfl, rfl, Nat.le_refl _, fun _ _ => rfl⟩, fun _ _ _ _ => rfl, .inr (.inl ⟨by first | trivial | rfl, unhide H20, rfl⟩)⟩
    · have hl20' : ((l.length : Int) == 20) = false := by simp; omega
      go_enter Tryd.func74, Tryd.ntmps74
      go_wp2_with fail
      refine (unhide HBS).mono ?_
      rintro e w1 ⟨rfl, q, rfl⟩
      rw [hf]
      clear HBS
      have HIN := hide (insRow B (.slice a l.length cap) (l.map (·.k)) (place l key) key w.heap.size ((w.drewN q).alloc (.cells #[.string key] 9)) (by rw [List.length_map]; exact place_le l key) (by rw [List.length_map]; exact hl) (by simp; omega)
        (World.ownsRow.alloc (w := w.drewN q) (unhide HH).row _) (heap_alloc_new (w.drewN q) _) (fun e => by have := (unhide HR).lt _ e; omega))
      go_wp2_with fail
      refine (unhide HIN).mono ?_
      rintro e w2 ⟨v', rfl, hown, hgr⟩
      rw [List.length_map, insK_val, ← insK_length l key] at hown
      obtain ⟨g', cap', rfl, _, _⟩ := hown.form (by rw [insK_length]; omega)
      have hlt : ∀ k, k < w.heap.size → (Value.slice a l.length cap).ownBlock ≠ some k → w2.heap[k]? = w.heap[k]? := fun k hk hne => by
        rw [hgr.block k (by simp; omega) (Ne.symm hne)]
        exact Below.heap_alloc (w.drewN q) _ _ hk
      have hm2 : w2.heap[mp]? = some (.cells #[.slice a l.length cap, .map (some mb)] 85 (0, 0)) := by rw [hlt mp hmp (own_ne (unhide HR) (unhide HH).blk (by decide))]; exact (unhide HH).blk
      have hb2 : w2.heap[mb]? = w.heap[mb]? := by
        obtain ⟨es, clock, hbk⟩ := (unhide HH).map.blk
        exact hlt mb hmb (own_ne_map (unhide HR) hbk)
      have hbw : Below B w w2 := by
        refine ⟨hgr.os, hgr.tape, hgr.output, Nat.le_trans (by simp) hgr.size, fun k hk => hlt k (by omega) (fun e => ?_)⟩
        have := (unhide HR).lt _ e
        omega
      have HO := hide hown
      have HM2 := hide hm2
      have HB2 := hide hb2
      have HBW := hide hbw
      have HLT := hide hlt
      obtain ⟨⟨n0, n1⟩, g0, g1⟩ := two_at hm2
      clear hown hgr hlt hm2 hb2 hbw HIN n1 g1
      go_wp2_with fail
      go_ret
      refine ⟨(unhide HBW).setCell (p := ⟨mp, 0, none⟩) (unhide HH).lop _, fun k hk hne1 hne2 => Fo.one_other (unhide HLT k hk hne2) hne1, .inr (.inr ⟨by first | trivial | rfl, by omega, rfl, .slice (some ⟨g', 0, none⟩) (insK l key).length cap', ?_, ?_, ?_, (unhide HH).lop, (unhide HH).lom⟩)⟩
      · exact Fo.blk_set (unhide HM2) 0 _
      · refine (unhide HO).kept (w' := w2.setCell ⟨mp, 0, none⟩ _) (row := some mp) ⟨rfl, rfl, rfl, by rw [Fo.setCell_size]; exact Nat.le_refl _, fun k _ hne => Fo.one_other rfl (fun e => hne (by rw [e]))⟩ (.inr (own_ne (unhide HO) (unhide HM2) (by decide)))
      · refine (unhide HH).map.kept ?_
        rw [Fo.one_other (unhide HB2) (Ne.symm (unhide HH).mpmb)]
  · go_enter Tryd.func74, Tryd.ntmps74
    go_wp2_with fail
    refine (unhide HBS).mono ?_
    rintro e w1 ⟨rfl, q, rfl⟩
    rw [hf]
    go_wp2_with fail
    go_ret
    exact ⟨⟨rfl, rfl, rfl, Nat.le_refl _, fun _ _ => rfl⟩, fun _ _ _ _ => rfl, .inl ⟨by first | trivial | rfl, rfl, (unhide HH).drewN⟩⟩
end Go.Proofs.YtdlhlfndobbocaaDoor
