/- Parts. -/
import Derived.Test.YtbanjohfcnadfaaGreatDoorPw17
import Derived.Test.YtbanjohfcnadfaaGreatDoorPw8
import Derived.Test.YtbanjohfcnadfaaGreatDoorPw12
import Derived.Test.YtbanjohfcnadfaaGreatDoorPw19
namespace Go.Proofs.YtbanjohfcnadfaaGreatDoor
open Go.RowKit
open Mth

namespace Mth
def nnode (id par : Int) (kids fs : List Int) : Nd := ⟨id, par, kids, 1, [], [], fs.map (fun x => ⟨x, 1, []⟩), 0, []⟩
def zeroNd : Nd := ⟨0, 0, [], 0, [], [], [], 0, []⟩
/-- A new node, and whether it is right. -/
def newN (id par : Int) (kids : List Int) : Nd × Bool := if placeB (nnode id par kids []) then (nnode id par kids (srt (nbrs (nnode id par kids []))), true) else (zeroNd, false)
theorem place_new (id par : Int) (kids fs : List Int) : placeB (nnode id par kids fs) = placeB (nnode id par kids []) := rfl
theorem nbrs_new (id par : Int) (kids fs : List Int) : nbrs (nnode id par kids fs) = nbrs (nnode id par kids []) := rfl
theorem ok_new (id par : Int) (kids fs : List Int) (h : placeB (nnode id par kids []) = true) (hf : fs = srt (nbrs (nnode id par kids []))) : ndOk (nnode id par kids fs) = true := by
  have hp : placeB (nnode id par kids fs) = true := h
  have hm : (nnode id par kids fs).seen.map (·.f) = srt (nbrs (nnode id par kids fs)) := by
    rw [nbrs_new, ← hf]
    simp [nnode, Function.comp_def]
  have ha : (nnode id par kids fs).seen.all snB = true := by
    rw [List.all_eq_true]
    intro s hs
    obtain ⟨x, _, rfl⟩ := List.mem_map.1 hs
    rfl
  unfold ndOk
  rw [hp, told_eq hp, decide_eq_true hm, ha]
  rfl
theorem ok_not (id par : Int) (kids fs : List Int) (h : placeB (nnode id par kids []) = false) : ndOk (nnode id par kids fs) = false := by
  unfold ndOk
  rw [place_new, h]
  rfl
/-- The model's way: the numbers of 0 .. 29 that are neighbours. -/
def nearUp (n : Nd) (k : Nat) : List Int := (upTo k).filter (nearB n)
theorem upTo_succ (k : Nat) : upTo (k + 1) = upTo k ++ [(k : Int)] := by
  unfold upTo
  rw [List.range_succ, List.map_append]
  rfl
theorem nearUp_succ (n : Nd) (k : Nat) : nearUp n (k + 1) = if nearB n k then nearUp n k ++ [(k : Int)] else nearUp n k := by
  unfold nearUp
  rw [upTo_succ, List.filter_append, List.filter_cons]
  split <;> simp
theorem near_all {n : Nd} (h : placeB n = true) : nearUp n 30 = srt (nbrs n) := by
  have hk := place_kids h
  have hp : n.par ≤ 29 := by
    unfold placeB at h
    simp only [Bool.and_eq_true] at h
    exact (of_decide_eq_true h.1.1.1.2).2
  refine (asc_eq _ _ (srt_asc (nbrs_nodup h)) ((upTo_asc 30).sublist List.filter_sublist) ?_ ?_).symm
  · intro x hx
    rw [srt_mem] at hx
    (try unfold nearUp)
    rw [List.mem_filter]
    refine ⟨?_, (near_iff h x).2 hx⟩
    rw [upTo_mem]
    unfold nbrs at hx
    rcases List.mem_append.1 hx with hx | hx
    · have := hk.1 x hx
      unfold kidB ndB at this
      simp only [Bool.and_eq_true, decide_eq_true_eq] at this
      omega
    · split at hx
      · simp at hx
      · have : x = n.par := by simpa using hx
        omega
  · refine asc_le _ _ ((upTo_asc 30).sublist List.filter_sublist) (srt_asc (nbrs_nodup h)) ?_
    intro x hx
    (try unfold nearUp at hx)
    rw [List.mem_filter] at hx
    rw [srt_mem]
    exact (near_iff h x).1 hx.2
theorem new_yes {id par : Int} {kids fs : List Int} (h : placeB (nnode id par kids []) = true) (hf : fs = srt (nbrs (nnode id par kids []))) : newN id par kids = (nnode id par kids fs, true) := by
  unfold newN
  rw [if_pos h, hf]
theorem new_no {id par : Int} {kids : List Int} (h : placeB (nnode id par kids []) = false) : newN id par kids = (zeroNd, false) := by
  unfold newN
  rw [if_neg (by rw [h]; simp)]
end Mth
def r3of (x : Int) : R3 := ⟨x, 1, .slice none 0 0⟩
/-- The cells of a node in the making. -/
abbrev nnc (id par : Int) (kv v : Value) : Array Value := #[.int .i64 id, .int .i64 par, kv, .int .i64 1, .slice none 0 0, .slice none 0 0, v, .int .i64 0, .slice none 0 0]
structure NN (w2 wr : World) (nb : Nat) (id par : Int) (kv v : Value) (fs : List Int) : Prop where
  keep : KeepsL [nb] w2 wr
  blk : wr.heap[nb]? = some (.cells (nnc id par kv v) 50 (0, 0))
  own : wr.ownsRow w2.heap.size 101 3 v fs.length (GR.flat encR3 (fs.map r3of))
  lt : nb < w2.heap.size
theorem NN.step {w2 wr w' : World} {nb : Nat} {id par : Int} {kv v : Value} {fs : List Int} (h : NN w2 wr nb id par kv v fs) (hb : Below wr.heap.size wr w') : NN w2 w' nb id par kv v fs :=
  ⟨h.keep.trans (KeepsL.of_below hb), obj_step h.blk hb, GR.own_below h.own hb, h.lt⟩
theorem NN.app {w2 wr w6 : World} {nb : Nat} {id par : Int} {kv v v' : Value} {fs : List Int} {o : Obj} (h : NN w2 wr nb id par kv v fs) (x : Int)
    (hown : w6.ownsRow w2.heap.size 101 3 v' (fs.length + 1) (GR.flat encR3 (fs.map r3of) ++ encR3 (r3of x))) (hg : (wr.alloc o).grownBy w6 v.ownBlock) :
    NN w2 (w6.setCell ⟨nb, 6, none⟩ v') nb id par kv v' (fs ++ [x]) := by
  have hvb : ∀ k, v.ownBlock = some k → w2.heap.size ≤ k := fun k hk => (h.own.lt k hk).1
  have hlt := h.lt
  have hsz := h.keep.size
  have hblk6 : w6.heap[nb]? = some (.cells (nnc id par kv v) 50 (0, 0)) := by
    rw [hg.block nb (by simp; omega) (fun e => by have := hvb nb e.symm; omega), Below.heap_alloc _ _ _ (by omega)]
    exact h.blk
  have hne : ∀ k, v'.ownBlock = some k → k ≠ nb := fun k hk => by have := (hown.lt k hk).1; omega
  refine ⟨?_, ?_, ?_, hlt⟩
  · refine ⟨hg.os.trans h.keep.os, hg.tape.trans h.keep.tape, hg.output.trans h.keep.output, ?_, fun k hk hkn => ?_⟩
    · have := hg.size
      simp [World.setCell] at this ⊢
      omega
    · have hkn' : k ≠ nb := by simpa using hkn
      rw [Below.heap_setCell _ _ _ _ hkn', hg.block k (by simp; omega) (fun e => by have := hvb k e.symm; omega), Below.heap_alloc _ _ _ (by omega)]
      exact h.keep.block k hk hkn
  · exact blk_setO hblk6 6 v'
  · have e1 : (fs ++ [x]).length = fs.length + 1 := by simp
    have e2 : GR.flat encR3 ((fs ++ [x]).map r3of) = GR.flat encR3 (fs.map r3of) ++ encR3 (r3of x) := by rw [List.map_append, GR.flat_append]; simp [GR.flat]
    rw [e1, e2]
    refine hown.kept (row := some nb) ⟨rfl, rfl, rfl, by simp [World.setCell], fun k _ hk => Below.heap_setCell _ _ _ _ (fun e => hk (by rw [e]))⟩ ?_
    cases hv : v'.ownBlock with
    | none => exact .inl rfl
    | some k => exact .inr (fun e => hne k hv (by injection e))
theorem r3_one (x : Int) : ∀ u ∈ encR3 (r3of x), u.oneCell' = true := by
  intro u hu
  simp only [encR3, r3of, List.mem_cons, List.not_mem_nil, or_false] at hu
  rcases hu with rfl | rfl | rfl <;> rfl
/-- What was seen of a new node. -/
theorem SeenW.new {w : World} {B : Nat} {v : Value} {fs : List Int} (h : w.ownsRow B 101 3 v fs.length (GR.flat encR3 (fs.map r3of))) : ∃ a c g, v = .slice a fs.length c ∧ SeenW w a g (fun _ => 0) (fs.map (fun x => ⟨x, 1, []⟩)) ∧ (∀ x ∈ fp g fs, B ≤ x ∧ x < w.heap.size) := by
  have h' : w.ownsRow B 101 3 v (fs.map r3of).length (GR.flat encR3 (fs.map r3of)) := by rw [List.length_map]; exact h
  obtain ⟨a, c, g, e, hW, hr, _⟩ := GR.W.of_own encR3_length h'
  refine ⟨a, c, g, by rw [e, List.length_map], ⟨fs.map r3of, hW, by simp, fun i hi => ?_⟩, fun x hx => hr x ?_⟩
  · refine ⟨none, 0, ?_, ?_⟩
    · have hi' : i < fs.length := by simpa using hi
      simp [hi', r3of]
    · simp only [List.getElem_map]
      exact GR.W.nil
  · have := of_fp hx
    rw [this.1]
    exact fp_mem (by simpa using this.2)
theorem fpI_new (I : Nat → Nat) (fs : List Int) : fpI I (fs.map (fun x => (⟨x, 1, []⟩ : Sn))) = [] := by
  apply List.eq_nil_iff_forall_not_mem.2
  intro x hx
  obtain ⟨i, hi, _, hp⟩ := of_fpI hx
  simp at hp
/-- A new node's rows. -/
theorem NodeW.new {w : World} {B B2 : Nat} {id par : Int} {kv v : Value} {kids fs : List Int} (hk : w.ownsRow B 3 1 kv kids.length (GR.flat encNum kids)) (hkl : ∀ x, kv.ownBlock = some x → x < B2) (hs : w.ownsRow B2 101 3 v fs.length (GR.flat encR3 (fs.map r3of))) (hB : B ≤ B2) :
    ∃ A G, Value.agg (nnc id par kv v) = ndv (nnode id par kids fs) A ∧ NodeW w A G (nnode id par kids fs) ∧ G.Sep (nnode id par kids fs) B w.heap.size := by
  obtain ⟨a1, c1, g1, rfl, hW1, hr1, ho1⟩ := GR.W.of_own encNum_length hk
  obtain ⟨a2, c2, g2, rfl, hW2, hr2⟩ := SeenW.new hs
  have hall : ∀ x, x ∈ Blks.all ⟨g1, 0, 0, g2, 0, fun _ => 0⟩ (nnode id par kids fs) → x ∈ fp g1 kids ∨ x ∈ fp g2 fs := fun x hx => by
    rcases Blks.mem_all.1 hx with h | h | h | h | h | h
    · exact .inl h
    · simp [nnode, fp] at h
    · simp [nnode, fp] at h
    · right
      rw [fp_len (l' := fs) (by simp [nnode])] at h
      exact h
    · simp only [nnode] at h
      rw [fpI_new] at h
      simp at h
    · simp [nnode, fp] at h
  refine ⟨⟨a1, none, none, a2, none, c1, 0, 0, c2, 0⟩, ⟨g1, 0, 0, g2, 0, fun _ => 0⟩, by simp [nnc, ndv, ndc, nnode], ⟨hW1, GR.W.nil, GR.W.nil, hW2, GR.W.nil⟩, ⟨?_, fun x hx => ?_⟩⟩
  · have e : Blks.all ⟨g1, 0, 0, g2, 0, fun _ => 0⟩ (nnode id par kids fs) = fp g1 kids ++ fp g2 fs := by
      unfold Blks.all
      simp only [nnode]
      rw [fpI_new, fp_len (l := fs.map _) (l' := fs) (by simp)]
      simp [fp]
    rw [e, List.nodup_append]
    refine ⟨fp_nodup _ _, fp_nodup _ _, fun a ha b hb => ?_⟩
    have h1 := hkl a (ho1 a ha)
    have h2 := (hr2 b hb).1
    omega
  · rcases hall x hx with h | h
    · exact hr1 x h
    · have := hr2 x h
      omega
theorem NodeW.zero {w : World} : NodeW w ⟨none, none, none, none, none, 0, 0, 0, 0, 0⟩ ⟨0, 0, 0, 0, 0, fun _ => 0⟩ zeroNd ∧ Blks.Sep ⟨0, 0, 0, 0, 0, fun _ => 0⟩ zeroNd w.heap.size w.heap.size :=
  ⟨⟨GR.W.nil, GR.W.nil, GR.W.nil, ⟨[], GR.W.nil, rfl, fun i hi => by simp [zeroNd] at hi⟩, GR.W.nil⟩, ⟨by simp [Blks.all, zeroNd, fp, fpI], fun x hx => by simp [Blks.all, zeroNd, fp, fpI] at hx⟩⟩

namespace Mth
theorem seen_step {l : List Sn} {F : List Int} {k : Nat} (hk : k < l.length) (hF : F.length = l.length) (h1 : (l.take k).map (·.f) = F.take k) (h2 : (l.take k).all snB = true) (h3 : (l[k]).f = F[k]'(by omega)) (h4 : snB l[k] = true) :
    (l.take (k + 1)).map (·.f) = F.take (k + 1) ∧ (l.take (k + 1)).all snB = true := by
  rw [List.take_succ_eq_append_getElem hk, List.take_succ_eq_append_getElem (by omega), List.map_append, h1, List.all_append, h2]
  simp [h3, h4]
theorem seen_bad1 {l : List Sn} {F : List Int} {k : Nat} (hk : k < l.length) (hF : F.length = l.length) (h3 : ¬ (l[k]).f = F[k]'(by omega)) : ¬ l.map (·.f) = F := by
  intro h
  apply h3
  subst h
  simp
theorem seen_bad2 {l : List Sn} {k : Nat} (hk : k < l.length) (h4 : snB l[k] = false) : l.all snB = false := by
  rw [List.all_eq_false]
  exact ⟨l[k], List.getElem_mem hk, by rw [h4]; simp⟩
end Mth
theorem rSeen (s : Sn) (b : Option Addr) (c : Nat) (r : Bool) (wc : World) (hl : s.ids.length ≤ 1048600) (ha : IntsAt wc b s.ids) (hr : snB s = r) : ∀ d os, Calls Tryz.prog 118 #[.agg #[.int .i64 s.f, .int .i64 s.l, .slice b s.ids.length c]] (Sort.grow (redrawn wc d) os) fun e w'' => e = .returned (.bool r) ∧ ∃ p : Regrown, w'' = Sort.grow (redrawn wc p.d) p.os := fun d os => by
  rw [← hr]
  exact Calls.regrown_of (implSeenOne s b c _ hl (GR.At.below ha (below_regrown wc d os)))
set_option maxRecDepth 100000 in
set_option maxHeartbeats 4000000 in
theorem implSeenOk (n : Nd) (A : Ads) (w : World) (hz : NdSz n 1048600) (hp : placeB n = true) (ha : NodeAt w A n) :
    Calls Tryz.prog 93 #[ndv n A] w fun e w' => e = .returned (.bool (toldB n)) ∧ Below w.heap.size w w' := by
  have HA := hide ha
  have HD := hide (told_eq hp)
  have HSK := hide hz.sk
  have HNB := hide (implNeighbours n A (w.alloc (.cells (ndc n A) 50)) hz.k (GR.At.below ha.k (below_one w _)))
  have HBX := hide (heap_alloc_new w (.cells (ndc n A) 50))
  have hls := hz.s
  have hln : (nbrs n).length ≤ 1048602 := by have := hz.k; unfold nbrs; split <;> simp <;> omega
  have HLS := hide (srt_length (nbrs n))
  generalize srt (nbrs n) = F at *
  generalize (nbrs n).length = NL at *
  generalize toldB n = TT at *
  clear ha hz hp
  obtain ⟨id, par, kids, next, pu, out, seen, old, reqs⟩ := n
  obtain ⟨ak, ap, ao, as', ar, ck, cp, co, cs, cr⟩ := A
  dsimp only at hls HA HD HSK HNB HBX ⊢
  go_enter Tryz.func93, Tryz.ntmps93
  go_wp2_with fail
  refine (unhide HNB).mono ?_
  rintro e w1 ⟨v, rfl, hown, hb1⟩
  have HB1 := hide ((below_one w _).trans (hb1.mono (by simp)))
  have HBK1 := hide (obj_step (unhide HBX) hb1)
  have hFL := unhide HLS
  subst hFL
  obtain ⟨fa, fc, rfl, hF⟩ := GR.own_at (enc := encNum) (sz := 1) encNum_length hown
  have HF := hide hF
  obtain ⟨c0, c1, c2, c3, c4, c5, c6, c7, c8⟩ := nine (unhide HBK1)
  clear hown hb1 HNB HBX HLS hF
  by_cases hlen : seen.length = F.length
  case' neg =>
    have hbn : ((seen.length : Int) != (F.length : Int)) = true := by simp; omega
    have HP := hide (show TT = false by
      rw [unhide HD, decide_eq_false (show ¬ seen.map (·.f) = F from fun h => hlen (by rw [← h, List.length_map]))]
      rfl)
    clear HD
    go_wp2_with fail
    go_ret
    exact ⟨ret_bool (unhide HP).symm, unhide HB1⟩
  have hbn : ((seen.length : Int) != (F.length : Int)) = false := by simp; omega
  have HLN := hide hlen
  clear hlen
  go_wp2_with fail
  go_loopw [17] (fun i wr => ∃ k : Nat, k ≤ seen.length ∧ i = .int .i64 k ∧ (seen.take k).map (·.f) = F.take k ∧ (seen.take k).all snB = true ∧ Below w1.heap.size w1 wr) (fun i _ => seen.length - (intOf i).toNat)
  case atStart => exact ⟨0, Nat.zero_le _, rfl, rfl, rfl, Below.refl _ _⟩
  case round =>
    obtain ⟨k, hk, rfl, hm, hall, hbx⟩ := hrel
    have HM := hide hm
    have HALL := hide hall
    have HBX := hide hbx
    have HBK := hide (obj_step (unhide HBK1) hbx)
    have HBL := hide ((unhide HB1).trans (hbx.mono (unhide HB1).size))
    clear hm hall hbx
    by_cases hlt : k < seen.length
    case' neg =>
      have hke : k = seen.length := by omega
      subst hke
      have hnlt : decide ((seen.length : Int) < (seen.length : Int)) = false := by simp
      have HP := hide (show TT = true by
        have h1 := unhide HM
        have h2 := unhide HALL
        rw [List.take_length] at h1 h2
        rw [unhide HLN, List.take_length] at h1
        rw [unhide HD, decide_eq_true h1, h2]
        rfl)
      go_wp2_with fail
      go_ret
      exact ⟨ret_bool (unhide HP).symm, unhide HBL⟩
    have hltF : k < F.length := by rw [← unhide HLN]; exact hlt
    obtain ⟨g, off, b, c, e0, hgw, q0, q1, q2, hI⟩ := SeenAt.below (NodeAt.s (unhide HA)) (unhide HBL) k hlt
    obtain ⟨g2, off2, e2, hgw2, p0⟩ := IntsAt.one (GR.At.below (unhide HF) (unhide HBX)) k hltF
    (try dsimp only at e0 q0 q1 q2 hI)
    subst e0 e2
    have hids := unhide HSK _ (List.getElem_mem hlt)
    have HI := hide hI
    have HST := hide (fun h3 h4 => seen_step hlt (unhide HLN).symm (unhide HM) (unhide HALL) h3 h4)
    have HX1 := hide (fun h3 => seen_bad1 (F := F) hlt (unhide HLN).symm h3)
    have HX2 := hide (fun h4 => seen_bad2 hlt h4)
    clear hI
    generalize seen[k] = sk at *
    generalize F[k] = y at *
    obtain ⟨fr, lo, ids⟩ := sk
    dsimp only at q0 q1 q2 HI hids HST HX1 HX2
    go_upto_region 7 with fail
    refine wp_at (fun W1 hW1 => ?_)
    have HW1 : Hid (W1.heap[wr.heap.size]? = some (.cells #[.int .i64 fr, .int .i64 lo, .slice b ids.length c] 101 (0, 0))) := by rw [hW1]; exact heap_alloc_new _ _
    have hbw : Below wr.heap.size wr W1 := by rw [hW1]; exact below_one wr _
    have HBX1 := hide ((unhide HBX).trans (hbw.mono (unhide HBX).size))
    have HI1 := hide (GR.At.below (unhide HI) hbw)
    have p1 := (hbw.cell (p := ⟨g2, off2 + k, none⟩) hgw2).trans p0
    have HBL1 := hide ((unhide HBL).trans (hbw.mono (unhide HBL).size))
    clear hW1 hbw q0 q1 q2 p0 HI
    obtain ⟨d0, d1, d2⟩ := three (unhide HW1)
    have m0 := cell_grown' d0
    have m1 := cell_grown' d1
    have m2 := cell_grown' d2
    have m3 := cell_grown' p1
    by_cases h1 : fr = y
    case' neg =>
      have hb1 : (fr != y) = true := by simp [h1]
      have HP := hide (show TT = false by rw [unhide HD, decide_eq_false (unhide HX1 h1)]; rfl)
      clear h1 HST HX1 HX2
      refine wp_region_quiet_below (by kernel_rfl) (by kernel_rfl) ?_
      repeat (first | go_big_quiet_step (fail) | quiet_step (fail))
      refine wpQuiet_nil ?_
      intro _ hw'
      obtain ⟨⟨dq, osq⟩, hw''⟩ := hw'
      subst hw''
      go_wp2_with fail
      go_ret
      exact ⟨ret_bool (unhide HP).symm, (unhide HBL1).trans ((below_regrown _ dq osq).mono (unhide HBL1).size)⟩
    have hb1 : (fr != y) = false := by simp [h1]
    cases h2 : snB ⟨fr, lo, ids⟩
    case' false =>
      have HP := hide (show TT = false by rw [unhide HD, unhide HX2 h2]; simp)
      have cS := rSeen ⟨fr, lo, ids⟩ b c false W1 hids (unhide HI1) h2
      clear h1 HST HX1 HX2
      refine wp_region_quiet_below (by kernel_rfl) (by kernel_rfl) ?_
      repeat (first | go_big_quiet_step ((first | (go_at_call 118; exact cS _ _))) | quiet_step ((first | (go_at_call 118; exact cS _ _))))
      refine wpQuiet_nil ?_
      intro _ hw'
      obtain ⟨⟨dq, osq⟩, hw''⟩ := hw'
      subst hw''
      go_wp2_with fail
      go_ret
      exact ⟨ret_bool (unhide HP).symm, (unhide HBL1).trans ((below_regrown _ dq osq).mono (unhide HBL1).size)⟩
    have HG := hide (unhide HST h1 h2)
    have cS := rSeen ⟨fr, lo, ids⟩ b c true W1 hids (unhide HI1) h2
    clear h1 HST HX1 HX2
    refine wp_region_quiet_below (by kernel_rfl) (by kernel_rfl) ?_
    repeat (first | go_big_quiet_step ((first | (go_at_call 118; exact cS _ _))) | quiet_step ((first | (go_at_call 118; exact cS _ _))))
    refine wpQuiet_nil ?_
    intro _ hw'
    obtain ⟨⟨dq, osq⟩, hw''⟩ := hw'
    subst hw''
    go_wp2_with fail
    go_roundw
    case rel => exact ⟨k + 1, by omega, by go_num, (unhide HG).1, (unhide HG).2, (unhide HBX1).trans ((below_regrown _ dq osq).mono (unhide HBX1).size)⟩
    case measure => simp [intOf]; omega
set_option maxRecDepth 100000 in
set_option maxHeartbeats 4000000 in
theorem implNodeOk (n : Nd) (A : Ads) (w : World) (hz : NdSz n 1048600) (ha : NodeAt w A n) :
    Calls Tryz.prog 74 #[ndv n A] w fun e w' => e = .returned (.bool (ndOk n)) ∧ Below w.heap.size w w' := by
  have HPL : Hid (∀ w1, Below w.heap.size w w1 → Calls Tryz.prog 89 #[ndv n A] w1 fun e w' => e = .returned (.bool (placeB n)) ∧ Below w1.heap.size w1 w') := fun w1 hb => by
    have h := implPlaced n A w1 hz.k (ha.below hb).k
    rw [place_same] at h
    exact h
  have HPU := hide (fun w1 (hb : Below w.heap.size w w1) => implPursesOk A.p A.cp n.pu w1 hz.p (ha.below hb).p)
  have HOT := hide (fun w1 (hb : Below w.heap.size w w1) (hp : placeB n = true) => implOutOk n A w1 hz hp (ha.below hb))
  have HSE := hide (fun w1 (hb : Below w.heap.size w w1) (hp : placeB n = true) => implSeenOk n A w1 hz hp (ha.below hb))
  have HRE := hide (fun w1 (hb : Below w.heap.size w w1) => implReqsOk n A w1 hz (ha.below hb))
  have HD : Hid (ndOk n = (placeB n && psOk n.pu && toldB n && smB n.next && outsB n && reqsB n)) := rfl
  have HBX := hide (heap_alloc_new w (.cells (ndc n A) 50))
  generalize placeB n = PL at *
  generalize psOk n.pu = PS at *
  generalize toldB n = TD at *
  generalize outsB n = OT at *
  generalize reqsB n = RQ at *
  generalize ndOk n = TT at *
  clear ha hz
  obtain ⟨id, par, kids, next, pu, out, seen, old, reqs⟩ := n
  obtain ⟨ak, ap, ao, as', ar, ck, cp, co, cs, cr⟩ := A
  dsimp only at HPL HPU HOT HSE HRE HD HBX ⊢
  go_enter Tryz.func74, Tryz.ntmps74
  go_upto_region 1 with fail
  refine wp_at (fun W0 hW0 => ?_)
  have HB0 : Hid (W0.heap[w.heap.size]? = some (.cells (ndc ⟨id, par, kids, next, pu, out, seen, old, reqs⟩ ⟨ak, ap, ao, as', ar, ck, cp, co, cs, cr⟩) 50 (0, 0))) := by rw [hW0]; exact unhide HBX
  have HL0 : Hid (Below w.heap.size w W0) := by rw [hW0]; exact below_one w _
  clear hW0 HBX
  obtain ⟨c0, c1, c2, c3, c4, c5, c6, c7, c8⟩ := nine (unhide HB0)
  go_wp2_with fail
  refine (unhide HPL _ (unhide HL0)).mono ?_
  rintro e w1 ⟨rfl, hb1⟩
  have HB1 := hide (obj_step (unhide HB0) hb1)
  have HL1 := hide ((unhide HL0).trans (hb1.mono (unhide HL0).size))
  clear hb1 c0 c1 c2 c3 c4 c5 c6 c7 c8
  obtain ⟨c0, c1, c2, c3, c4, c5, c6, c7, c8⟩ := nine (unhide HB1)
  cases h1 : PL
  case' false =>
    have HP := hide (show TT = false by rw [unhide HD]; simp [h1])
    clear h1 HD
    go_wp2_with fail
    go_ret
    exact ⟨ret_bool (unhide HP).symm, unhide HL1⟩
  go_wp2_with fail
  refine (unhide HPU _ (unhide HL1)).mono ?_
  rintro e w2 ⟨rfl, hb1⟩
  have HB2 := hide (obj_step (unhide HB1) hb1)
  have HL2 := hide ((unhide HL1).trans (hb1.mono (unhide HL1).size))
  clear hb1 c0 c1 c2 c3 c4 c5 c6 c7 c8
  obtain ⟨c0, c1, c2, c3, c4, c5, c6, c7, c8⟩ := nine (unhide HB2)
  cases h2 : PS
  case' false =>
    have HP := hide (show TT = false by rw [unhide HD]; simp [h2])
    clear h2 HD
    go_wp2_with fail
    go_ret
    exact ⟨ret_bool (unhide HP).symm, unhide HL2⟩
  cases h3 : smB next
  case' false =>
    have HP := hide (show TT = false by rw [unhide HD]; simp [h3])
    have H3 := hide (fun w1 => isSomeAmount next false w1 h3)
    clear h3 HD
    go_wp2_with (go_at_call 91; refine (unhide H3 _).mono ?_; rintro e w9 ⟨rfl, rfl⟩)
    go_ret
    exact ⟨ret_bool (unhide HP).symm, unhide HL2⟩
  have H3 := hide (fun w1 => isSomeAmount next true w1 h3)
  go_wp2_with (go_at_call 91; refine (unhide H3 _).mono ?_; rintro e w9 ⟨rfl, rfl⟩)
  refine (unhide HOT _ (unhide HL2) h1).mono ?_
  rintro e w3 ⟨rfl, hb1⟩
  have HB3 := hide (obj_step (unhide HB2) hb1)
  have HL3 := hide ((unhide HL2).trans (hb1.mono (unhide HL2).size))
  clear hb1 c0 c1 c2 c3 c4 c5 c6 c7 c8
  obtain ⟨c0, c1, c2, c3, c4, c5, c6, c7, c8⟩ := nine (unhide HB3)
  cases h4 : OT
  case' false =>
    have HP := hide (show TT = false by rw [unhide HD]; simp [h4])
    clear h4 HD
    go_wp2_with fail
    go_ret
    exact ⟨ret_bool (unhide HP).symm, unhide HL3⟩
  go_wp2_with fail
  refine (unhide HSE _ (unhide HL3) h1).mono ?_
  rintro e w4 ⟨rfl, hb1⟩
  have HB4 := hide (obj_step (unhide HB3) hb1)
  have HL4 := hide ((unhide HL3).trans (hb1.mono (unhide HL3).size))
  clear hb1 c0 c1 c2 c3 c4 c5 c6 c7 c8
  obtain ⟨c0, c1, c2, c3, c4, c5, c6, c7, c8⟩ := nine (unhide HB4)
  cases h5 : TD
  case' false =>
    have HP := hide (show TT = false by rw [unhide HD]; simp [h5])
    clear h5 HD
    go_wp2_with fail
    go_ret
    exact ⟨ret_bool (unhide HP).symm, unhide HL4⟩
  go_wp2_with fail
  refine (unhide HRE _ (unhide HL4)).mono ?_
  rintro e w5 ⟨rfl, hb1⟩
  have HB5 := hide (obj_step (unhide HB4) hb1)
  have HL5 := hide ((unhide HL4).trans (hb1.mono (unhide HL4).size))
  clear hb1 c0 c1 c2 c3 c4 c5 c6 c7 c8
  obtain ⟨c0, c1, c2, c3, c4, c5, c6, c7, c8⟩ := nine (unhide HB5)
  have HP := hide (show TT = RQ by rw [unhide HD]; simp [h1, h2, h3, h4, h5])
  clear h1 h2 h3 h4 h5 HD
  go_wp2_with fail
  go_ret
  exact ⟨ret_bool (unhide HP).symm, unhide HL5⟩
end Go.Proofs.YtbanjohfcnadfaaGreatDoor
