/- Parts. -/
import Derived.Test.YtbanjohfcnadfaaGreatDoorPw15
import Derived.Test.YtbanjohfcnadfaaGreatDoorPw19
import Derived.Test.YtbanjohfcnadfaaGreatDoorPw21
import Derived.Test.YtbanjohfcnadfaaGreatDoorPw14
namespace Go.Proofs.YtbanjohfcnadfaaGreatDoor
open Go.RowKit
open Mth

theorem keepsN {nb : Nat} {X Y : World} {i : Nat} {v : Value} (hb : Below X.heap.size X Y) : KeepsL [nb] X (Y.setCell ⟨nb, i, none⟩ v) := (KeepsL.of_below hb).trans (KeepsL.set v)
theorem belowN {w Y : World} {nb i : Nat} {v : Value} (hn : w.heap.size ≤ nb) (hb : Below w.heap.size w Y) : Below w.heap.size w (Y.setCell ⟨nb, i, none⟩ v) := hb.setCell (p := ⟨nb, i, none⟩) hn v
theorem setN9 {Y : World} {nb i : Nat} {v : Value} {cs : Array Value} (h : Y.heap[nb]? = some (.cells cs 50 (0, 0))) : (Y.setCell ⟨nb, i, none⟩ v).heap[nb]? = some (.cells (cs.setIfInBounds i v) 50 (0, 0)) := blk_setO h i v
theorem own_keepsL {F : List Nat} {Y W : World} {B : Nat} {t : TypeId} {sz k : Nat} {v : Value} {xs : List Value} (h : Y.ownsRow B t sz v k xs) (hk : KeepsL F Y W) (hd : ∀ x ∈ F, x < B) : W.ownsRow B t sz v k xs := by
  refine ⟨h.1, ?_⟩
  rcases h.2 with hn | ⟨g, cap, cur, rfl, hb, hgg, rest⟩
  · exact .inl hn
  · exact .inr ⟨g, cap, cur, rfl, hb, hk.obj hgg (fun hm => by have := hd g hm; omega), rest⟩
theorem flat_ids (u : Value) : ∀ (l : List R3) (i : Nat) (hi : i < l.length), (GR.flat encR3 l).set (i * 3 + 2) u = GR.flat encR3 (l.set i ⟨l[i].f, l[i].l, u⟩) := by
  intro l
  induction l with
  | nil => intro i hi; simp at hi
  | cons x r ih =>
    intro i hi
    cases i with
    | zero => rfl
    | succ i =>
      have hi2 : i < r.length := by simpa using hi
      have h1 := ih i hi2
      show (encR3 x ++ GR.flat encR3 r).set ((i + 1) * 3 + 2) u = encR3 x ++ GR.flat encR3 (r.set i ⟨r[i].f, r[i].l, u⟩)
      rw [← h1, List.set_append_right _ _ (by show 3 ≤ _; omega)]
      congr 2
      show (i + 1) * 3 + 2 - 3 = _
      omega
/-- What was seen, while its numbers are copied one by one. -/
structure SC (w W5 wr : World) (B k : Nat) (l : List Sn) (T T2 : List R3) (I : Nat → Nat) (a : Option Addr) (cs : Nat) : Prop where
  len : T2.length = l.length
  own : wr.ownsRow B 101 3 (.slice a l.length cs) l.length (GR.flat encR3 T2)
  dn : ∀ i (hi : i < l.length), i < k → ∃ b c, T2[i]? = some ⟨l[i].f, l[i].l, .slice b l[i].ids.length c⟩ ∧ GR.W encNum 1 wr b (I i) l[i].ids ∧ ∀ x ∈ fp (I i) l[i].ids, W5.heap.size ≤ x ∧ x < wr.heap.size
  up : ∀ i, k ≤ i → T2[i]? = T[i]?
  nd : ∀ i j (hi : i < l.length) (hj : j < l.length), i < j → j < k → 0 < l[i].ids.length → 0 < l[j].ids.length → I i ≠ I j
  gr : W5.grownBy wr (Value.slice a l.length cs).ownBlock
theorem SC.start {w W5 : World} {B : Nat} {l : List Sn} {T : List R3} {a : Option Addr} {cs : Nat} (hT : T.length = l.length) (ho : W5.ownsRow B 101 3 (.slice a l.length cs) l.length (GR.flat encR3 T)) : SC w W5 W5 B 0 l T T (fun _ => 0) a cs :=
  ⟨hT, ho, fun i _ h => by omega, fun _ _ => rfl, fun i j _ _ _ h => by omega, World.grownBy.refl _ _⟩
theorem SC.next {w W5 wr x : World} {B k : Nat} {l : List Sn} {T T2 : List R3} {I : Nat → Nat} {a : Option Addr} {cs g gi cc : Nat} {b : Option Addr} (h : SC w W5 wr B k l T T2 I a cs) (hk : k < l.length) (ha : a = some ⟨g, 0, none⟩) (hT : ∃ b c, T[k]? = some ⟨l[k].f, l[k].l, .slice b l[k].ids.length c⟩) (hx : Below wr.heap.size wr x) (hg5 : g < W5.heap.size)
    (hi : GR.W encNum 1 x b gi l[k].ids) (hlt : ∀ z ∈ fp gi l[k].ids, wr.heap.size ≤ z ∧ z < x.heap.size) : SC w W5 (x.setCell ⟨g, k * 3 + 2, none⟩ (.slice b l[k].ids.length cc)) B (k + 1) l T (T2.set k ⟨l[k].f, l[k].l, .slice b l[k].ids.length cc⟩) (fun i => if i = k then gi else I i) a cs := by
  subst ha
  have hk2 : k < T2.length := by rw [h.len]; exact hk
  have hTk : ∃ b c, T2[k] = ⟨l[k].f, l[k].l, .slice b l[k].ids.length c⟩ := by
    obtain ⟨b', c', e⟩ := hT
    refine ⟨b', c', ?_⟩
    have := h.up k (Nat.le_refl _)
    rw [List.getElem?_eq_getElem hk2, e] at this
    exact Option.some.inj this
  have hgs : x.heap.size = (x.setCell ⟨g, k * 3 + 2, none⟩ (.slice b l[k].ids.length cc)).heap.size := by simp [World.setCell]
  have hkp : KeepsL [g] x (x.setCell ⟨g, k * 3 + 2, none⟩ (.slice b l[k].ids.length cc)) := KeepsL.set _
  have hws := h.gr.size
  have hxs := hx.size
  refine ⟨by rw [List.length_set]; exact h.len, ?_, fun i hi' hik => ?_, fun i hik => ?_, fun i j hi' hj hij hjk h1 h2 => ?_, ?_⟩
  · have ho := GR.own_below h.own hx
    have hst := (ho.stored (k * 3 + 2) (.slice b l[k].ids.length cc)).1
    rw [flat_ids _ T2 k hk2] at hst
    obtain ⟨b', c', e⟩ := hTk
    rw [e] at hst
    exact hst
  · by_cases e : i = k
    · subst e
      refine ⟨b, cc, by rw [List.getElem?_set_self hk2], ?_, ?_⟩
      · rw [if_pos rfl]
        exact hi.keeps hkp (fun z hz hm => by have := (hlt z hz).1; have : z = g := (by simpa using hm); omega)
      · rw [if_pos rfl]
        exact fun z hz => ⟨by have := (hlt z hz).1; omega, by rw [← hgs]; exact (hlt z hz).2⟩
    · obtain ⟨b', c', e1, e2, e3⟩ := h.dn i hi' (by omega)
      refine ⟨b', c', by rw [List.getElem?_set_ne (by omega)]; exact e1, ?_, ?_⟩
      · rw [if_neg e]
        exact (e2.below hx).keeps hkp (fun z hz hm => by have := (e3 z hz).1; have : z = g := (by simpa using hm); omega)
      · rw [if_neg e]
        exact fun z hz => ⟨(e3 z hz).1, by rw [← hgs]; have := (e3 z hz).2; omega⟩
  · rw [List.getElem?_set_ne (by omega)]
    exact h.up i (by omega)
  · by_cases ej : j = k
    · subst ej
      rw [if_neg (by omega), if_pos rfl]
      obtain ⟨_, _, _, _, e3⟩ := h.dn i hi' (by omega)
      have q1 := (e3 (I i) (fp_mem h1)).2
      have q2 := (hlt gi (fp_mem h2)).1
      omega
    · rw [if_neg (by omega), if_neg ej]
      exact h.nd i j hi' hj hij (by omega) h1 h2
  · refine h.gr.andThen (row' := some g) ⟨hx.os, hx.tape, hx.output, by rw [← hgs]; exact hx.size, fun z hz hne => ?_⟩ (fun j hj => .inr (by cases hj; rfl))
    rw [Below.heap_setCell _ _ _ _ (fun e => hne (by rw [e]))]
    exact hx.block z hz
theorem SC.done {w W5 wr : World} {B : Nat} {l : List Sn} {T T2 : List R3} {I : Nat → Nat} {a : Option Addr} {cs : Nat} (h : SC w W5 wr B l.length l T T2 I a cs) : ∃ g, SeenW wr a g I l ∧ (∀ x ∈ fp g l, B ≤ x ∧ (Value.slice a l.length cs).ownBlock = some x) ∧ (∀ x ∈ fpI I l, W5.heap.size ≤ x ∧ x < wr.heap.size) ∧ (fpI I l).Nodup := by
  have ho := h.own
  rw [← h.len] at ho
  obtain ⟨a', c', g, e, hW, hg, hgo⟩ := GR.W.of_own (enc := encR3) encR3_length ho
  cases e
  rw [h.len] at hgo
  have hfe : ∀ x, x ∈ fp g l → x ∈ fp g T2 := fun x hx => by have := of_fp hx; rw [this.1]; exact fp_mem (by rw [h.len]; exact this.2)
  refine ⟨g, ⟨T2, hW, h.len, fun i hi => ?_⟩, fun x hx => ⟨(hg x (hfe x hx)).1, hgo x (hfe x hx)⟩, fun x hx => ?_, ?_⟩
  · obtain ⟨b, c, e1, e2, _⟩ := h.dn i hi hi
    exact ⟨b, c, e1, e2⟩
  · obtain ⟨i, hi, rfl, hpos⟩ := of_fpI hx
    obtain ⟨_, _, _, _, e3⟩ := h.dn i hi hi
    exact e3 _ (fp_mem hpos)
  · rw [fpI_nodup]
    exact fun i j hi hj hij h1 h2 => h.nd i j hi hj hij hj h1 h2
theorem SC.below {w W5 wr : World} {B k : Nat} {l : List Sn} {T T2 : List R3} {I : Nat → Nat} {a : Option Addr} {cs : Nat} (h : SC w W5 wr B k l T T2 I a cs) {C : Nat} (hC : C ≤ B) (hs : C ≤ W5.heap.size) : Below C W5 wr :=
  ⟨h.gr.os, h.gr.tape, h.gr.output, h.gr.size, fun x hx => h.gr.block x (by omega) (fun e => by have := (h.own.lt x e.symm).1; omega)⟩
theorem W_blocks {α : Type} {enc : α → List Value} {sz : Nat} {w w' : World} {a : Option Addr} {g : Nat} {l : List α} (h : GR.W enc sz w a g l) (hs : w.heap.size ≤ w'.heap.size) (hb : ∀ x ∈ fp g l, w'.heap[x]? = w.heap[x]?) : GR.W enc sz w' a g l := fun i hi => by
  obtain ⟨e, hg, hc⟩ := h i hi
  have hbl := hb g (fp_mem (by omega))
  exact ⟨e, by omega, fun j hj => ⟨(World.cell?_of_block (w := w) hbl).trans (hc j hj).1, (World.frozen?_of_block (w := w) hbl).trans (hc j hj).2⟩⟩
theorem own_blocks {w w' : World} {B : Nat} {t : TypeId} {sz k : Nat} {v : Value} {xs : List Value} (h : w.ownsRow B t sz v k xs) (hb : ∀ x, v.ownBlock = some x → w'.heap[x]? = w.heap[x]?) : w'.ownsRow B t sz v k xs := by
  refine ⟨h.1, ?_⟩
  rcases h.2 with hn | ⟨g, cap, cur, rfl, hB, hgg, rest⟩
  · exact .inl hn
  · exact .inr ⟨g, cap, cur, rfl, hB, (hb g rfl).trans hgg, rest⟩
theorem own_base {w : World} {B B' : Nat} {t : TypeId} {sz k : Nat} {v : Value} {xs : List Value} (h : w.ownsRow B t sz v k xs) (hB : B' ≤ B) : w.ownsRow B' t sz v k xs := by
  refine ⟨h.1, ?_⟩
  rcases h.2 with hn | ⟨g, cap, cur, rfl, hBg, rest⟩
  · exact .inl hn
  · exact .inr ⟨g, cap, cur, rfl, by omega, rest⟩
theorem Seen_blocks {w w' : World} {a : Option Addr} {g : Nat} {I : Nat → Nat} {l : List Sn} (h : SeenW w a g I l) (hs : w.heap.size ≤ w'.heap.size) (hb : ∀ x ∈ fp g l, w'.heap[x]? = w.heap[x]?) (hI : ∀ x ∈ fpI I l, w'.heap[x]? = w.heap[x]?) : SeenW w' a g I l := by
  obtain ⟨T, hT, hl, hr⟩ := h
  refine ⟨T, W_blocks hT hs (fun x hx => hb x (by have := of_fp hx; rw [this.1]; exact fp_mem (by omega))), hl, fun i hi => ?_⟩
  obtain ⟨b, c, ht, hi2⟩ := hr i hi
  exact ⟨b, c, ht, W_blocks hi2 hs (fun x hx => hI x (fpI_mem hi x hx))⟩
/-- Colours by the time of making. -/
def timeC (s0 s1 s2 s4 s5 s6 x : Nat) : Nat := if x < s0 then 0 else if x < s1 then 1 else if x < s2 then 2 else if x < s4 then 3 else if x < s5 then 4 else if x < s6 then 5 else 6
set_option maxRecDepth 100000 in
set_option maxHeartbeats 8000000 in
theorem implCopyNode (n : Nd) (A : Ads) (w : World) (hz : NdSz n 1048576) (ha : NodeAt w A n) :
    Calls Tryz.prog 75 #[ndv n A] w fun e w' => ∃ A' G' c', e = .returned (ndv n A') ∧ NO w' w.heap.size n A' G' c' ∧ Below w.heap.size w w' := by
  have HZ := hide hz
  have HA := hide ha
  have hlo := hz.o
  have hls := hz.s
  have hlr := hz.r
  clear hz ha
  go_enter Tryz.func75, Tryz.ntmps75
  go_upto_region 1 with fail
  refine wp_at (fun W0 hW => ?_)
  obtain ⟨e1, e2, e3⟩ := allocsE2 w (.cells (ndc n A) 50) (.cells zc9 50)
  rw [← hW] at e1 e2 e3
  have HN_W0 := hide e1
  have HR_W0 := hide e2
  have HB_W0 := hide e3
  have hsz0 := obj_lt e2
  clear hW e1 e2 e3
  obtain ⟨c0, c1, c2, c3, c4, c5, c6, c7, c8⟩ := nine (unhide HN_W0)
  have hnl_W0 := obj_lt (unhide HN_W0)
  have f_W1 := obj_free (unhide HN_W0) 2
  go_wp2_with fail
  refine (cloneInts A.k A.ck n.kids W0 (Nat.le_trans (unhide HZ).k (by omega)) (GR.At.below (unhide HA).k (unhide HB_W0))).mono ?_
  rintro e y ⟨vk, rfl, hrow, hby⟩
  obtain ⟨ak, ck, gk, rfl, hWk, hgk, _⟩ := GR.W.of_own (enc := encNum) encNum_length hrow
  clear hrow
  have HY_W1 := hide hby
  have hN1 := obj_step (unhide HN_W0) hby
  have f1 := obj_free hN1 2
  have hnl1 := obj_lt hN1
  obtain ⟨d0, d1, d2, d3, d4, d5, d6, d7, d8⟩ := nine hN1
  clear c0 c1 c2 c3 c4 c5 c6 c7 c8 hby f_W1
  go_upto_region 2 with fail
  refine wp_at (fun W1 hW => ?_)
  have HN_W1 : Hid (W1.heap[w.heap.size]? = some (.cells #[.int .i64 n.id, .int .i64 n.par, .slice ak n.kids.length ck, .int .i64 n.next, .slice A.p n.pu.length A.cp, .slice A.o n.out.length A.co, .slice A.s n.seen.length A.cs, .int .i64 n.old, .slice A.r n.reqs.length A.cr] 50 (0, 0))) := by rw [hW]; exact setN9 hN1
  have HR_W1 : Hid (W1.heap[w.heap.size + 1]? = some (.cells zc9 50 (0, 0))) := by rw [hW]; exact (Below.heap_setCell _ _ _ _ (show w.heap.size + 1 ≠ w.heap.size by omega)).trans (obj_step (unhide HR_W0) (unhide HY_W1))
  have HB_W1 : Hid (Below w.heap.size w W1) := by rw [hW]; exact belowN (Nat.le_refl _) ((unhide HB_W0).trans ((unhide HY_W1).mono (unhide HB_W0).size))
  have HK_W1 : Hid (KeepsL [w.heap.size] W0 W1) := by rw [hW]; exact keepsN (unhide HY_W1)
  have HV_W1 : Hid (KeepsL [w.heap.size] y W1) := by rw [hW]; exact KeepsL.set _
  clear hW hN1 f1 hnl1 d0 d1 d2 d3 d4 d5 d6 d7 d8 HN_W0 HR_W0
  have HKW : Hid (GR.W encNum 1 W1 ak gk n.kids ∧ ∀ x ∈ fp gk n.kids, W0.heap.size ≤ x ∧ x < W1.heap.size) := ⟨hWk.keeps (unhide HV_W1) (fun x hx => by have := (hgk x hx).1; simp; omega), fun x hx => ⟨(hgk x hx).1, Nat.lt_of_lt_of_le (hgk x hx).2 (unhide HV_W1).size⟩⟩
  clear hWk hgk
  obtain ⟨c0, c1, c2, c3, c4, c5, c6, c7, c8⟩ := nine (unhide HN_W1)
  have hnl_W1 := obj_lt (unhide HN_W1)
  have f_W2 := obj_free (unhide HN_W1) 4
  go_wp2_with fail
  refine (implCopy A.p A.cp n.pu W1 (unhide HZ).p (unhide HZ).pk (GR.At.below (unhide HA).p (unhide HB_W1))).mono ?_
  rintro e y ⟨ap, cp, gp, hgp, rfl, hWp, hby⟩
  have HY_W2 := hide hby
  have hN1 := obj_step (unhide HN_W1) hby
  have f1 := obj_free hN1 4
  have hnl1 := obj_lt hN1
  obtain ⟨d0, d1, d2, d3, d4, d5, d6, d7, d8⟩ := nine hN1
  clear c0 c1 c2 c3 c4 c5 c6 c7 c8 hby f_W2
  go_upto_region 3 with fail
  refine wp_at (fun W2 hW => ?_)
  have HN_W2 : Hid (W2.heap[w.heap.size]? = some (.cells #[.int .i64 n.id, .int .i64 n.par, .slice ak n.kids.length ck, .int .i64 n.next, .slice ap n.pu.length cp, .slice A.o n.out.length A.co, .slice A.s n.seen.length A.cs, .int .i64 n.old, .slice A.r n.reqs.length A.cr] 50 (0, 0))) := by rw [hW]; exact setN9 hN1
  have HR_W2 : Hid (W2.heap[w.heap.size + 1]? = some (.cells zc9 50 (0, 0))) := by rw [hW]; exact (Below.heap_setCell _ _ _ _ (show w.heap.size + 1 ≠ w.heap.size by omega)).trans (obj_step (unhide HR_W1) (unhide HY_W2))
  have HB_W2 : Hid (Below w.heap.size w W2) := by rw [hW]; exact belowN (Nat.le_refl _) ((unhide HB_W1).trans ((unhide HY_W2).mono (unhide HB_W1).size))
  have HK_W2 : Hid (KeepsL [w.heap.size] W1 W2) := by rw [hW]; exact keepsN (unhide HY_W2)
  have HV_W2 : Hid (KeepsL [w.heap.size] y W2) := by rw [hW]; exact KeepsL.set _
  clear hW hN1 f1 hnl1 d0 d1 d2 d3 d4 d5 d6 d7 d8 HN_W1 HR_W1
  have HPW : Hid (GR.W encP 4 W2 ap gp n.pu ∧ ∀ x ∈ fp gp n.pu, W1.heap.size ≤ x ∧ x < W2.heap.size) := by
    have hgy := fpW_lt (show GR.W encP 4 y ap gp n.pu from hWp)
    have hs0 := (unhide HK_W1).size
    refine ⟨GR.W.keeps (show GR.W encP 4 y ap gp n.pu from hWp) (unhide HV_W2) (fun x hx => by have := (of_fp hx).1; simp; omega), fun x hx => ⟨by have := (of_fp hx).1; omega, Nat.lt_of_lt_of_le (hgy x hx) (unhide HV_W2).size⟩⟩
  clear hWp hgp
  obtain ⟨c0, c1, c2, c3, c4, c5, c6, c7, c8⟩ := nine (unhide HN_W2)
  have hnl_W2 := obj_lt (unhide HN_W2)
  have f_W3 := obj_free (unhide HN_W2) 5
  go_wp2_with fail
  refine (cloneSnt A.o A.co n.out W2 (Nat.le_trans (unhide HZ).o (by omega)) (flatSnt_one _) (GR.At.below (unhide HA).o (unhide HB_W2))).mono ?_
  rintro e y ⟨vo, rfl, hrow, hby⟩
  obtain ⟨ao, co, rfl, _⟩ := GR.own_at (enc := encSnt) (sz := 4) encSnt_length hrow
  have HY_W3 := hide hby
  have hN1 := obj_step (unhide HN_W2) hby
  have f1 := obj_free hN1 5
  have hnl1 := obj_lt hN1
  obtain ⟨d0, d1, d2, d3, d4, d5, d6, d7, d8⟩ := nine hN1
  clear c0 c1 c2 c3 c4 c5 c6 c7 c8 hby f_W3
  go_upto_region 4 with fail
  refine wp_at (fun W3 hW => ?_)
  have HN_W3 : Hid (W3.heap[w.heap.size]? = some (.cells #[.int .i64 n.id, .int .i64 n.par, .slice ak n.kids.length ck, .int .i64 n.next, .slice ap n.pu.length cp, .slice ao n.out.length co, .slice A.s n.seen.length A.cs, .int .i64 n.old, .slice A.r n.reqs.length A.cr] 50 (0, 0))) := by rw [hW]; exact setN9 hN1
  have HR_W3 : Hid (W3.heap[w.heap.size + 1]? = some (.cells zc9 50 (0, 0))) := by rw [hW]; exact (Below.heap_setCell _ _ _ _ (show w.heap.size + 1 ≠ w.heap.size by omega)).trans (obj_step (unhide HR_W2) (unhide HY_W3))
  have HB_W3 : Hid (Below w.heap.size w W3) := by rw [hW]; exact belowN (Nat.le_refl _) ((unhide HB_W2).trans ((unhide HY_W3).mono (unhide HB_W2).size))
  have HK_W3 : Hid (KeepsL [w.heap.size] W2 W3) := by rw [hW]; exact keepsN (unhide HY_W3)
  have HV_W3 : Hid (KeepsL [w.heap.size] y W3) := by rw [hW]; exact KeepsL.set _
  clear hW hN1 f1 hnl1 d0 d1 d2 d3 d4 d5 d6 d7 d8 HN_W2 HR_W2
  have HOW : Hid (W3.ownsRow W2.heap.size 105 4 (.slice ao n.out.length co) n.out.length (GR.flat encSnt n.out)) := own_keepsL hrow (unhide HV_W3) (fun x hx => by have : x = w.heap.size := (by simpa using hx); omega)
  clear hrow
  have hnl_W3 := obj_lt (unhide HN_W3)
  obtain ⟨c0, c1, c2, c3, c4, c5, c6, c7, c8⟩ := nine (unhide HN_W3)
  go_wp2_with fail
  go_loopw [21] (fun i wr => ∃ k : Nat, k ≤ n.out.length ∧ i = .int .i64 k ∧ Below W3.heap.size W3 wr) (fun i _ => n.out.length - (intOf i).toNat)
  case atStart => exact ⟨0, Nat.zero_le _, rfl, Below.refl _ _⟩
  case' round =>
    obtain ⟨k, hk, rfl, hbw⟩ := hrel
    clear c0 c1 c2 c3 c4 c5 c6 c7 c8
    by_cases hlt : k < n.out.length
    case' pos =>
      have hltI : (k : Int) < (n.out.length : Int) := by omega
      have HBW := hide hbw
      have HNr := hide (obj_step (unhide HN_W3) hbw)
      obtain ⟨g, rest, e0, hBg, hgb⟩ := own_blk (GR.own_below (unhide HOW) hbw) (show 0 < n.out.length by omega)
      have HGB := hide hgb
      have q2 : wr.cell? ⟨g, k * 4 + 2, none⟩ = some (.string n.out[k].k) := own_cell encSnt_length hgb k hlt 2 (by omega)
      have hkk : n.out[k].k.size ≤ 281474976710656 := Nat.le_trans ((unhide HZ).ok _ (List.getElem_mem hlt)) (by omega)
      have HCL := hide (fun w1 => clone n.out[k].k w1 hkk)
      obtain ⟨c0, c1, c2, c3, c4, c5, c6, c7, c8⟩ := nine (unhide HNr)
      have hnr := obj_lt (unhide HNr)
      have hgr := obj_lt hgb
      clear hbw hgb hkk
      subst e0
      generalize n.out[k].k = kx at *
      go_upto_region 7 with fail
      have y5 := cell_regrown c5
      have z2 := cell_regrown q2
      clear c0 c1 c2 c3 c4 c5 c6 c7 c8
      refine wp_region_mixE 12 (by kernel_rfl) ?_
      show wpMixE _ _ _ _ _ 13 (Array.replicate 13 false) _ _
      refine wpMixE_take 0 20 rfl (by kernel_rfl) (by kernel_rfl) (by kernel_rfl) (by kernel_rfl) (by kernel_rfl) (fun _ _ _ _ h => h) (fun K hK => ?_)
      go_simp
      first
        | (refine hK _ ?_; clear hK K)
        | (apply Exists.intro
           refine ⟨fun _ => ?_, hK _ ?_⟩
           (fail)
           clear hK K)
      refine wpMixE_take 1 20 rfl (by kernel_rfl) (by kernel_rfl) (by kernel_rfl) (by kernel_rfl) (by kernel_rfl) (fun _ _ _ _ h => h) (fun K hK => ?_)
      go_simp
      first
        | (refine hK _ ?_; clear hK K)
        | (apply Exists.intro
           refine ⟨fun _ => ?_, hK _ ?_⟩
           (fail)
           clear hK K)
      refine wpMixE_take 2 20 rfl (by kernel_rfl) (by kernel_rfl) (by kernel_rfl) (by kernel_rfl) (by kernel_rfl) (fun _ _ _ _ h => h) (fun K hK => ?_)
      go_simp
      first
        | (refine hK _ ?_; clear hK K)
        | (apply Exists.intro
           refine ⟨fun _ => ?_, hK _ ?_⟩
           (fail)
           clear hK K)
      refine wpMixE_take 3 20 rfl (by kernel_rfl) (by kernel_rfl) (by kernel_rfl) (by kernel_rfl) (by kernel_rfl) (fun _ _ _ _ h => h) (fun K hK => ?_)
      go_simp
      first
        | (refine hK _ ?_; clear hK K)
        | (apply Exists.intro
           refine ⟨fun _ => ?_, hK _ ?_⟩
           (fail)
           clear hK K)
      refine wpMixE_take 4 20 rfl (by kernel_rfl) (by kernel_rfl) (by kernel_rfl) (by kernel_rfl) (by kernel_rfl) (fun _ _ _ _ h => h) (fun K hK => ?_)
      go_simp
      first
        | (refine hK _ ?_; clear hK K)
        | (apply Exists.intro
           refine ⟨fun _ => ?_, hK _ ?_⟩
           (fail)
           clear hK K)
      refine wpMixE_take 5 20 rfl (by kernel_rfl) (by kernel_rfl) (by kernel_rfl) (by kernel_rfl) (by kernel_rfl) (fun _ _ _ _ h => h) (fun K hK => ?_)
      go_simp
      first
        | (refine hK _ ?_; clear hK K)
        | (apply Exists.intro
           refine ⟨fun _ => ?_, hK _ ?_⟩
           (fail)
           clear hK K)
      refine wpMixE_take 6 20 rfl (by kernel_rfl) (by kernel_rfl) (by kernel_rfl) (by kernel_rfl) (by kernel_rfl) (fun _ _ _ _ h => h) (fun K hK => ?_)
      go_simp
      first
        | (refine hK _ ?_; clear hK K)
        | (apply Exists.intro
           refine ⟨fun _ => ?_, hK _ ?_⟩
           (fail)
           clear hK K)
      refine wpMixE_take 7 20 rfl (by kernel_rfl) (by kernel_rfl) (by kernel_rfl) (by kernel_rfl) (by kernel_rfl) (fun _ _ _ _ h => h) (fun K hK => ?_)
      go_simp
      first
        | (refine hK _ ?_; clear hK K)
        | (apply Exists.intro
           refine ⟨fun _ => ?_, hK _ ?_⟩
           (fail)
           clear hK K)
      refine wpMixE_take 8 20 rfl (by kernel_rfl) (by kernel_rfl) (by kernel_rfl) (by kernel_rfl) (by kernel_rfl) (fun _ _ _ _ h => h) (fun K hK => ?_)
      go_simp
      first
        | (refine hK _ ?_; clear hK K)
        | (apply Exists.intro
           refine ⟨fun _ => ?_, hK _ ?_⟩
           (fail)
           clear hK K)
      clear y5 z2
      refine wpMixE_one 9 rfl (by kernel_rfl) (by rfl) (fun x hx => ?_)
      go_simp
      refine (unhide HCL x).mono ?_
      rintro e y ⟨rfl, hby⟩
      refine ⟨hby, ?_⟩
      have HY := hide (Ge.trans hx hby)
      clear hx hby HCL
      refine wpMixE_take 10 20 rfl (by kernel_rfl) (by kernel_rfl) (by kernel_rfl) (by kernel_rfl) (by kernel_rfl) (fun _ _ _ _ h => h) (fun K hK => ?_)
      go_simp
      first
        | (refine hK _ ?_; clear hK K)
        | (apply Exists.intro
           refine ⟨fun _ => ?_, hK _ ?_⟩
           (fail)
           clear hK K)
      refine wpMixE_take 11 20 rfl (by kernel_rfl) (by kernel_rfl) (by kernel_rfl) (by kernel_rfl) (by kernel_rfl) (fun _ _ _ _ h => h) (fun K hK => ?_)
      go_simp
      first
        | (refine hK _ ?_; clear hK K)
        | (apply Exists.intro
           refine ⟨fun _ => ?_, hK _ ?_⟩
           (fail)
           clear hK K)
      refine wpMixE_leave (by kernel_rfl) (fun x3 hx3 => ?_)
      have HX3 := hide (Ge.trans (unhide HY) hx3)
      have hgb3 := obj_step (unhide HGB) (unhide HX3)
      have q3 : x3.cell? ⟨g, k * 4 + 2, none⟩ = some (.string kx) := ((unhide HX3).cell (p := ⟨g, k * 4 + 2, none⟩) hgr).trans q2
      have f3 := obj_free hgb3 (k * 4 + 2)
      have HSM := hide (below_same hgb3 q3)
      clear hx3 hgb3 q2
      refine wpAny_one 12 rfl (by kernel_rfl) (by rfl) ?_
      go_simp
      refine wpAny_done (by kernel_rfl) ?_
      go_simp
      clear q3 f3
      go_wp2_with fail
      go_roundw
      case rel => exact ⟨k + 1, by omega, by go_num, (unhide HBW).trans ((Ge.trans (unhide HX3) (unhide HSM)).mono (unhide HBW).size)⟩
      case measure => simp [intOf]; omega
    have hke : k = n.out.length := by omega
    subst hke
    have hnlt : decide ((n.out.length : Int) < (n.out.length : Int)) = false := by simp
    have HBW := hide hbw
    clear hbw
    go_upto_region 9 with fail
    refine wp_at (fun W4 hWW => ?_)
    subst hWW
    have HN_W4 := hide (obj_step (unhide HN_W3) (unhide HBW))
    have HR_W4 := hide (obj_step (unhide HR_W3) (unhide HBW))
    have HB_W4 := hide ((unhide HB_W3).trans ((unhide HBW).mono (unhide HB_W3).size))
    have HK_W4 : Hid (KeepsL [w.heap.size] W3 W4) := KeepsL.of_below (unhide HBW)
    clear HBW hnlt HN_W3 HR_W3 hlt
  obtain ⟨T, hT, hAt, hT1, hTr⟩ := seen_row (unhide HA).s
  have HTR := hide hTr
  have HT := hide hT
  have HC5 := cloneR3 A.s A.cs T W4 (by rw [hT]; omega) hT1 (GR.At.below hAt (unhide HB_W4))
  rw [hT] at HC5
  have HCS := hide HC5
  clear hTr hAt hT1 HC5 hT
  obtain ⟨c0, c1, c2, c3, c4, c5, c6, c7, c8⟩ := nine (unhide HN_W4)
  have hnl_W4 := obj_lt (unhide HN_W4)
  have f_W5 := obj_free (unhide HN_W4) 6
  go_wp2_with fail
  refine (unhide HCS).mono ?_
  rintro e y ⟨vs, rfl, hrow, hby⟩
  have hrow2 := hrow
  rw [← unhide HT] at hrow2
  obtain ⟨as2, cs, hvs, _⟩ := GR.own_at (enc := encR3) (sz := 3) (l := T) encR3_length hrow2
  rw [unhide HT] at hvs
  subst hvs
  clear hrow2 HCS
  have HY_W5 := hide hby
  have hN1 := obj_step (unhide HN_W4) hby
  have f1 := obj_free hN1 6
  have hnl1 := obj_lt hN1
  obtain ⟨d0, d1, d2, d3, d4, d5, d6, d7, d8⟩ := nine hN1
  clear c0 c1 c2 c3 c4 c5 c6 c7 c8 hby f_W5
  go_upto_region 10 with fail
  refine wp_at (fun W5 hW => ?_)
  have HN_W5 : Hid (W5.heap[w.heap.size]? = some (.cells #[.int .i64 n.id, .int .i64 n.par, .slice ak n.kids.length ck, .int .i64 n.next, .slice ap n.pu.length cp, .slice ao n.out.length co, .slice as2 n.seen.length cs, .int .i64 n.old, .slice A.r n.reqs.length A.cr] 50 (0, 0))) := by rw [hW]; exact setN9 hN1
  have HR_W5 : Hid (W5.heap[w.heap.size + 1]? = some (.cells zc9 50 (0, 0))) := by rw [hW]; exact (Below.heap_setCell _ _ _ _ (show w.heap.size + 1 ≠ w.heap.size by omega)).trans (obj_step (unhide HR_W4) (unhide HY_W5))
  have HB_W5 : Hid (Below w.heap.size w W5) := by rw [hW]; exact belowN (Nat.le_refl _) ((unhide HB_W4).trans ((unhide HY_W5).mono (unhide HB_W4).size))
  have HK_W5 : Hid (KeepsL [w.heap.size] W4 W5) := by rw [hW]; exact keepsN (unhide HY_W5)
  have HV_W5 : Hid (KeepsL [w.heap.size] y W5) := by rw [hW]; exact KeepsL.set _
  clear hW hN1 f1 hnl1 d0 d1 d2 d3 d4 d5 d6 d7 d8 HN_W4 HR_W4
  have HSW : Hid (W5.ownsRow W4.heap.size 101 3 (.slice as2 n.seen.length cs) n.seen.length (GR.flat encR3 T)) := own_keepsL hrow (unhide HV_W5) (fun x hx => by have : x = w.heap.size := (by simpa using hx); omega)
  clear hrow
  have hnl_W5 := obj_lt (unhide HN_W5)
  have hR_W5 := obj_lt (unhide HR_W5)
  have hk45 := (unhide HK_W5).size
  have hW4b := (unhide HB_W4).size
  obtain ⟨c0, c1, c2, c3, c4, c5, c6, c7, c8⟩ := nine (unhide HN_W5)
  go_wp2_with fail
  go_loopw [44] (fun i wr => ∃ (k : Nat) (T2 : List R3) (I : Nat → Nat), k ≤ n.seen.length ∧ i = .int .i64 k ∧ SC w W5 wr W4.heap.size k n.seen T T2 I as2 cs) (fun i _ => n.seen.length - (intOf i).toNat)
  case atStart => exact ⟨0, T, _, Nat.zero_le _, rfl, SC.start (unhide HT) (unhide HSW)⟩
  case' round =>
    obtain ⟨k, T2, I, hk, rfl, hsc⟩ := hrel
    clear c0 c1 c2 c3 c4 c5 c6 c7 c8
    have HSC := hide hsc
    have HBL := hide (hsc.below (Nat.le_refl W4.heap.size) hk45)
    have hN4 : w.heap.size + 1 < W4.heap.size := by have := (unhide HK_W1).size; have := (unhide HK_W2).size; have := (unhide HK_W3).size; have := (unhide HK_W4).size; omega
    have HNr : Hid (wr.heap[w.heap.size]? = some (.cells #[.int .i64 n.id, .int .i64 n.par, .slice ak n.kids.length ck, .int .i64 n.next, .slice ap n.pu.length cp, .slice ao n.out.length co, .slice as2 n.seen.length cs, .int .i64 n.old, .slice A.r n.reqs.length A.cr] 50 (0, 0))) := ((unhide HBL).block _ (by omega)).trans (unhide HN_W5)
    have HRr : Hid (wr.heap[w.heap.size + 1]? = some (.cells zc9 50 (0, 0))) := ((unhide HBL).block _ (by omega)).trans (unhide HR_W5)
    have HBr := hide ((unhide HB_W5).trans ((unhide HBL).mono hW4b))
    clear hsc
    by_cases hlt : k < n.seen.length
    case' pos =>
      have hltI : (k : Int) < (n.seen.length : Int) := by omega
      obtain ⟨b, cc, hTk, hIb⟩ := unhide HTR k hlt
      have hk2 : k < T2.length := by rw [(unhide HSC).len]; exact hlt
      have ho2 := (unhide HSC).own
      rw [← (unhide HSC).len] at ho2
      obtain ⟨g, rest, e0, hBg, hgb⟩ := own_blk ho2 (show 0 < T2.length by omega)
      have hT2k : T2[k] = ⟨n.seen[k].f, n.seen[k].l, .slice b n.seen[k].ids.length cc⟩ := by
        have := (unhide HSC).up k (Nat.le_refl _)
        rw [List.getElem?_eq_getElem hk2, hTk] at this
        exact Option.some.inj this
      have q2 : wr.cell? ⟨g, k * 3 + 2, none⟩ = some (.slice b n.seen[k].ids.length cc) := by
        have := own_cell encR3_length hgb k hk2 2 (by omega)
        rw [hT2k] at this
        exact this
      have hg5 : g < W5.heap.size := ((unhide HSW).lt g (by rw [e0]; rfl)).2
      have HCL := hide (fun w1 (h1 : Below wr.heap.size wr w1) => cloneInts b cc n.seen[k].ids w1 (Nat.le_trans ((unhide HZ).sk _ (List.getElem_mem hlt)) (by omega)) (GR.At.below hIb ((unhide HBr).trans (h1.mono (unhide HBr).size))))
      have HGB := hide hgb
      have HNX := hide (fun x b2 c2 g2 hx hi hl => SC.next (x := x) (b := b2) (cc := c2) (gi := g2) (unhide HSC) hlt e0 ⟨b, cc, hTk⟩ hx hg5 hi hl)
      obtain ⟨c0, c1, c2, c3, c4, c5, c6, c7, c8⟩ := nine (unhide HNr)
      have hnr := obj_lt (unhide HNr)
      have hgr := obj_lt hgb
      clear hTk hIb ho2 hgb hT2k
      subst e0
      generalize n.seen[k].ids = ids at *
      go_upto_region 13 with fail
      have y6 := cell_regrown c6
      have z2 := cell_regrown q2
      clear c0 c1 c2 c3 c4 c5 c6 c7 c8
      refine wp_region_mixE 12 (by kernel_rfl) ?_
      show wpMixE _ _ _ _ _ 13 (Array.replicate 13 false) _ _
      refine wpMixE_take 0 20 rfl (by kernel_rfl) (by kernel_rfl) (by kernel_rfl) (by kernel_rfl) (by kernel_rfl) (fun _ _ _ _ h => h) (fun K hK => ?_)
      go_simp
      first
        | (refine hK _ ?_; clear hK K)
        | (apply Exists.intro
           refine ⟨fun _ => ?_, hK _ ?_⟩
           (fail)
           clear hK K)
      refine wpMixE_take 1 20 rfl (by kernel_rfl) (by kernel_rfl) (by kernel_rfl) (by kernel_rfl) (by kernel_rfl) (fun _ _ _ _ h => h) (fun K hK => ?_)
      go_simp
      first
        | (refine hK _ ?_; clear hK K)
        | (apply Exists.intro
           refine ⟨fun _ => ?_, hK _ ?_⟩
           (fail)
           clear hK K)
      refine wpMixE_take 2 20 rfl (by kernel_rfl) (by kernel_rfl) (by kernel_rfl) (by kernel_rfl) (by kernel_rfl) (fun _ _ _ _ h => h) (fun K hK => ?_)
      go_simp
      first
        | (refine hK _ ?_; clear hK K)
        | (apply Exists.intro
           refine ⟨fun _ => ?_, hK _ ?_⟩
           (fail)
           clear hK K)
      refine wpMixE_take 3 20 rfl (by kernel_rfl) (by kernel_rfl) (by kernel_rfl) (by kernel_rfl) (by kernel_rfl) (fun _ _ _ _ h => h) (fun K hK => ?_)
      go_simp
      first
        | (refine hK _ ?_; clear hK K)
        | (apply Exists.intro
           refine ⟨fun _ => ?_, hK _ ?_⟩
           (fail)
           clear hK K)
      refine wpMixE_take 4 20 rfl (by kernel_rfl) (by kernel_rfl) (by kernel_rfl) (by kernel_rfl) (by kernel_rfl) (fun _ _ _ _ h => h) (fun K hK => ?_)
      go_simp
      first
        | (refine hK _ ?_; clear hK K)
        | (apply Exists.intro
           refine ⟨fun _ => ?_, hK _ ?_⟩
           (fail)
           clear hK K)
      refine wpMixE_take 5 20 rfl (by kernel_rfl) (by kernel_rfl) (by kernel_rfl) (by kernel_rfl) (by kernel_rfl) (fun _ _ _ _ h => h) (fun K hK => ?_)
      go_simp
      first
        | (refine hK _ ?_; clear hK K)
        | (apply Exists.intro
           refine ⟨fun _ => ?_, hK _ ?_⟩
           (fail)
           clear hK K)
      refine wpMixE_take 6 20 rfl (by kernel_rfl) (by kernel_rfl) (by kernel_rfl) (by kernel_rfl) (by kernel_rfl) (fun _ _ _ _ h => h) (fun K hK => ?_)
      go_simp
      first
        | (refine hK _ ?_; clear hK K)
        | (apply Exists.intro
           refine ⟨fun _ => ?_, hK _ ?_⟩
           (fail)
           clear hK K)
      refine wpMixE_take 7 20 rfl (by kernel_rfl) (by kernel_rfl) (by kernel_rfl) (by kernel_rfl) (by kernel_rfl) (fun _ _ _ _ h => h) (fun K hK => ?_)
      go_simp
      first
        | (refine hK _ ?_; clear hK K)
        | (apply Exists.intro
           refine ⟨fun _ => ?_, hK _ ?_⟩
           (fail)
           clear hK K)
      refine wpMixE_take 8 20 rfl (by kernel_rfl) (by kernel_rfl) (by kernel_rfl) (by kernel_rfl) (by kernel_rfl) (fun _ _ _ _ h => h) (fun K hK => ?_)
      go_simp
      first
        | (refine hK _ ?_; clear hK K)
        | (apply Exists.intro
           refine ⟨fun _ => ?_, hK _ ?_⟩
           (fail)
           clear hK K)
      clear y6 z2
      refine wpMixE_one 9 rfl (by kernel_rfl) (by rfl) (fun x hx => ?_)
      go_simp
      refine (unhide HCL x hx).mono ?_
      rintro e y ⟨v2, rfl, hrow, hby⟩
      refine ⟨hby, ?_⟩
      obtain ⟨b2, c2, g2, rfl, hW2, hg2, _⟩ := GR.W.of_own (enc := encNum) encNum_length hrow
      have HY := hide (Ge.trans hx hby)
      have HWI := hide (And.intro hW2 (fun z (hz : z ∈ fp g2 ids) => And.intro (Nat.le_trans hx.size (hg2 z hz).1) (hg2 z hz).2))
      clear hx hby HCL hrow hW2 hg2
      refine wpMixE_take 10 20 rfl (by kernel_rfl) (by kernel_rfl) (by kernel_rfl) (by kernel_rfl) (by kernel_rfl) (fun _ _ _ _ h => h) (fun K hK => ?_)
      go_simp
      first
        | (refine hK _ ?_; clear hK K)
        | (apply Exists.intro
           refine ⟨fun _ => ?_, hK _ ?_⟩
           (fail)
           clear hK K)
      refine wpMixE_take 11 20 rfl (by kernel_rfl) (by kernel_rfl) (by kernel_rfl) (by kernel_rfl) (by kernel_rfl) (fun _ _ _ _ h => h) (fun K hK => ?_)
      go_simp
      first
        | (refine hK _ ?_; clear hK K)
        | (apply Exists.intro
           refine ⟨fun _ => ?_, hK _ ?_⟩
           (fail)
           clear hK K)
      refine wpMixE_leave (by kernel_rfl) (fun x3 hx3 => ?_)
      have HX3 := hide (Ge.trans (unhide HY) hx3)
      have HRL := hide (unhide HNX x3 b2 c2 g2 (unhide HX3) ((unhide HWI).1.below hx3) (fun z hz => ⟨((unhide HWI).2 z hz).1, Nat.lt_of_lt_of_le ((unhide HWI).2 z hz).2 hx3.size⟩))
      have hgb3 := obj_step (unhide HGB) (unhide HX3)
      have q3 : x3.cell? ⟨g, k * 3 + 2, none⟩ = some (.slice b ids.length cc) := ((unhide HX3).cell (p := ⟨g, k * 3 + 2, none⟩) hgr).trans q2
      have f3 := obj_free hgb3 (k * 3 + 2)
      clear hx3 hgb3 q2 HNX
      refine wpAny_one 12 rfl (by kernel_rfl) (by rfl) ?_
      go_simp
      refine wpAny_done (by kernel_rfl) ?_
      go_simp
      clear q3 f3
      go_wp2_with fail
      go_roundw
      case rel => exact ⟨k + 1, _, _, by omega, by go_num, unhide HRL⟩
      case measure => simp [intOf]; omega
    have hke : k = n.seen.length := by omega
    subst hke
    have hnlt : decide ((n.seen.length : Int) < (n.seen.length : Int)) = false := by simp
    go_upto_region 15 with fail
    refine wp_at (fun W6 hWW => ?_)
    subst hWW
    have HN_W6 := hide (unhide HNr)
    have HR_W6 := hide (unhide HRr)
    have HB_W6 := hide (unhide HBr)
    have HK_W6 := hide (unhide HBL)
    obtain ⟨gs, hsn⟩ := (unhide HSC).done
    obtain ⟨I6, hI6⟩ : ∃ J, J = I := ⟨I, rfl⟩
    rw [← hI6] at hsn
    have HSN := hide hsn
    clear hsn hI6 HSC HNr HRr HBr HBL hnlt HN_W5 HR_W5 hlt
  obtain ⟨c0, c1, c2, c3, c4, c5, c6, c7, c8⟩ := nine (unhide HN_W6)
  have hnl_W6 := obj_lt (unhide HN_W6)
  have f_W7 := obj_free (unhide HN_W6) 8
  go_wp2_with fail
  refine (cloneRq A.r A.cr n.reqs W6 (Nat.le_trans (unhide HZ).r (by omega)) (flatRq_one _) (GR.At.below (unhide HA).r (unhide HB_W6))).mono ?_
  rintro e y ⟨vr, rfl, hrow, hby⟩
  obtain ⟨ar, cr, rfl, _⟩ := GR.own_at (enc := encRq) (sz := 4) encRq_length hrow
  have HY_W7 := hide hby
  have hN1 := obj_step (unhide HN_W6) hby
  have f1 := obj_free hN1 8
  have hnl1 := obj_lt hN1
  obtain ⟨d0, d1, d2, d3, d4, d5, d6, d7, d8⟩ := nine hN1
  clear c0 c1 c2 c3 c4 c5 c6 c7 c8 hby f_W7
  go_upto_region 16 with fail
  refine wp_at (fun W7 hW => ?_)
  have HN_W7 : Hid (W7.heap[w.heap.size]? = some (.cells #[.int .i64 n.id, .int .i64 n.par, .slice ak n.kids.length ck, .int .i64 n.next, .slice ap n.pu.length cp, .slice ao n.out.length co, .slice as2 n.seen.length cs, .int .i64 n.old, .slice ar n.reqs.length cr] 50 (0, 0))) := by rw [hW]; exact setN9 hN1
  have HR_W7 : Hid (W7.heap[w.heap.size + 1]? = some (.cells zc9 50 (0, 0))) := by rw [hW]; exact (Below.heap_setCell _ _ _ _ (show w.heap.size + 1 ≠ w.heap.size by omega)).trans (obj_step (unhide HR_W6) (unhide HY_W7))
  have HB_W7 : Hid (Below w.heap.size w W7) := by rw [hW]; exact belowN (Nat.le_refl _) ((unhide HB_W6).trans ((unhide HY_W7).mono (unhide HB_W6).size))
  have HK_W7 : Hid (KeepsL [w.heap.size] W6 W7) := by rw [hW]; exact keepsN (unhide HY_W7)
  have HV_W7 : Hid (KeepsL [w.heap.size] y W7) := by rw [hW]; exact KeepsL.set _
  clear hW hN1 f1 hnl1 d0 d1 d2 d3 d4 d5 d6 d7 d8 HN_W6 HR_W6
  have HQW : Hid (W7.ownsRow W6.heap.size 108 4 (.slice ar n.reqs.length cr) n.reqs.length (GR.flat encRq n.reqs)) := own_keepsL hrow (unhide HV_W7) (fun x hx => by have : x = w.heap.size := (by simpa using hx); omega)
  clear hrow
  have hnl_W7 := obj_lt (unhide HN_W7)
  obtain ⟨c0, c1, c2, c3, c4, c5, c6, c7, c8⟩ := nine (unhide HN_W7)
  go_wp2_with fail
  go_loopw [67] (fun i wr => ∃ k : Nat, k ≤ n.reqs.length ∧ i = .int .i64 k ∧ Below W7.heap.size W7 wr) (fun i _ => n.reqs.length - (intOf i).toNat)
  case atStart => exact ⟨0, Nat.zero_le _, rfl, Below.refl _ _⟩
  case' round =>
    obtain ⟨k, hk, rfl, hbw⟩ := hrel
    clear c0 c1 c2 c3 c4 c5 c6 c7 c8
    by_cases hlt : k < n.reqs.length
    case' pos =>
      have hltI : (k : Int) < (n.reqs.length : Int) := by omega
      have HBW := hide hbw
      have HNr := hide (obj_step (unhide HN_W7) hbw)
      obtain ⟨g, rest, e0, hBg, hgb⟩ := own_blk (GR.own_below (unhide HQW) hbw) (show 0 < n.reqs.length by omega)
      have HGB := hide hgb
      have q2 : wr.cell? ⟨g, k * 4 + 1, none⟩ = some (.string n.reqs[k].k) := own_cell encRq_length hgb k hlt 1 (by omega)
      have hkk : n.reqs[k].k.size ≤ 281474976710656 := Nat.le_trans ((unhide HZ).rk _ (List.getElem_mem hlt)) (by omega)
      have HCL := hide (fun w1 => clone n.reqs[k].k w1 hkk)
      obtain ⟨c0, c1, c2, c3, c4, c5, c6, c7, c8⟩ := nine (unhide HNr)
      have hnr := obj_lt (unhide HNr)
      have hgr := obj_lt hgb
      clear hbw hgb hkk
      subst e0
      generalize n.reqs[k].k = kx at *
      go_upto_region 19 with fail
      have y5 := cell_regrown c8
      have z2 := cell_regrown q2
      clear c0 c1 c2 c3 c4 c5 c6 c7 c8
      refine wp_region_mixE 12 (by kernel_rfl) ?_
      show wpMixE _ _ _ _ _ 13 (Array.replicate 13 false) _ _
      refine wpMixE_take 0 20 rfl (by kernel_rfl) (by kernel_rfl) (by kernel_rfl) (by kernel_rfl) (by kernel_rfl) (fun _ _ _ _ h => h) (fun K hK => ?_)
      go_simp
      first
        | (refine hK _ ?_; clear hK K)
        | (apply Exists.intro
           refine ⟨fun _ => ?_, hK _ ?_⟩
           (fail)
           clear hK K)
      refine wpMixE_take 1 20 rfl (by kernel_rfl) (by kernel_rfl) (by kernel_rfl) (by kernel_rfl) (by kernel_rfl) (fun _ _ _ _ h => h) (fun K hK => ?_)
      go_simp
      first
        | (refine hK _ ?_; clear hK K)
        | (apply Exists.intro
           refine ⟨fun _ => ?_, hK _ ?_⟩
           (fail)
           clear hK K)
      refine wpMixE_take 2 20 rfl (by kernel_rfl) (by kernel_rfl) (by kernel_rfl) (by kernel_rfl) (by kernel_rfl) (fun _ _ _ _ h => h) (fun K hK => ?_)
      go_simp
      first
        | (refine hK _ ?_; clear hK K)
        | (apply Exists.intro
           refine ⟨fun _ => ?_, hK _ ?_⟩
           (fail)
           clear hK K)
      refine wpMixE_take 3 20 rfl (by kernel_rfl) (by kernel_rfl) (by kernel_rfl) (by kernel_rfl) (by kernel_rfl) (fun _ _ _ _ h => h) (fun K hK => ?_)
      go_simp
      first
        | (refine hK _ ?_; clear hK K)
        | (apply Exists.intro
           refine ⟨fun _ => ?_, hK _ ?_⟩
           (fail)
           clear hK K)
      refine wpMixE_take 4 20 rfl (by kernel_rfl) (by kernel_rfl) (by kernel_rfl) (by kernel_rfl) (by kernel_rfl) (fun _ _ _ _ h => h) (fun K hK => ?_)
      go_simp
      first
        | (refine hK _ ?_; clear hK K)
        | (apply Exists.intro
           refine ⟨fun _ => ?_, hK _ ?_⟩
           (fail)
           clear hK K)
      refine wpMixE_take 5 20 rfl (by kernel_rfl) (by kernel_rfl) (by kernel_rfl) (by kernel_rfl) (by kernel_rfl) (fun _ _ _ _ h => h) (fun K hK => ?_)
      go_simp
      first
        | (refine hK _ ?_; clear hK K)
        | (apply Exists.intro
           refine ⟨fun _ => ?_, hK _ ?_⟩
           (fail)
           clear hK K)
      refine wpMixE_take 6 20 rfl (by kernel_rfl) (by kernel_rfl) (by kernel_rfl) (by kernel_rfl) (by kernel_rfl) (fun _ _ _ _ h => h) (fun K hK => ?_)
      go_simp
      first
        | (refine hK _ ?_; clear hK K)
        | (apply Exists.intro
           refine ⟨fun _ => ?_, hK _ ?_⟩
           (fail)
           clear hK K)
      refine wpMixE_take 7 20 rfl (by kernel_rfl) (by kernel_rfl) (by kernel_rfl) (by kernel_rfl) (by kernel_rfl) (fun _ _ _ _ h => h) (fun K hK => ?_)
      go_simp
      first
        | (refine hK _ ?_; clear hK K)
        | (apply Exists.intro
           refine ⟨fun _ => ?_, hK _ ?_⟩
           (fail)
           clear hK K)
      refine wpMixE_take 8 20 rfl (by kernel_rfl) (by kernel_rfl) (by kernel_rfl) (by kernel_rfl) (by kernel_rfl) (fun _ _ _ _ h => h) (fun K hK => ?_)
      go_simp
      first
        | (refine hK _ ?_; clear hK K)
        | (apply Exists.intro
           refine ⟨fun _ => ?_, hK _ ?_⟩
           (fail)
           clear hK K)
      clear y5 z2
      refine wpMixE_one 9 rfl (by kernel_rfl) (by rfl) (fun x hx => ?_)
      go_simp
      refine (unhide HCL x).mono ?_
      rintro e y ⟨rfl, hby⟩
      refine ⟨hby, ?_⟩
      have HY := hide (Ge.trans hx hby)
      clear hx hby HCL
      refine wpMixE_take 10 20 rfl (by kernel_rfl) (by kernel_rfl) (by kernel_rfl) (by kernel_rfl) (by kernel_rfl) (fun _ _ _ _ h => h) (fun K hK => ?_)
      go_simp
      first
        | (refine hK _ ?_; clear hK K)
        | (apply Exists.intro
           refine ⟨fun _ => ?_, hK _ ?_⟩
           (fail)
           clear hK K)
      refine wpMixE_take 11 20 rfl (by kernel_rfl) (by kernel_rfl) (by kernel_rfl) (by kernel_rfl) (by kernel_rfl) (fun _ _ _ _ h => h) (fun K hK => ?_)
      go_simp
      first
        | (refine hK _ ?_; clear hK K)
        | (apply Exists.intro
           refine ⟨fun _ => ?_, hK _ ?_⟩
           (fail)
           clear hK K)
      refine wpMixE_leave (by kernel_rfl) (fun x3 hx3 => ?_)
      have HX3 := hide (Ge.trans (unhide HY) hx3)
      have hgb3 := obj_step (unhide HGB) (unhide HX3)
      have q3 : x3.cell? ⟨g, k * 4 + 1, none⟩ = some (.string kx) := ((unhide HX3).cell (p := ⟨g, k * 4 + 1, none⟩) hgr).trans q2
      have f3 := obj_free hgb3 (k * 4 + 1)
      have HSM := hide (below_same hgb3 q3)
      clear hx3 hgb3 q2
      refine wpAny_one 12 rfl (by kernel_rfl) (by rfl) ?_
      go_simp
      refine wpAny_done (by kernel_rfl) ?_
      go_simp
      clear q3 f3
      go_wp2_with fail
      go_roundw
      case rel => exact ⟨k + 1, by omega, by go_num, (unhide HBW).trans ((Ge.trans (unhide HX3) (unhide HSM)).mono (unhide HBW).size)⟩
      case measure => simp [intOf]; omega
    have hke : k = n.reqs.length := by omega
    subst hke
    have hnlt : decide ((n.reqs.length : Int) < (n.reqs.length : Int)) = false := by simp
    have HBW := hide hbw
    clear hbw
    go_upto_region 21 with fail
    refine wp_at (fun W8 hWW => ?_)
    subst hWW
    have HN_W8 := hide (obj_step (unhide HN_W7) (unhide HBW))
    have HR_W8 := hide (obj_step (unhide HR_W7) (unhide HBW))
    have HB_W8 := hide ((unhide HB_W7).trans ((unhide HBW).mono (unhide HB_W7).size))
    have HK_W8 : Hid (KeepsL [w.heap.size] W7 W8) := KeepsL.of_below (unhide HBW)
    clear HBW hnlt HN_W7 HR_W7 hlt
  obtain ⟨c0, c1, c2, c3, c4, c5, c6, c7, c8⟩ := nine (unhide HN_W8)
  obtain ⟨d0, d1, d2, d3, d4, d5, d6, d7, d8⟩ := nine (unhide HR_W8)
  have f0 := obj_free (unhide HR_W8) 0
  have f1 := obj_free (unhide HR_W8) 1
  have f2 := obj_free (unhide HR_W8) 2
  have f3 := obj_free (unhide HR_W8) 3
  have f4 := obj_free (unhide HR_W8) 4
  have f5 := obj_free (unhide HR_W8) 5
  have f6 := obj_free (unhide HR_W8) 6
  have f7 := obj_free (unhide HR_W8) 7
  have f8 := obj_free (unhide HR_W8) 8
  have hnl8 := obj_lt (unhide HN_W8)
  have hrl8 := obj_lt (unhide HR_W8)
  go_wp2_with fail
  refine bodyPost_atN (fun W' hW' => ?_)
  have e4 : W'.heap[w.heap.size + 1]? = some (.cells #[.int .i64 n.id, .int .i64 n.par, .slice ak n.kids.length ck, .int .i64 n.next, .slice ap n.pu.length cp, .slice ao n.out.length co, .slice as2 n.seen.length cs, .int .i64 n.old, .slice ar n.reqs.length cr] 50 (0, 0)) := by
    rw [hW']
    exact GR.setW_blk [.int .i64 n.id, .int .i64 n.par, .slice ak n.kids.length ck, .int .i64 n.next, .slice ap n.pu.length cp, .slice ao n.out.length co, .slice as2 n.seen.length cs, .int .i64 n.old, .slice ar n.reqs.length cr] (o := 0) (xs := [.int .i64 0, .int .i64 0, .slice none 0 0, .int .i64 0, .slice none 0 0, .slice none 0 0, .slice none 0 0, .int .i64 0, .slice none 0 0]) (unhide HR_W8)
  have hso : ∀ x, x ≠ w.heap.size + 1 → W'.heap[x]? = W8.heap[x]? := fun x hx => by
    rw [hW']
    exact GR.setW_other hx [.int .i64 n.id, .int .i64 n.par, .slice ak n.kids.length ck, .int .i64 n.next, .slice ap n.pu.length cp, .slice ao n.out.length co, .slice as2 n.seen.length cs, .int .i64 n.old, .slice ar n.reqs.length cr] (o := 0)
  have hsz : W8.heap.size = W'.heap.size := by rw [hW']; simp [World.setCell]
  have HBE : Hid (Below w.heap.size w W') := by
    rw [hW']
    exact GR.setW_below (by omega) [.int .i64 n.id, .int .i64 n.par, .slice ak n.kids.length ck, .int .i64 n.next, .slice ap n.pu.length cp, .slice ao n.out.length co, .slice as2 n.seen.length cs, .int .i64 n.old, .slice ar n.reqs.length cr] (o := 0) (unhide HB_W8)
  clear hW' c0 c1 c2 c3 c4 c5 c6 c7 c8 d0 d1 d2 d3 d4 d5 d6 d7 d8 f0 f1 f2 f3 f4 f5 f6 f7 f8
  obtain ⟨c0, c1, c2, c3, c4, c5, c6, c7, c8⟩ := nine e4
  have k1 := (unhide HK_W2).size
  have k2 := (unhide HK_W3).size
  have k3 := (unhide HK_W4).size
  have k4 := (unhide HK_W5).size
  have k5 := (unhide HK_W6).size
  have k6 := (unhide HK_W7).size
  have k7 := (unhide HK_W8).size
  have k0 := (unhide HK_W1).size
  have b8 : ∀ x, w.heap.size + 1 < x → x < W7.heap.size → W'.heap[x]? = W7.heap[x]? := fun x h1 h2 => (hso x (by omega)).trans ((unhide HK_W8).block x h2 (by simp; omega))
  have b6 : ∀ x, w.heap.size + 1 < x → x < W6.heap.size → W'.heap[x]? = W6.heap[x]? := fun x h1 h2 => (b8 x h1 (by omega)).trans ((unhide HK_W7).block x h2 (by simp; omega))
  have b4 : ∀ x, w.heap.size + 1 < x → x < W4.heap.size → W'.heap[x]? = W4.heap[x]? := fun x h1 h2 => ((b6 x h1 (by omega)).trans ((unhide HK_W6).block x h2)).trans ((unhide HK_W5).block x h2 (by simp; omega))
  have b3 : ∀ x, w.heap.size + 1 < x → x < W3.heap.size → W'.heap[x]? = W3.heap[x]? := fun x h1 h2 => (b4 x h1 (by omega)).trans ((unhide HK_W4).block x h2 (by simp; omega))
  have b2 : ∀ x, w.heap.size + 1 < x → x < W2.heap.size → W'.heap[x]? = W2.heap[x]? := fun x h1 h2 => (b3 x h1 (by omega)).trans ((unhide HK_W3).block x h2 (by simp; omega))
  have b1 : ∀ x, w.heap.size + 1 < x → x < W1.heap.size → W'.heap[x]? = W1.heap[x]? := fun x h1 h2 => (b2 x h1 (by omega)).trans ((unhide HK_W2).block x h2 (by simp; omega))
  have oS := (unhide HSW).lt
  have oO := (unhide HOW).lt
  have oQ := (unhide HQW).lt
  obtain ⟨sw, sg, si, snd⟩ := unhide HSN
  have HNO : Hid (NO W' w.heap.size n ⟨ak, ap, ao, as2, ar, ck, cp, co, cs, cr⟩ ⟨gk, gp, 0, gs, 0, I6⟩ (timeC W0.heap.size W1.heap.size W2.heap.size W4.heap.size W5.heap.size W6.heap.size)) := by
    refine ⟨W_blocks (unhide HKW).1 (by omega) (fun x hx => b1 x (by have := (unhide HKW).2 x hx; omega) ((unhide HKW).2 x hx).2), W_blocks (unhide HPW).1 (by omega) (fun x hx => b2 x (by have := (unhide HPW).2 x hx; omega) ((unhide HPW).2 x hx).2), own_base (own_blocks (unhide HOW) (fun x hx => b3 x (by have := oO x hx; omega) (oO x hx).2)) (by omega), Seen_blocks sw (by omega) (fun x hx => b6 x (by have := (sg x hx).1; omega) (by have := oS x (sg x hx).2; omega)) (fun x hx => b6 x (by have := si x hx; omega) (si x hx).2), own_base (own_blocks (unhide HQW) (fun x hx => b8 x (by have := oQ x hx; omega) (oQ x hx).2)) (by omega), fun x hx => ?_, fun x hx => ?_, fun x hx => ?_, fun x hx => ?_, fun x hx => ?_, fun x hx => ?_, fun x hx => ?_, snd⟩
    · unfold timeC; rw [if_pos (by omega)]
    · have := (unhide HKW).2 x hx; unfold timeC; rw [if_neg (by omega), if_pos (by omega)]
    · have := (unhide HPW).2 x hx; unfold timeC; rw [if_neg (by omega), if_neg (by omega), if_pos (by omega)]
    · have := oO x hx; unfold timeC; rw [if_neg (by omega), if_neg (by omega), if_neg (by omega), if_pos (by omega)]
    · have := oS x (sg x hx).2; unfold timeC; rw [if_neg (by omega), if_neg (by omega), if_neg (by omega), if_neg (by omega), if_pos (by omega)]
    · have := si x hx; unfold timeC; rw [if_neg (by omega), if_neg (by omega), if_neg (by omega), if_neg (by omega), if_neg (by omega), if_pos (by omega)]
    · have := oQ x hx; unfold timeC; rw [if_neg (by omega), if_neg (by omega), if_neg (by omega), if_neg (by omega), if_neg (by omega), if_neg (by omega)]
  clear e4 hso b8 b6 b4 b3 b2 b1 oS oO oQ sw sg si snd
  exact bodyPost_ret (v := .agg #[.int .i64 n.id, .int .i64 n.par, .slice ak n.kids.length ck, .int .i64 n.next, .slice ap n.pu.length cp, .slice ao n.out.length co, .slice as2 n.seen.length cs, .int .i64 n.old, .slice ar n.reqs.length cr]) (by simp [results, Tryz.results75, go_sem, c0, c1, c2, c3, c4, c5, c6, c7, c8]) rfl ⟨⟨ak, ap, ao, as2, ar, ck, cp, co, cs, cr⟩, _, _, rfl, unhide HNO, unhide HBE⟩
theorem NO.base {w : World} {B B' : Nat} {n : Nd} {A : Ads} {G : Blks} {c : Nat → Nat} (h : NO w B n A G c) (hB : B' ≤ B) : NO w B' n A G c :=
  ⟨h.k, h.p, own_base h.o hB, h.s, own_base h.r hB, fun x hx => h.lo x (by omega), h.ck, h.cp, h.co, h.c4, h.ci, h.cr, h.ni⟩
theorem allocs3E (w : World) (a b d : Obj) : (((w.alloc a).alloc b).alloc d).heap[w.heap.size]? = some a ∧ (((w.alloc a).alloc b).alloc d).heap[w.heap.size + 1]? = some b ∧ (((w.alloc a).alloc b).alloc d).heap[w.heap.size + 2]? = some d ∧ Below w.heap.size w (((w.alloc a).alloc b).alloc d) := allocs3 w a b d
end Go.Proofs.YtbanjohfcnadfaaGreatDoor
