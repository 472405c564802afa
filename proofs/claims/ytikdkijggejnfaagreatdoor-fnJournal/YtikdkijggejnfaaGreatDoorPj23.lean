/- Parts. -/
import Derived.Test.YtikdkijggejnfaaGreatDoorPj10
import Derived.Test.YtikdkijggejnfaaGreatDoorPj22
import Derived.BigQuiet
namespace Go.Proofs.YtikdkijggejnfaaGreatDoor
open Go.RowKit
open Mth

theorem infoOp : (Tryz.prog.info? 25).map (fun i => (i.zero, i.size, i.bytes)) = some (some (.agg #[.int .i64 0, .int .i64 0, .string ByteArray.empty, .int .i64 0, .int .i64 0, .int .i64 0, .int .i64 0, .int .i64 0, .int .i64 0, .string ByteArray.empty, .int .i64 0]), 11, 104) := by kernel_rfl
theorem setB {w : World} {c : Nat} {cs : Array Value} {t : TypeId} (h : w.heap[c]? = some (.cells cs t (0, 0))) (i : Nat) (v : Value) : (w.setCell ⟨c, i, none⟩ v).heap[c]? = some (.cells (cs.setIfInBounds i v) t (0, 0)) := by
  unfold World.setCell
  simp only [Array.getElem?_modify]
  rw [if_pos trivial, h]
  rfl
theorem freeB {w : World} {g : Nat} {cs : Array Value} {t : TypeId} (h : w.heap[g]? = some (.cells cs t (0, 0))) (i : Nat) : w.frozen? ⟨g, i, none⟩ = false := by
  unfold World.frozen?; rw [h]; simp
theorem twoC {w : World} {g : Nat} {v0 v1 : Value} {t : TypeId} (h : w.heap[g]? = some (.cells #[v0, v1] t (0, 0))) : w.cell? ⟨g, 0, none⟩ = some v0 ∧ w.cell? ⟨g, 1, none⟩ = some v1 := by
  have hc : ∀ i, w.cell? ⟨g, i, none⟩ = #[v0, v1][i]? := fun i => cell_of_row w g i _ t (0, 0) h
  exact ⟨hc 0, hc 1⟩
/-- So far L was found, behind it is place a; the bytes lie in block g, the finder is block fb. -/
structure FS (w0 w : World) (fb g : Nat) (s : ByteArray) (v : Value) (L : List Op5) (a : Nat) : Prop where
  keep : Keep1 fb w0 w
  blk : w.heap[fb]? = some (.cells #[v, .int .i64 a] 56 (0, 0))
  own : w.ownsRow (g + 1) 25 11 v L.length (GR.flat encO L)
  by_ : BytesAt w g s
  lo : fb < w0.heap.size
  gl : w0.heap.size ≤ g ∧ g < w.heap.size
theorem FS.step {w0 w w' : World} {fb g : Nat} {s : ByteArray} {v : Value} {L : List Op5} {a : Nat} (h : FS w0 w fb g s v L a) (hb : Below w.heap.size w w') : FS w0 w' fb g s v L a :=
  ⟨h.keep.trans (Keep1.of_below hb), blk_step h.blk hb, own_below h.own hb, h.by_.below h.gl.2 hb, h.lo, h.gl.1, Nat.lt_of_lt_of_le h.gl.2 hb.size⟩
theorem FS.app {w0 w w6 : World} {fb g : Nat} {s : ByteArray} {v v' : Value} {L : List Op5} {a : Nat} (h : FS w0 w fb g s v L a) (o : Op5)
    (hown : w6.ownsRow (g + 1) 25 11 v' (L.length + 1) (GR.flat encO L ++ encO o)) (hg : w.grownBy w6 v.ownBlock) :
    w6.heap[fb]? = some (.cells #[v, .int .i64 a] 56 (0, 0)) ∧ ∀ z : Nat, FS w0 ((w6.setCell ⟨fb, 0, none⟩ v').setCell ⟨fb, 1, none⟩ (.int .i64 z)) fb g s v' (L ++ [o]) z := by
  have hlt : ∀ x, v.ownBlock = some x → g + 1 ≤ x := fun x hx => (h.own.lt x hx).1
  have hgl := h.gl
  have hlo := h.lo
  have hb : w6.heap[fb]? = some (.cells #[v, .int .i64 a] 56 (0, 0)) := by
    rw [hg.block fb (blk_lt h.blk) (fun e => by have := hlt fb e.symm; omega)]
    exact h.blk
  have hbg : w6.heap[g]? = w.heap[g]? := hg.block g hgl.2 (fun e => by have := hlt g e.symm; omega)
  have h6 : Keep1 fb w0 w6 := ⟨hg.os.trans h.keep.os, hg.tape.trans h.keep.tape, hg.output.trans h.keep.output, Nat.le_trans h.keep.size hg.size, fun k hk hne => by
    rw [hg.block k (Nat.lt_of_lt_of_le hk h.keep.size) (fun e => by have := hlt k e.symm; omega)]
    exact h.keep.block k hk hne⟩
  have hby : BytesAt w6 g s := fun i hi => (World.cell?_of_block (w := w) hbg).trans (h.by_ i hi)
  have gr : ∀ (w1 : World) (i : Nat) (u : Value), w1.grownBy (w1.setCell ⟨fb, i, none⟩ u) (some fb) := fun w1 i u => ⟨rfl, rfl, rfl, by simp [World.setCell], fun k _ hne => Below.heap_setCell _ _ _ _ (fun e => hne (by rw [e]))⟩
  have hne : v'.ownBlock = none ∨ v'.ownBlock ≠ some fb := by
    right
    intro e
    have := (hown.lt fb e).1
    omega
  have st : ∀ (w1 : World) (i : Nat) (u : Value), BytesAt w1 g s → BytesAt (w1.setCell ⟨fb, i, none⟩ u) g s := fun w1 i u hw j hj => (World.cell?_setCell_other _ _ _ _ (by simp <;> omega)).trans (hw j hj)
  refine ⟨hb, fun z => ⟨(h6.trans (Keep1.set _)).trans (Keep1.set _), setB (setB hb 0 v') 1 (.int .i64 z), ?_, st _ _ _ (st _ _ _ hby), hlo, hgl.1, ?_⟩⟩
  · rw [List.length_append, flatO_snoc]
    exact (hown.kept (gr _ 0 v') hne).kept (gr _ 1 (.int .i64 z)) hne
  · have := hg.size
    simp [World.setCell]
    omega
/-- The place behind what was found, as it lies. -/
def endOf (w : World) (fb : Nat) : Nat := match w.cell? ⟨fb, 1, none⟩ with | some (.int _ z) => z.toNat | _ => 0
theorem FS.endOf {w0 w : World} {fb g : Nat} {s : ByteArray} {v : Value} {L : List Op5} {a : Nat} (h : FS w0 w fb g s v L a) : endOf w fb = a := by
  unfold Go.Proofs.YtikdkijggejnfaaGreatDoor.endOf
  rw [(twoC h.blk).2]
  simp
/-- What is found in the end. -/
def Found (w w' : World) (fb : Nat) (s : ByteArray) : Prop := Keep1 fb w w' ∧ ∃ v, w'.heap[fb]? = some (.cells #[v, .int .i64 (rdAll s).2] 56 (0, 0)) ∧ w'.ownsRow (w.heap.size + 1) 25 11 v (rdAll s).1.length (GR.flat encO (rdAll s).1)
theorem FS.found {w0 w w' : World} {fb : Nat} {s : ByteArray} {v : Value} {L : List Op5} {a : Nat} (h : FS w0 w fb w0.heap.size s v L a) (hS : Sofar s a L) (hs : stB s a = false) (hb : Below w.heap.size w w') : Found w0 w' fb s := by
  have h2 := h.step hb
  refine ⟨h2.keep, v, ?_, ?_⟩
  · rw [sofar_end hS hs]; exact h2.blk
  · rw [sofar_end hS hs]; exact h2.own
theorem no_frame {s : ByteArray} {a : Nat} (h : ¬ faB s a) : stB s a = false ∧ faE s a = -1 := by
  unfold stB faE
  rw [decide_eq_false h, if_neg h]
  exact ⟨rfl, rfl⟩
set_option maxRecDepth 100000 in
set_option maxHeartbeats 4000000 in
theorem readAll (fb : Nat) (s : ByteArray) (hs : s.size ≤ 60000) (w : World) (hfb : fb < w.heap.size) (hne : fb ≠ 0) (hf : w.heap[fb]? = some (.cells #[.slice none 0 0, .int .i64 0] 56 (0, 0))) (hH : Handle w) :
    Calls Tryz.prog 36 #[.pointer (some ⟨fb, 0, none⟩), .string s] w fun e w' => (e = .returned (.tuple #[]) ∨ ∃ p, e = pnc p) ∧ Found w w' fb s := by
  obtain ⟨i0, hi, hz0, hz1, hz2⟩ := info_parts infoOp
  obtain ⟨cap, w1, hconv, hcap, hby, hlt1, hbel⟩ := conv_bytes s w
  have HF1 := hide (show FS w w1 fb w.heap.size s (.slice none 0 0) [] 0 from ⟨Keep1.of_below hbel, blk_step hf hbel, World.ownsRow_nil _ _ _ _, hby, hfb, Nat.le_refl _, hlt1⟩)
  have HH := hide hH
  have HS1 := hide (sofar_start s hs)
  clear hbel hby hf hH hlt1
  go_enter Tryz.func36, Tryz.ntmps36
  go_wp2_with fail
  go_loopw [] (fun wr => ∃ a v L, FS w wr fb w.heap.size s v L a ∧ Sofar s a L) (fun wr => s.size - endOf wr fb)
  case atStart => exact ⟨0, _, [], unhide HF1, unhide HS1⟩
  case round =>
    clear HF1 HS1 hconv
    obtain ⟨a, v, L, hF, hS⟩ := hrel
    have hcl := hF.lo
    have hbl := blk_lt hF.blk
    obtain ⟨va, vc, hv, _⟩ := GR.own_at (enc := encO) (sz := 11) (l := L) encO_length hF.own
    subst hv
    obtain ⟨c0, c1⟩ := twoC hF.blk
    have hea : endOf wr fb = a := hF.endOf
    have HF := hide hF
    have HEA := hide hea
    have HS := hide hS
    have ha := hS.2.1
    have HL := hide hS.1
    clear hF hS hea
    by_cases hlt : a < s.size
    case' neg =>
      have hnl : decide ((a : Int) < (s.size : Int)) = false := by simp; omega
      go_wp2_with fail
      exact bodyPost_end (v := .tuple #[]) (by simp [results, Tryz.results36, go_sem]) rfl ⟨.inl rfl, (unhide HF).found (unhide HS) (st_short (by omega)) (Below.refl _ _)⟩
    have hlI : (a : Int) < (s.size : Int) := by omega
    have HFA := hide (frameAt s hs a ha w.heap.size cap hcap wr (unhide HF).by_ (unhide HF).gl.2 ((unhide HH).keep1 (unhide HF).keep hfb hne))
    by_cases hfa : faB s a
    case' neg =>
      obtain ⟨hst, hE⟩ := no_frame hfa
      have HST := hide hst
      clear hst
      rw [hE] at HFA
      clear hE hfa
      generalize faT s a = TX at *
      go_wp2_with fail
      refine (unhide HFA).mono ?_
      rintro e w2 ⟨rfl, hb2⟩
      obtain ⟨d0, d1⟩ := twoC ((unhide HF).step hb2).blk
      have HB2 := hide hb2
      clear hb2 c0 c1
      go_wp2_with fail
      exact ⟨rfl, .inr ⟨_, rfl⟩, (unhide HF).found (unhide HS) (unhide HST) (unhide HB2)⟩
    have HFB := hide hfa
    have hE : faE s a = ((faE s a).toNat : Nat) := by
      have h1 := hfa.2.1
      have : faE s a = a + 4 + unZ (tl s a) := if_pos hfa
      omega
    have hE2 : (faE s a).toNat ≤ 100000 := by
      have h1 : faE s a = a + 4 + unZ (tl s a) := if_pos hfa
      have h2 := rtE_le (restOf (tl s a)) 0
      have h3 := rest_size (tl s a)
      unfold unZ at h1
      omega
    have hTX : (faT s a).size ≤ 1000 := by
      have h1 : faT s a = unT (tl s a) := if_pos hfa
      rw [h1]
      exact rtS_size _ _
    have HO := hide (fun w1 h => opIn (faT s a) w1 (Nat.le_trans hTX (by unfold maxLen; omega)) h)
    have HY := hide (show gopB (faT s a) = true → stB s a = true from fun h => by unfold stB; rw [decide_eq_true hfa, h]; rfl)
    have HN := hide (show gopB (faT s a) = false → stB s a = false from fun h => by unfold stB; rw [h, Bool.and_false])
    have HNX := hide (show stB s a = true → Sofar s (faE s a).toNat (L ++ [opC (faT s a)]) from fun h => sofar_step (unhide HS) h)
    have HGT := hide (show stB s a = true → a < (faE s a).toNat ∧ (faE s a).toNat ≤ s.size from fun h => by obtain ⟨_, _, _, h4, h5, _⟩ := st_parts h; omega)
    clear hTX hfa HFB
    rw [hE] at HFA
    clear hE
    generalize (faE s a).toNat = z at *
    generalize gopB (faT s a) = OK at *
    generalize hoc : opC (faT s a) = oc at *
    clear hoc
    generalize faT s a = TX at *
    obtain ⟨K, no, k, n, ⟨mK, mF, mT, mI, mL, mk, mN⟩⟩ := oc
    go_wp2_with fail
    refine (unhide HFA).mono ?_
    rintro e w2 ⟨rfl, hb2⟩
    have HF2 := hide ((unhide HF).step hb2)
    clear hb2 c0 c1 HFA
    go_upto_region 5 with fail
    refine wp_at (fun W hW => ?_)
    obtain rfl := hW
    have hbl2 := blk_lt (unhide HF2).blk
    obtain ⟨c0, c1⟩ := twoC (unhide HF2).blk
    have y0 := cell_regrown c0
    clear c0 c1
    refine wp_region_anyG (by kernel_rfl) ?_
    show wpAnyG _ _ _ _ 12 (Array.replicate 12 false) _ _
    refine wpAnyG_pure 0 rfl (by kernel_rfl) (by kernel_rfl) (by kernel_rfl) (fun _ _ _ _ h => h) (fun K hK => ?_)
    go_simp
    first
      | (refine hK _ ?_; clear hK K)
      | (apply Exists.intro
         refine ⟨fun _ => rfl, hK _ ?_⟩
         clear hK K)
    refine wpAnyG_mixE 8 ?_
    refine wpMixE_take 1 20 rfl (by kernel_rfl) (by kernel_rfl) (by kernel_rfl) (by kernel_rfl) (by kernel_rfl) (fun _ _ _ _ h => h) (fun K hK => ?_)
    go_simp
    first
      | (refine hK _ ?_; clear hK K)
      | (apply Exists.intro
         refine ⟨fun _ => ?_, hK _ ?_⟩
         (fail)
         clear hK K)
    refine wpMixE_take 2 20 rfl (by kernel_rfl) (by kernel_rfl) (by kernel_rfl) (by kernel_rfl) (by kernel_rfl) (fun _ _ _ _ h => h) (fun K hK => ?_)
    go_simp
    first
      | (refine hK _ ?_; clear hK K)
      | (apply Exists.intro
         refine ⟨fun _ => ?_, hK _ ?_⟩
         (fail)
         clear hK K)
    refine wpMixE_take 3 20 rfl (by kernel_rfl) (by kernel_rfl) (by kernel_rfl) (by kernel_rfl) (by kernel_rfl) (fun _ _ _ _ h => h) (fun K hK => ?_)
    go_simp
    first
      | (refine hK _ ?_; clear hK K)
      | (apply Exists.intro
         refine ⟨fun _ => ?_, hK _ ?_⟩
         (fail)
         clear hK K)
    refine wpMixE_take 4 20 rfl (by kernel_rfl) (by kernel_rfl) (by kernel_rfl) (by kernel_rfl) (by kernel_rfl) (fun _ _ _ _ h => h) (fun K hK => ?_)
    go_simp
    first
      | (refine hK _ ?_; clear hK K)
      | (apply Exists.intro
         refine ⟨fun _ => ?_, hK _ ?_⟩
         (fail)
         clear hK K)
    refine wpMixE_take 5 20 rfl (by kernel_rfl) (by kernel_rfl) (by kernel_rfl) (by kernel_rfl) (by kernel_rfl) (fun _ _ _ _ h => h) (fun K hK => ?_)
    go_simp
    first
      | (refine hK _ ?_; clear hK K)
      | (apply Exists.intro
         refine ⟨fun _ => ?_, hK _ ?_⟩
         (fail)
         clear hK K)
    clear y0
    refine wpMixE_one 6 rfl (by kernel_rfl) (by rfl) (fun x hx => ?_)
    go_simp
    refine (unhide HO _ (((unhide HH).keep1 ((unhide HF2).step hx).keep hfb hne))).mono ?_
    rintro e y ⟨hcase, hby⟩
    have HFX := hide ((unhide HF2).step hx)
    clear hx
    rcases hcase with ⟨hyes, rfl⟩ | ⟨hno, p, rfl⟩
    case' inr =>
      have HST := hide (unhide HN hno)
      exact ⟨rfl, .inr ⟨_, rfl⟩, (unhide HFX).found (unhide HS) (unhide HST) hby⟩
    have HST := hide (unhide HY hyes)
    have HSN := hide (unhide HNX (unhide HST))
    obtain ⟨hz5, hz6⟩ := unhide HGT (unhide HST)
    clear hyes HY HN HNX HGT HO HF2
    refine ⟨hby, ?_⟩
    have HFY := hide ((unhide HFX).step hby)
    clear hby HFX
    refine wpMixE_one 7 rfl (by kernel_rfl) (by rfl) (fun x2 hx2 => ?_)
    go_simp
    refine ⟨below_one x2 _, ?_⟩
    have HFZ := hide (((unhide HFY).step hx2).step (below_one x2 (.cells #[.int .i64 K, .int .i64 no, .string k, .int .i64 n, .int .i64 mK, .int .i64 mF, .int .i64 mT, .int .i64 mI, .int .i64 mL, .string mk, .int .i64 mN] 25)))
    have HNZ := hide (heap_alloc_new x2 (.cells #[.int .i64 K, .int .i64 no, .string k, .int .i64 n, .int .i64 mK, .int .i64 mF, .int .i64 mT, .int .i64 mI, .int .i64 mL, .string mk, .int .i64 mN] 25))
    clear hx2 HFY
    generalize x2.alloc (.cells #[.int .i64 K, .int .i64 no, .string k, .int .i64 n, .int .i64 mK, .int .i64 mF, .int .i64 mT, .int .i64 mI, .int .i64 mL, .string mk, .int .i64 mN] 25) = y2 at *
    refine wpMixE_leave (by kernel_rfl) (fun u hu => ?_)
    have HFU := hide ((unhide HFZ).step hu)
    have HNU := hide (blk_step (unhide HNZ) hu)
    clear hu HFZ HNZ
    have hLl := unhide HL
    refine wpAny_one 8 rfl (by kernel_rfl) (by rfl) ?_
    refine wp_append_where u (.tmp 37) (.tmp 40) 34 rfl (w.heap.size + 1) 25 i0 (.agg #[.int .i64 0, .int .i64 0, .string ByteArray.empty, .int .i64 0, .int .i64 0, .int .i64 0, .int .i64 0, .int .i64 0, .int .i64 0, .string ByteArray.empty, .int .i64 0]) 11 104 Tryz.underlying34 hi hz0 hz1 hz2 rfl (by decide) (.slice va L.length vc) L.length (GR.flat encO L) (by simp [Act.eval]) (unhide HFU).own ⟨x2.heap.size, 0, none⟩ 1 1 (encO ⟨K, no, k, n, ⟨mK, mF, mT, mI, mL, mk, mN⟩⟩) (by simp [Act.eval]) rfl (World.news_of_block (unhide HNU)) (encO_one _) (by unfold maxLen; omega) (by omega) (by have := (unhide HFU).gl; omega) ?_
    intro v6 w6 hown6 hgr6 _
    obtain ⟨va6, vc6, hv6, _⟩ := GR.own_at (enc := encO) (sz := 11) (l := L ++ [⟨K, no, k, n, ⟨mK, mF, mT, mI, mL, mk, mN⟩⟩]) encO_length (by rw [List.length_append, flatO_snoc]; exact hown6)
    rw [List.length_append] at hv6
    have hv7 : v6 = .slice va6 (L.length + 1) vc6 := hv6
    subst hv7
    clear hv6
    obtain ⟨hb6, hF6⟩ := (unhide HFU).app ⟨K, no, k, n, ⟨mK, mF, mT, mI, mL, mk, mN⟩⟩ hown6 hgr6
    have HF6 := hide (hF6 z)
    obtain ⟨k0, k1⟩ := twoC hb6
    have kf0 := freeB hb6 0
    have kf1 := freeB hb6 1
    clear hown6 hgr6 hb6 hF6 HFU HNU
    refine wpAny_one 9 rfl (by kernel_rfl) (by rfl) ?_
    go_simp
    refine wpAny_one 10 rfl (by kernel_rfl) (by rfl) ?_
    go_simp
    refine wpAny_one 11 rfl (by kernel_rfl) (by rfl) ?_
    go_simp
    refine wpAny_done (by kernel_rfl) ?_
    go_simp
    go_wp2_with fail
    go_roundw
    case rel => exact ⟨z, _, _, unhide HF6, unhide HSN⟩
    case measure =>
      have h1 := unhide HEA
      have h2 := (unhide HF6).endOf
      rw [h1, h2]
      omega

theorem Found.step {w w1 w2 : World} {fb : Nat} {s : ByteArray} (h : Found w w1 fb s) (hb : Below w1.heap.size w1 w2) : Found w w2 fb s := by
  obtain ⟨hk, v, hv, ho⟩ := h
  exact ⟨hk.trans (Keep1.of_below hb), v, blk_step hv hb, own_below ho hb⟩
theorem own_lower {w : World} {B B' size n : Nat} {e : TypeId} {v : Value} {xs : List Value} (h : w.ownsRow B e size v n xs) (hB : B' ≤ B) : w.ownsRow B' e size v n xs := by
  refine ⟨h.1, ?_⟩
  rcases h.2 with hn | ⟨g, cap, cur, rfl, hb, rest⟩
  · exact .inl hn
  · exact .inr ⟨g, cap, cur, rfl, Nat.le_trans hB hb, rest⟩
set_option maxRecDepth 100000 in
theorem readClosure (a fb : Nat) (s : ByteArray) (hs : s.size ≤ 60000) (w : World) (hfb : fb < w.heap.size) (hne : fb ≠ 0) (hf : w.heap[fb]? = some (.cells #[.slice none 0 0, .int .i64 0] 56 (0, 0))) (hH : Handle w) (ha : w.cell? ⟨a, 0, none⟩ = some (.string s)) :
    Calls Tryz.prog 35 #[.pointer (some ⟨fb, 0, none⟩), .pointer (some ⟨a, 0, none⟩)] w fun e w' => (e = .returned (.tuple #[]) ∨ ∃ p, e = pnc p) ∧ Found w w' fb s := by
  have HR := hide (readAll fb s hs w hfb hne hf hH)
  clear hs hf hH
  go_enter Tryz.func35, Tryz.ntmps35
  go_wp2_with fail
  refine (unhide HR).mono ?_
  rintro e w1 ⟨hcase, hF⟩
  have HF := hide hF
  clear hF
  rcases hcase with rfl | ⟨p, rfl⟩
  · go_wp2_with fail
    exact bodyPost_end (v := .tuple #[]) (by simp [results, Tryz.results35, go_sem]) rfl ⟨.inl rfl, unhide HF⟩
  · go_wp2_with fail
    exact ⟨rfl, .inr ⟨_, rfl⟩, unhide HF⟩
set_option maxRecDepth 100000 in
set_option maxHeartbeats 2000000 in
theorem wasReadAll (a fb : Nat) (s : ByteArray) (hs : s.size ≤ 60000) (w : World) (hfb : fb < w.heap.size) (hne : fb ≠ 0) (hf : w.heap[fb]? = some (.cells #[.slice none 0 0, .int .i64 0] 56 (0, 0))) (hH : Handle w) (ha : w.cell? ⟨a, 0, none⟩ = some (.string s)) :
    Calls Tryz.prog 34 #[.func (.func 35) #[] #[.pointer (some ⟨fb, 0, none⟩), .pointer (some ⟨a, 0, none⟩)]] w fun e w' => (∃ b, e = .returned (.bool b)) ∧ Found w w' fb s := by
  have HC := hide (readClosure a fb s hs w hfb hne hf hH ha)
  clear hs hH ha hf
  have hdf : ∀ (fn : Fn) (first cap : Array Value) (w : World), (Instr.makeFunc fn first cap).run Tryz.prog w = .ok (.func fn first cap) w := fun _ _ _ _ => rfl
  go_enter_defers Tryz.func34, Tryz.ntmps34
  go_wp2_with fail
  refine (unhide HC).mono ?_
  rintro e w1 ⟨hcase, hF⟩
  have HF := hide hF
  clear hF HC
  rcases hcase with rfl | ⟨p, rfl⟩
  · go_wp2_with fail
    refine leaves_cons (f := 66) (args := #[]) (by simp) (by simp [go_sem]) ?_
    refine (catch_idle _).mono ?_
    rintro e u' w'' ⟨rfl, rfl, rfl⟩
    simp [Leaves, settle, results, Tryz.results34, go_sem]
    exact unhide HF
  · go_wp2_with fail
    refine leaves_cons (f := 66) (args := #[]) (by simp) (by simp [go_sem]) ?_
    refine (catch_pnc p [] _).mono ?_
    rintro e u' w'' ⟨rfl, rfl, hb⟩
    have HF2 := hide ((unhide HF).step hb)
    clear hb
    simp [Leaves, settle, results, Tryz.results34, go_sem]
    exact unhide HF2
/-- What Read answers. -/
def GivesO (w : World) (s : ByteArray) (e : Ending) (w' : World) : Prop := ∃ v, e = .returned (.tuple #[v, .int .i64 (rdAll s).2]) ∧ w'.ownsRow w.heap.size 25 11 v (rdAll s).1.length (GR.flat encO (rdAll s).1) ∧ Below w.heap.size w w'
theorem GivesO.step {w w1 w2 : World} {s : ByteArray} {e : Ending} (h : GivesO w s e w1) (hb : Below w1.heap.size w1 w2) : GivesO w s e w2 := by
  obtain ⟨v, he, ho, hB⟩ := h
  exact ⟨v, he, own_below ho hb, hB.trans (hb.mono hB.size)⟩
set_option maxRecDepth 100000 in
set_option maxHeartbeats 2000000 in
theorem implRead (s : ByteArray) (_hs : s.size ≤ maxLen) (w : World) (hH : Handle w) : Calls Tryz.prog 10 #[.string s] w (GivesO w s) := by
  by_cases hbig : 60000 < s.size
  · have hb1 : (60000 : Int) < (s.size : Int) := by omega
    have HP := hide (show GivesO w s (.returned (.tuple #[.slice none 0 0, .int .i64 0])) (w.alloc (.cells #[.string s] 9)) from by
      have e : rdAll s = ([], 0) := by unfold rdAll; rw [if_neg (by omega)]
      refine ⟨.slice none 0 0, ?_, ?_, below_one w _⟩
      · rw [e]; rfl
      · rw [e]; exact World.ownsRow_nil _ _ _ _)
    clear hH
    go_enter Tryz.func10, Tryz.ntmps10
    go_wp2_with fail
    exact bodyPost_ret (v := .tuple #[.slice none 0 0, .int .i64 0]) (by simp [results, Tryz.results10, go_sem]) rfl (unhide HP)
  · have hlt : 0 < w.heap.size := by
      rcases Nat.lt_or_ge 0 w.heap.size with h' | h'
      · exact h'
      · have h := hH
        unfold Handle World.cell? at h
        rw [Array.getElem?_eq_none h'] at h
        cases h
    have hb1 : ¬ ((60000 : Int) < (s.size : Int)) := by omega
    obtain ⟨hA, hF, hB⟩ := allocsE2 w (.cells #[.string s] 9) (.cells #[.slice none 0 0, .int .i64 0] 56)
    have HW := hide (wasReadAll w.heap.size (w.heap.size + 1) s (by omega) _ (by simp) (by omega) hF (hH.below hB) (cell_of_row _ w.heap.size 0 _ 9 (0, 0) hA))
    have HB := hide hB
    have hsz : ((w.alloc (.cells #[.string s] 9)).alloc (.cells #[.slice none 0 0, .int .i64 0] 56)).heap.size = w.heap.size + 2 := by simp
    clear hA hF hB hH hlt
    have hmf : ∀ (fn : Fn) (first cap : Array Value) (w : World), (Instr.makeFunc fn first cap).run Tryz.prog w = .ok (.func fn first cap) w := fun _ _ _ _ => rfl
    go_enter Tryz.func10, Tryz.ntmps10
    go_wp2_with fail
    refine (unhide HW).mono ?_
    rintro e w1 ⟨⟨b, rfl⟩, hk, v, hv, ho⟩
    rw [hsz] at ho
    have HP := hide (show GivesO w s (.returned (.tuple #[v, .int .i64 (rdAll s).2])) w1 from ⟨v, rfl, own_lower ho (by omega), hk.below (unhide HB) (by omega) (unhide HB).size⟩)
    have hwl := blk_lt hv
    obtain ⟨c0, c1⟩ := twoC hv
    clear hv ho hk HW HB
    obtain ⟨va, vc, hvv, _⟩ : ∃ a c, v = .slice a (rdAll s).1.length c ∧ True := by
      obtain ⟨v2, he, hown, _⟩ := unhide HP
      simp only [Ending.returned.injEq, Value.tuple.injEq] at he
      obtain ⟨a2, c2, h2, _⟩ := GR.own_at (enc := encO) (sz := 11) encO_length hown
      have : v = v2 := by simpa using he
      exact ⟨a2, c2, by rw [this, h2], trivial⟩
    subst hvv
    generalize (rdAll s).2 = E at *
    generalize (rdAll s).1.length = N at *
    go_wp2_with fail
    go_quiet (fail)
    go_wp2_with fail
    exact bodyPost_ret (v := .tuple #[.slice va N vc, .int .i64 E]) (by simp [results, Tryz.results10, go_sem]) rfl ((unhide HP).step ⟨rfl, rfl, rfl, Nat.le_refl _, fun _ _ => rfl⟩)
end Go.Proofs.YtikdkijggejnfaaGreatDoor
