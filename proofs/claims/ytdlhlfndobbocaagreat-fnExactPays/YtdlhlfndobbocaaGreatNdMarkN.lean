/-
  The laws' own marking of a node, and the marks looked for.
-/
import Derived.Test.YtdlhlfndobbocaaGreatNdMarkS
import Derived.Test.YtdlhlfndobbocaaGreatNdHas
namespace Go.Proofs.YtdlhlfndobbocaaGreat
open Go.RowKit
open Mth

def sP (n : Nd) : Nat := 1 + n.kids.length
def sO (n : Nd) : Nat := sP n + 4 * n.pu.length
def sS (n : Nd) : Nat := sO n + 4 * n.out.length
def sR (n : Nd) : Nat := eSeen (sS n) n.seen
def eNode (n : Nd) : Nat := sR n + 4 * n.reqs.length
/-- A node, marked. -/
def mNode (n : Nd) : Nd := ⟨n.id, n.par, mks mkInt 1 1 n.kids n.kids.length, n.next, mks mkPurse 4 (sP n) n.pu n.pu.length, mks mkSent 4 (sO n) n.out n.out.length, mSeen (sS n) n.seen, n.old, mks mkReq 4 (sR n) n.reqs n.reqs.length⟩
theorem node_bds {n : Nd} (hz : NdSz n 1048600) : 0 < sP n ∧ sP n ≤ 10000000 ∧ 0 < sO n ∧ sO n ≤ 50000000 ∧ 0 < sS n ∧ sS n ≤ 100000000 ∧ 0 < sR n ∧ sR n ≤ 3000000000000 := by
  have h := eSeen_le (sS n) 1048600 n.seen hz.sk
  have h1 := hz.k
  have h2 := hz.p
  have h3 := hz.o
  have h4 := hz.s
  unfold sR
  generalize eSeen (sS n) n.seen = z at *
  unfold sS sO sP at *
  omega
theorem markPurseZ (a : Option Addr) (g c s : Nat) (z : Int) (l : List Pu) (w : World) (hz : z = (s : Int)) (hs0 : 0 < s) (hs1 : s ≤ 4000000000000) (hl : l.length ≤ 1048600) (ha : GR.W encP 4 w a g l) :
    Calls Tryz.prog 34 #[.slice a l.length c, .int .i64 z] w fun e w' => e = .returned (.int .i64 (s + 4 * (l.length : Int))) ∧ GR.W encP 4 w' a g (mks mkPurse 4 s l l.length) ∧ KeepsL (fp g l) w w' := by
  subst hz
  exact markPurseG a g c s l w hs0 hs1 hl ha
theorem markSentZ (a : Option Addr) (g c s : Nat) (z : Int) (l : List Snt) (w : World) (hz : z = (s : Int)) (hs0 : 0 < s) (hs1 : s ≤ 4000000000000) (hl : l.length ≤ 1048600) (ha : GR.W encSnt 4 w a g l) :
    Calls Tryz.prog 35 #[.slice a l.length c, .int .i64 z] w fun e w' => e = .returned (.int .i64 (s + 4 * (l.length : Int))) ∧ GR.W encSnt 4 w' a g (mks mkSent 4 s l l.length) ∧ KeepsL (fp g l) w w' := by
  subst hz
  exact markSentG a g c s l w hs0 hs1 hl ha
theorem markReqZ (a : Option Addr) (g c s : Nat) (z : Int) (l : List Rq) (w : World) (hz : z = (s : Int)) (hs0 : 0 < s) (hs1 : s ≤ 4000000000000) (hl : l.length ≤ 1048600) (ha : GR.W encRq 4 w a g l) :
    Calls Tryz.prog 37 #[.slice a l.length c, .int .i64 z] w fun e w' => e = .returned (.int .i64 (s + 4 * (l.length : Int))) ∧ GR.W encRq 4 w' a g (mks mkReq 4 s l l.length) ∧ KeepsL (fp g l) w w' := by
  subst hz
  exact markReqG a g c s l w hs0 hs1 hl ha
theorem markSeenZ (a : Option Addr) (g c s : Nat) (z : Int) (I : Nat → Nat) (l : List Sn) (w : World) (hz : z = (s : Int)) (hs0 : 0 < s) (hs1 : s ≤ 100000000) (hl : l.length ≤ 1048600) (hl2 : ∀ x ∈ l, x.ids.length ≤ 1048600) (hnd : (fp g l ++ fpI I l).Nodup) (ha : SeenW w a g I l) :
    Calls Tryz.prog 36 #[.slice a l.length c, .int .i64 z] w fun e w' => e = .returned (.int .i64 (eSeen s l : Nat)) ∧ SeenW w' a g I (mSeen s l) ∧ KeepsL (fp g l ++ fpI I l) w w' := by
  subst hz
  exact markSeenG a g c s I l w hs0 hs1 hl hl2 hnd ha
theorem fp_mks {α : Type} {mk : Nat → α} {c s g x : Nat} {l : List α} (h : x ∈ fp g (mks mk c s l l.length)) : x ∈ fp g l := by
  rw [fp_len (mks_length mk c s l l.length (Nat.le_refl _))] at h
  exact h
theorem fp_mS {s g x : Nat} {l : List Sn} (h : x ∈ fp g (mSeen s l)) : x ∈ fp g l := by
  rw [fp_len (mSeen_length s l)] at h
  exact h
theorem fpI_mS {I : Nat → Nat} {s x : Nat} {l : List Sn} (h : x ∈ fpI I (mSeen s l)) : x ∈ fpI I l := by
  rw [fpI_congr (mSeen_length s l) (fun i h1 h2 => by rw [mSeen_at s l i h2, mSn_ids])] at h
  exact h
theorem SeenW.below {w w' : World} {a : Option Addr} {g : Nat} {I : Nat → Nat} {l : List Sn} (h : SeenW w a g I l) (hb : Below w.heap.size w w') : SeenW w' a g I l := h.keeps (F := []) (KeepsL.of_below hb) (fun _ _ => by simp) (fun _ _ => by simp)
theorem W_lt {α : Type} {enc : α → List Value} {sz : Nat} {w : World} {a : Option Addr} {g : Nat} {l : List α} (h : GR.W enc sz w a g l) : ∀ x ∈ fp g l, x < w.heap.size := fun x hx => by
  rw [(of_fp hx).1]
  exact (h 0 (of_fp hx).2).2.1
theorem SeenW_lt {w : World} {a : Option Addr} {g : Nat} {I : Nat → Nat} {l : List Sn} (h : SeenW w a g I l) : ∀ x ∈ fp g l ++ fpI I l, x < w.heap.size := fun x hx => by
  obtain ⟨T, hT, hl, hr⟩ := h
  rcases List.mem_append.1 hx with hx | hx
  · rw [(of_fp hx).1]
    exact (hT 0 (by have := (of_fp hx).2; omega)).2.1
  · obtain ⟨i, hi, rfl, hp⟩ := of_fpI hx
    obtain ⟨b, c, _, hi2⟩ := hr i hi
    exact (hi2 0 hp).2.1
set_option maxRecDepth 100000 in
set_option maxHeartbeats 2000000 in
theorem markNodeG (n : Nd) (A : Ads) (G : Blks) (w : World) (hz : NdSz n 1048600) (hnd : (G.all n).Nodup) (ha : NodeW w A G n) :
    Calls Tryz.prog 10 #[ndv n A, .int .i64 1] w fun e w' => e = .returned (.int .i64 (eNode n : Nat)) ∧ NodeW w' A G (mNode n) ∧ KeepsL (G.all n) w w' := by
  have hb0 := below_one w (.cells (ndc n A) 37)
  obtain ⟨b1, b2, b3, b4, b5, b6, b7, b8⟩ := node_bds hz
  have HS : Hid (sP n = 1 + n.kids.length ∧ sO n = sP n + 4 * n.pu.length ∧ sS n = sO n + 4 * n.out.length ∧ sR n = eSeen (sS n) n.seen ∧ eNode n = sR n + 4 * n.reqs.length) := ⟨rfl, rfl, rfl, rfl, rfl⟩
  have HMN := hide (show mNode n = ⟨n.id, n.par, mks mkInt 1 1 n.kids n.kids.length, n.next, mks mkPurse 4 (sP n) n.pu n.pu.length, mks mkSent 4 (sO n) n.out n.out.length, mSeen (sS n) n.seen, n.old, mks mkReq 4 (sR n) n.reqs n.reqs.length⟩ from rfl)
  unfold Blks.all at hnd
  simp only [List.nodup_append, List.mem_append] at hnd
  obtain ⟨_, ⟨_, ⟨_, ⟨n4, ⟨n5, n6, d6⟩, d5⟩, d4⟩, d3⟩, d2⟩ := hnd
  have HK0 := hide (ha.k.below hb0)
  have HP0 := hide (ha.p.below hb0)
  have HO0 := hide (ha.o.below hb0)
  have HSE0 := hide (ha.s.below hb0)
  have HR0 := hide (ha.r.below hb0)
  have HB0 := hide (heap_alloc_new w (.cells (ndc n A) 37))
  have HL := hide (And.intro (W_lt ha.k) (And.intro (W_lt ha.p) (And.intro (W_lt ha.o) (And.intro (SeenW_lt ha.s) (W_lt ha.r)))))
  have HKW0 : Hid (KeepsL (G.all n) w (w.alloc (.cells (ndc n A) 37))) := KeepsL.of_below hb0
  have HALL := hide (fun x => (@Blks.mem_all G n x).2)
  have HZ := hide hz
  have HD2 := hide d2
  have HD3 := hide d3
  have HD4 := hide d4
  have HD5 := hide d5
  have HD6 := hide d6
  have HN45 : Hid ((fp G.s n.seen ++ fpI G.i n.seen).Nodup) := List.nodup_append.2 ⟨n4, n5, fun a ha b hb => d5 a ha b (.inl hb)⟩
  clear ha hz hb0 n4 n5 n6 d2 d3 d4 d5 d6
  generalize G.all n = GA at *
  generalize mNode n = MN at *
  generalize eNode n = EN at *
  generalize sP n = s1 at *
  generalize sO n = s2 at *
  generalize sS n = s3 at *
  generalize sR n = s4 at *
  obtain ⟨id, par, kids, next, pu, out, seen, old, reqs⟩ := n
  obtain ⟨ak, ap, ao, as', ar, ck, cp, co, cs, cr⟩ := A
  dsimp only at HS HMN HK0 HP0 HO0 HSE0 HR0 HB0 HL HKW0 HALL HD2 HD3 HD4 HD5 HD6 HN45 ⊢
  obtain ⟨q1, q2, q3, q4, q5⟩ := unhide HS
  have HQ4 := hide q4
  clear q4 HS
  have hzk := (unhide HZ).k
  have hzp := (unhide HZ).p
  have hzo := (unhide HZ).o
  have hzs := (unhide HZ).s
  have hzr := (unhide HZ).r
  dsimp only at hzk hzp hzo hzs hzr
  obtain ⟨c0, c1, c2, c3, c4, c5, c6, c7, c8⟩ := nine (unhide HB0)
  go_enter Tryz.func10, Tryz.ntmps10
  go_wp2_with fail
  refine (markIntZ ak G.k ck 1 _ kids _ (by omega) (by omega) (by omega) hzk (unhide HK0)).mono ?_
  rintro e w1 ⟨rfl, hw, hk⟩
  have HK1 := hide hw
  have HP1 := hide (GR.W.keeps (unhide HP0) hk (fun x hx => fun hx2 => (Ne.symm (unhide HD2 _ hx2 _ (.inl hx))) rfl))
  have HO1 := hide (GR.W.keeps (unhide HO0) hk (fun x hx => fun hx2 => (Ne.symm (unhide HD2 _ hx2 _ (.inr (.inl hx)))) rfl))
  have HSE1 := hide (SeenW.keeps (unhide HSE0) hk (fun x hx => fun hx2 => (Ne.symm (unhide HD2 _ hx2 _ (.inr (.inr (.inl hx))))) rfl) (fun x hx => fun hx2 => (Ne.symm (unhide HD2 _ hx2 _ (.inr (.inr (.inr (.inl hx)))))) rfl))
  have HR1 := hide (GR.W.keeps (unhide HR0) hk (fun x hx => fun hx2 => (Ne.symm (unhide HD2 _ hx2 _ (.inr (.inr (.inr (.inr hx)))))) rfl))
  have HB1 := hide (hk.obj (unhide HB0) (fun hx => by have := (unhide HL).1 _ hx; omega))
  have HKW1 := hide ((unhide HKW0).trans (hk.mono (fun x hx => unhide HALL _ (.inl hx))))
  clear hw hk c0 c1 c2 c3 c4 c5 c6 c7 c8 HK0 HP0 HO0 HSE0 HR0
  obtain ⟨c0, c1, c2, c3, c4, c5, c6, c7, c8⟩ := nine (unhide HB1)
  go_wp2_with fail
  refine (markPurseZ ap G.p cp s1 _ pu _ (by omega) b1 (by omega) hzp (unhide HP1)).mono ?_
  rintro e w2 ⟨rfl, hw, hk⟩
  have HP2 := hide hw
  have HK2 := hide (GR.W.keeps (unhide HK1) hk (fun x hx => fun hx2 => (unhide HD2 _ (fp_mks hx) _ (.inl hx2)) rfl))
  have HO2 := hide (GR.W.keeps (unhide HO1) hk (fun x hx => fun hx2 => (Ne.symm (unhide HD3 _ hx2 _ (.inl hx))) rfl))
  have HSE2 := hide (SeenW.keeps (unhide HSE1) hk (fun x hx => fun hx2 => (Ne.symm (unhide HD3 _ hx2 _ (.inr (.inl hx)))) rfl) (fun x hx => fun hx2 => (Ne.symm (unhide HD3 _ hx2 _ (.inr (.inr (.inl hx))))) rfl))
  have HR2 := hide (GR.W.keeps (unhide HR1) hk (fun x hx => fun hx2 => (Ne.symm (unhide HD3 _ hx2 _ (.inr (.inr (.inr hx))))) rfl))
  have HB2 := hide (hk.obj (unhide HB1) (fun hx => by have := (unhide HL).2.1 _ hx; omega))
  have HKW2 := hide ((unhide HKW1).trans (hk.mono (fun x hx => unhide HALL _ (.inr (.inl hx)))))
  clear hw hk c0 c1 c2 c3 c4 c5 c6 c7 c8 HK1 HP1 HO1 HSE1 HR1
  obtain ⟨c0, c1, c2, c3, c4, c5, c6, c7, c8⟩ := nine (unhide HB2)
  go_wp2_with fail
  refine (markSentZ ao G.o co s2 _ out _ (by omega) b3 (by omega) hzo (unhide HO2)).mono ?_
  rintro e w3 ⟨rfl, hw, hk⟩
  have HO3 := hide hw
  have HK3 := hide (GR.W.keeps (unhide HK2) hk (fun x hx => fun hx2 => (unhide HD2 _ (fp_mks hx) _ (.inr (.inl hx2))) rfl))
  have HP3 := hide (GR.W.keeps (unhide HP2) hk (fun x hx => fun hx2 => (unhide HD3 _ (fp_mks hx) _ (.inl hx2)) rfl))
  have HSE3 := hide (SeenW.keeps (unhide HSE2) hk (fun x hx => fun hx2 => (Ne.symm (unhide HD4 _ hx2 _ (.inl hx))) rfl) (fun x hx => fun hx2 => (Ne.symm (unhide HD4 _ hx2 _ (.inr (.inl hx)))) rfl))
  have HR3 := hide (GR.W.keeps (unhide HR2) hk (fun x hx => fun hx2 => (Ne.symm (unhide HD4 _ hx2 _ (.inr (.inr hx)))) rfl))
  have HB3 := hide (hk.obj (unhide HB2) (fun hx => by have := (unhide HL).2.2.1 _ hx; omega))
  have HKW3 := hide ((unhide HKW2).trans (hk.mono (fun x hx => unhide HALL _ (.inr (.inr (.inl hx))))))
  clear hw hk c0 c1 c2 c3 c4 c5 c6 c7 c8 HK2 HP2 HO2 HSE2 HR2
  obtain ⟨c0, c1, c2, c3, c4, c5, c6, c7, c8⟩ := nine (unhide HB3)
  go_wp2_with fail
  refine (markSeenZ as' G.s cs s3 _ G.i seen _ (by omega) b5 b6 hzs (unhide HZ).sk (unhide HN45) (unhide HSE3)).mono ?_
  rintro e w4 ⟨rfl, hw, hk⟩
  have HSE4 := hide hw
  have HK4 := hide (GR.W.keeps (unhide HK3) hk (fun x hx => fun hx2 => by rcases List.mem_append.1 hx2 with hx3 | hx3; exact (unhide HD2 _ (fp_mks hx) _ (.inr (.inr (.inl hx3)))) rfl; exact (unhide HD2 _ (fp_mks hx) _ (.inr (.inr (.inr (.inl hx3))))) rfl))
  have HP4 := hide (GR.W.keeps (unhide HP3) hk (fun x hx => fun hx2 => by rcases List.mem_append.1 hx2 with hx3 | hx3; exact (unhide HD3 _ (fp_mks hx) _ (.inr (.inl hx3))) rfl; exact (unhide HD3 _ (fp_mks hx) _ (.inr (.inr (.inl hx3)))) rfl))
  have HO4 := hide (GR.W.keeps (unhide HO3) hk (fun x hx => fun hx2 => by rcases List.mem_append.1 hx2 with hx3 | hx3; exact (unhide HD4 _ (fp_mks hx) _ (.inl hx3)) rfl; exact (unhide HD4 _ (fp_mks hx) _ (.inr (.inl hx3))) rfl))
  have HR4 := hide (GR.W.keeps (unhide HR3) hk (fun x hx => fun hx2 => by rcases List.mem_append.1 hx2 with hx3 | hx3; exact (Ne.symm (unhide HD5 _ hx3 _ (.inr hx))) rfl; exact (Ne.symm (unhide HD6 _ hx3 _ hx)) rfl))
  have HB4 := hide (hk.obj (unhide HB3) (fun hx => by have := (unhide HL).2.2.2.1 _ hx; omega))
  have HKW4 := hide ((unhide HKW3).trans (hk.mono (fun x hx => by rcases List.mem_append.1 hx with hx | hx; exact unhide HALL _ (.inr (.inr (.inr (.inl hx)))); exact unhide HALL _ (.inr (.inr (.inr (.inr (.inl hx))))))))
  clear hw hk c0 c1 c2 c3 c4 c5 c6 c7 c8 HK3 HP3 HO3 HSE3 HR3
  obtain ⟨c0, c1, c2, c3, c4, c5, c6, c7, c8⟩ := nine (unhide HB4)
  rw [← unhide HQ4]
  go_wp2_with fail
  refine (markReqZ ar G.r cr s4 _ reqs _ (by omega) b7 (by omega) hzr (unhide HR4)).mono ?_
  rintro e w5 ⟨rfl, hw, hk⟩
  have HR5 := hide hw
  have HK5 := hide (GR.W.keeps (unhide HK4) hk (fun x hx => fun hx2 => (unhide HD2 _ (fp_mks hx) _ (.inr (.inr (.inr (.inr hx2))))) rfl))
  have HP5 := hide (GR.W.keeps (unhide HP4) hk (fun x hx => fun hx2 => (unhide HD3 _ (fp_mks hx) _ (.inr (.inr (.inr hx2)))) rfl))
  have HO5 := hide (GR.W.keeps (unhide HO4) hk (fun x hx => fun hx2 => (unhide HD4 _ (fp_mks hx) _ (.inr (.inr hx2))) rfl))
  have HSE5 := hide (SeenW.keeps (unhide HSE4) hk (fun x hx => fun hx2 => (unhide HD5 _ (fp_mS hx) _ (.inr hx2)) rfl) (fun x hx => fun hx2 => (unhide HD6 _ (fpI_mS hx) _ hx2) rfl))
  have HB5 := hide (hk.obj (unhide HB4) (fun hx => by have := (unhide HL).2.2.2.2 _ hx; omega))
  have HKW5 := hide ((unhide HKW4).trans (hk.mono (fun x hx => unhide HALL _ (.inr (.inr (.inr (.inr (.inr hx))))))))
  clear hw hk c0 c1 c2 c3 c4 c5 c6 c7 c8 HK4 HP4 HO4 HSE4 HR4
  obtain ⟨c0, c1, c2, c3, c4, c5, c6, c7, c8⟩ := nine (unhide HB5)
  go_wp2_with fail
  go_ret
  refine ⟨ret_int (by omega), ?_, unhide HKW5⟩
  rw [unhide HMN]
  exact ⟨unhide HK5, unhide HP5, unhide HO5, unhide HSE5, unhide HR5⟩
end Go.Proofs.YtdlhlfndobbocaaGreat
