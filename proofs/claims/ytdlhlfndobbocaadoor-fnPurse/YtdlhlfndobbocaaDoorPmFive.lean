/-
  The program's movedOrSame, Mint, Gain, Part, Spend and Unspend.
-/
import Derived.Test.YtdlhlfndobbocaaDoorPmMoved
namespace Go.Proofs.YtdlhlfndobbocaaDoor
open Go.RowKit Go.Maps
open Mth

theorem Mth.addP_no {l : List Pu} {key : ByteArray} {dm df ds n : Int} (h : (addP l key dm df ds n).2 = false) : (addP l key dm df ds n).1 = l := by
  unfold addP withP at *
  split at h
  · cases h
  · rename_i hc
    rw [if_neg hc]

/-- What a call that hands a list of purses back leaves. -/
def GivesP (w : World) (r : List Pu × Bool) (e : Ending) (w' : World) : Prop := ∃ a c g, w.heap.size ≤ g ∧ e = .returned (.tuple #[.slice a r.1.length c, .bool r.2]) ∧ PuW w' a g r.1 ∧ Below w.heap.size w w'

set_option maxRecDepth 100000 in
set_option maxHeartbeats 2000000 in
theorem implMos (a : Option Addr) (cap : Nat) (l : List Pu) (key : ByteArray) (dm df ds n : Int) (E : Nat → Addr) (w : World) (hl : l.length ≤ 1048576) (hks : ∀ p ∈ l, p.k.size ≤ 1048576) (hkey : key.size ≤ 1048576)
    (hd1 : dm = -1 ∨ dm = 0 ∨ dm = 1) (hd2 : df = -1 ∨ df = 0 ∨ df = 1) (hd3 : ds = -1 ∨ ds = 0 ∨ ds = 1) (ha : PursesAt w a l) (he : Errs w E) :
    Calls Tryd.prog 34 #[.slice a l.length cap, .string key, .int .i64 n, shv dm df ds] w (GivesP w (addP l key dm df ds n)) := by
  have hb0 := below_one' w (.cells #[.int .i64 dm, .int .i64 df, .int .i64 ds] 42)
  have HMV := hide (implMoved a cap l key dm df ds n E _ hl hks hkey hd1 hd2 hd3 (GR.At.below ha hb0) (he.below hb0))
  have HE := hide he
  have HCP := hide (fun w1 (hb : Below w.heap.size w w1) => implCopy a cap l w1 hl hks (GR.At.below ha hb))
  have HNO := hide (addP_no (l := l) (key := key) (dm := dm) (df := df) (ds := ds) (n := n))
  clear ha he hks hb0 hd1 hd2 hd3
  generalize addP l key dm df ds n = r at *
  obtain ⟨L, bo⟩ := r
  dsimp only at HMV HNO
  unfold GivesP
  go_enter Tryd.func34, Tryd.ntmps34
  go_wp2_with fail
  refine (unhide HMV).mono ?_
  rintro e w1 ⟨hb1, hcase⟩
  have HB1 := hide (Fo.one_block hb1).2.2
  have HS := hide hb1.size
  clear hb1 HMV
  rcases hcase with ⟨hno, i, hi, rfl⟩ | ⟨hyes, g, hg, rfl, hblk⟩
  · have hL := unhide HNO hno
    subst hno hL
    have HIR := hide (isRefusal_at ((unhide HE).below (unhide HB1)) i hi)
    have HCX := hide (unhide HCP _ (unhide HB1))
    clear HCP HNO
    go_wp2_with fail
    refine (unhide HIR).mono ?_
    rintro e w2 ⟨rfl, rfl⟩
    go_wp2_with fail
    refine (unhide HCX).mono ?_
    rintro e w3 ⟨a3, c3, g3, hg3, rfl, hblk3, hb3⟩
    have HK3 := hide hblk3
    have HB3 := hide ((unhide HB1).trans (hb3.mono (unhide HB1).size))
    clear hblk3 hb3
    go_wp2_with fail
    go_ret2
    exact ⟨_, _, g3, Nat.le_trans (unhide HB1).size hg3, rfl, unhide HK3, unhide HB3⟩
  · subst hyes
    have HIR := hide (isRefusal_nil ((unhide HE).below (unhide HB1)))
    have HK := hide hblk
    have hge : w.heap.size ≤ g := by have := unhide HS; simp at hg; omega
    clear HCP HNO hblk
    go_wp2_with fail
    refine (unhide HIR).mono ?_
    rintro e w2 ⟨rfl, rfl⟩
    go_wp2_with fail
    go_ret2
    exact ⟨_, _, g, hge, rfl, PuW.of_blk (unhide HK), unhide HB1⟩

set_option maxRecDepth 100000 in
theorem implMint (a : Option Addr) (cap : Nat) (l : List Pu) (key : ByteArray) (n : Int) (E : Nat → Addr) (w : World) (hl : l.length ≤ 1048576) (hks : ∀ p ∈ l, p.k.size ≤ 1048576) (hkey : key.size ≤ 1048576) (ha : PursesAt w a l) (he : Errs w E) :
    Calls Tryd.prog 12 #[.slice a l.length cap, .string key, .int .i64 n] w (GivesP w (addP l key (1) (1) (0) n)) := by
  have H := hide (implMos a cap l key (1) (1) (0) n E w hl hks hkey (by omega) (by omega) (by omega) ha he)
  clear ha he hks
  generalize addP l key (1) (1) (0) n = r at *
  unfold GivesP at *
  go_enter Tryd.func12, Tryd.ntmps12
  go_wp2_with fail
  refine (unhide H).mono ?_
  rintro e w1 ⟨a1, c1, g, hg, rfl, hblk, hb⟩
  have HK := hide hblk
  have HB := hide hb
  clear hblk hb
  go_wp2_with fail
  go_ret2
  exact ⟨_, _, g, hg, rfl, unhide HK, unhide HB⟩

set_option maxRecDepth 100000 in
theorem implGain (a : Option Addr) (cap : Nat) (l : List Pu) (key : ByteArray) (n : Int) (E : Nat → Addr) (w : World) (hl : l.length ≤ 1048576) (hks : ∀ p ∈ l, p.k.size ≤ 1048576) (hkey : key.size ≤ 1048576) (ha : PursesAt w a l) (he : Errs w E) :
    Calls Tryd.prog 13 #[.slice a l.length cap, .string key, .int .i64 n] w (GivesP w (addP l key (0) (1) (0) n)) := by
  have H := hide (implMos a cap l key (0) (1) (0) n E w hl hks hkey (by omega) (by omega) (by omega) ha he)
  clear ha he hks
  generalize addP l key (0) (1) (0) n = r at *
  unfold GivesP at *
  go_enter Tryd.func13, Tryd.ntmps13
  go_wp2_with fail
  refine (unhide H).mono ?_
  rintro e w1 ⟨a1, c1, g, hg, rfl, hblk, hb⟩
  have HK := hide hblk
  have HB := hide hb
  clear hblk hb
  go_wp2_with fail
  go_ret2
  exact ⟨_, _, g, hg, rfl, unhide HK, unhide HB⟩

set_option maxRecDepth 100000 in
theorem implPart (a : Option Addr) (cap : Nat) (l : List Pu) (key : ByteArray) (n : Int) (E : Nat → Addr) (w : World) (hl : l.length ≤ 1048576) (hks : ∀ p ∈ l, p.k.size ≤ 1048576) (hkey : key.size ≤ 1048576) (ha : PursesAt w a l) (he : Errs w E) :
    Calls Tryd.prog 14 #[.slice a l.length cap, .string key, .int .i64 n] w (GivesP w (addP l key (0) (-1) (0) n)) := by
  have H := hide (implMos a cap l key (0) (-1) (0) n E w hl hks hkey (by omega) (by omega) (by omega) ha he)
  clear ha he hks
  generalize addP l key (0) (-1) (0) n = r at *
  unfold GivesP at *
  go_enter Tryd.func14, Tryd.ntmps14
  go_wp2_with fail
  refine (unhide H).mono ?_
  rintro e w1 ⟨a1, c1, g, hg, rfl, hblk, hb⟩
  have HK := hide hblk
  have HB := hide hb
  clear hblk hb
  go_wp2_with fail
  go_ret2
  exact ⟨_, _, g, hg, rfl, unhide HK, unhide HB⟩

set_option maxRecDepth 100000 in
theorem implSpend (a : Option Addr) (cap : Nat) (l : List Pu) (key : ByteArray) (n : Int) (E : Nat → Addr) (w : World) (hl : l.length ≤ 1048576) (hks : ∀ p ∈ l, p.k.size ≤ 1048576) (hkey : key.size ≤ 1048576) (ha : PursesAt w a l) (he : Errs w E) :
    Calls Tryd.prog 11 #[.slice a l.length cap, .string key, .int .i64 n] w (GivesP w (addP l key (0) (-1) (1) n)) := by
  have H := hide (implMos a cap l key (0) (-1) (1) n E w hl hks hkey (by omega) (by omega) (by omega) ha he)
  clear ha he hks
  generalize addP l key (0) (-1) (1) n = r at *
  unfold GivesP at *
  go_enter Tryd.func11, Tryd.ntmps11
  go_wp2_with fail
  refine (unhide H).mono ?_
  rintro e w1 ⟨a1, c1, g, hg, rfl, hblk, hb⟩
  have HK := hide hblk
  have HB := hide hb
  clear hblk hb
  go_wp2_with fail
  go_ret2
  exact ⟨_, _, g, hg, rfl, unhide HK, unhide HB⟩

set_option maxRecDepth 100000 in
theorem implUnspend (a : Option Addr) (cap : Nat) (l : List Pu) (key : ByteArray) (n : Int) (E : Nat → Addr) (w : World) (hl : l.length ≤ 1048576) (hks : ∀ p ∈ l, p.k.size ≤ 1048576) (hkey : key.size ≤ 1048576) (ha : PursesAt w a l) (he : Errs w E) :
    Calls Tryd.prog 15 #[.slice a l.length cap, .string key, .int .i64 n] w (GivesP w (addP l key (0) (1) (-1) n)) := by
  have H := hide (implMos a cap l key (0) (1) (-1) n E w hl hks hkey (by omega) (by omega) (by omega) ha he)
  clear ha he hks
  generalize addP l key (0) (1) (-1) n = r at *
  unfold GivesP at *
  go_enter Tryd.func15, Tryd.ntmps15
  go_wp2_with fail
  refine (unhide H).mono ?_
  rintro e w1 ⟨a1, c1, g, hg, rfl, hblk, hb⟩
  have HK := hide hblk
  have HB := hide hb
  clear hblk hb
  go_wp2_with fail
  go_ret2
  exact ⟨_, _, g, hg, rfl, unhide HK, unhide HB⟩
end Go.Proofs.YtdlhlfndobbocaaDoor
