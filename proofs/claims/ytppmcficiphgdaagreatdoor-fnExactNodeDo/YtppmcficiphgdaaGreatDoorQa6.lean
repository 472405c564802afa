/-
  NdPayM.
-/
import Derived.Test.YtppmcficiphgdaaGreatDoorQa3
import Derived.Test.YtppmcficiphgdaaGreatDoorQa4
import Derived.Test.YtppmcficiphgdaaGreatDoorQa5
import Derived.Test.YtppmcficiphgdaaGreatDoorQaZ3
namespace Go.Proofs.YtppmcficiphgdaaGreatDoor
set_option maxHeartbeats 4000000
set_option maxRecDepth 100000
open Go.RowKit
open Mth
namespace Mth
instance:Inhabited Mg:=⟨⟨0,0,0,0,0,ByteArray.empty,0⟩⟩
abbrev encM (m:Mg):List Value:=[.int .i64 m.K,.int .i64 m.F,.int .i64 m.T,.int .i64 m.I,.int .i64 m.L,.string m.k,.int .i64 m.N]
theorem encM_length (m:Mg):(encM m).length=7:=rfl
theorem encM_one:∀(m:Mg),∀u∈encM m,u.oneCell'=true:=by
 intro m u hu;simp only[encM,List.mem_cons,List.not_mem_nil,or_false] at hu;rcases hu with rfl|rfl|rfl|rfl|rfl|rfl|rfl<;>rfl
def lowOf (l:List Snt) (t ab:Int):Int:=((l.find? fun o=>decide (o.t=t)).map (·.i)).getD ab
def payM (n:Nd) (s:Snt):Mg:=⟨1,n.id,s.t,s.i,lowOf n.out s.t s.i,s.k,s.n⟩
def paysL (n:Nd):List Mg:=if ndOk n then n.out.map (payM n) else[]
theorem find_stepG {α:Type} (f:α→Bool) (l:List α) (i:Nat) (hi:i < l.length) (h:(l.take i).find? f=none):(f l[i]=true→l.find? f=some l[i])∧(f l[i]=false→(l.take (i+1)).find? f=none):=by
 exact Za28
theorem low_yes {l:List Snt} {t ab:Int} {k:Nat} (hk:k < l.length) (h:(l.take k).find? (fun o=>decide (o.t=t))=none) (ht:(l[k]).t=t):lowOf l t ab=(l[k]).i:=by
 unfold lowOf;rw [(find_stepG _ l k hk h).1 (decide_eq_true ht)];rfl
theorem low_step {l:List Snt} {t:Int} {k:Nat} (hk:k < l.length) (h:(l.take k).find? (fun o=>decide (o.t=t))=none) (ht:¬(l[k]).t=t):(l.take (k+1)).find? (fun o=>decide (o.t=t))=none:=
 (find_stepG _ l k hk h).2 (decide_eq_false ht)
theorem low_no {l:List Snt} {t ab:Int} (h:(l.take l.length).find? (fun o=>decide (o.t=t))=none):lowOf l t ab=ab:=by
 rw [List.take_length] at h;unfold lowOf;rw [h];rfl
end Mth
theorem infoMsg:(Tryz.prog.info? 32).map (fun i=>(i.zero,i.size,i.bytes))=some (some (.agg #[.int .i64 0,.int .i64 0,.int .i64 0,.int .i64 0,.int .i64 0,.string ByteArray.empty,.int .i64 0]),7,64):=by kernel_rfl
abbrev MsgsAt (w:World) (a:Option Addr) (l:List Mg):Prop:=GR.At encM 7 w a l
theorem MsgsAt.seven {w:World} {a:Option Addr} {l:List Mg} (h:MsgsAt w a l) (i:Nat) (hi:i < l.length):∃g off,a=some ⟨g,off,none⟩∧g < w.heap.size∧w.cell? ⟨g,off+i*7,none⟩=some (.int .i64 l[i].K)∧w.cell? ⟨g,off+i*7+1,none⟩=some (.int .i64 l[i].F)∧w.cell? ⟨g,off+i*7+2,none⟩=some (.int .i64 l[i].T)∧w.cell? ⟨g,off+i*7+3,none⟩=some (.int .i64 l[i].I)∧w.cell? ⟨g,off+i*7+4,none⟩=some (.int .i64 l[i].L)∧w.cell? ⟨g,off+i*7+5,none⟩=some (.string l[i].k)∧w.cell? ⟨g,off+i*7+6,none⟩=some (.int .i64 l[i].N):=by
 obtain⟨g,off,e,hg,hc⟩:=h i hi;refine⟨g,off,e,hg,?_,?_,?_,?_,?_,?_,?_⟩
 ·simpa using hc 0 (by omega)
 ·simpa [Nat.add_assoc] using hc 1 (by omega)
 ·simpa [Nat.add_assoc] using hc 2 (by omega)
 ·simpa [Nat.add_assoc] using hc 3 (by omega)
 ·simpa [Nat.add_assoc] using hc 4 (by omega)
 ·simpa [Nat.add_assoc] using hc 5 (by omega)
 ·simpa [Nat.add_assoc] using hc 6 (by omega)
theorem sevenC {w:World} {g:Nat} {v0 v1 v2 v3 v4 v5 v6:Value} {t:TypeId} (h:w.heap[g]?=some (.cells #[v0,v1,v2,v3,v4,v5,v6] t (0,0))):
 w.cell? ⟨g,0,none⟩=some v0∧w.cell? ⟨g,1,none⟩=some v1∧w.cell? ⟨g,2,none⟩=some v2∧w.cell? ⟨g,3,none⟩=some v3∧w.cell? ⟨g,4,none⟩=some v4∧w.cell? ⟨g,5,none⟩=some v5∧w.cell? ⟨g,6,none⟩=some v6:=by
 have hc:∀i,w.cell? ⟨g,i,none⟩=#[v0,v1,v2,v3,v4,v5,v6][i]?:=fun i=>cell_of_row w g i _ t (0,0) h
 exact⟨hc 0,hc 1,hc 2,hc 3,hc 4,hc 5,hc 6⟩
theorem seven_setN {w:World} {g:Nat} {a0 a1 a2 a3 a4 a5 a6 b0 b1 b2 b3 b4 b5 b6:Value} {t:TypeId} (h:w.heap[g]?=some (.cells #[a0,a1,a2,a3,a4,a5,a6] t (0,0))):
 (((((((w.setCell ⟨g,0,none⟩ b0).setCell ⟨g,1,none⟩ b1).setCell ⟨g,2,none⟩ b2).setCell ⟨g,3,none⟩ b3).setCell ⟨g,4,none⟩ b4).setCell ⟨g,5,none⟩ b5).setCell ⟨g,6,none⟩ b6).heap[g]?=some (.cells #[b0,b1,b2,b3,b4,b5,b6] t (0,0)):=by
 have h0:(w.setCell ⟨g,0,none⟩ b0).heap[g]?=some (.cells #[b0,a1,a2,a3,a4,a5,a6] t (0,0)):=blk_setO h 0 b0;have h1:((w.setCell ⟨g,0,none⟩ b0).setCell ⟨g,1,none⟩ b1).heap[g]?=some (.cells #[b0,b1,a2,a3,a4,a5,a6] t (0,0)):=blk_setO h0 1 b1;have h2:(((w.setCell ⟨g,0,none⟩ b0).setCell ⟨g,1,none⟩ b1).setCell ⟨g,2,none⟩ b2).heap[g]?=some (.cells #[b0,b1,b2,a3,a4,a5,a6] t (0,0)):=blk_setO h1 2 b2;have h3:((((w.setCell ⟨g,0,none⟩ b0).setCell ⟨g,1,none⟩ b1).setCell ⟨g,2,none⟩ b2).setCell ⟨g,3,none⟩ b3).heap[g]?=some (.cells #[b0,b1,b2,b3,a4,a5,a6] t (0,0)):=blk_setO h2 3 b3;have h4:(((((w.setCell ⟨g,0,none⟩ b0).setCell ⟨g,1,none⟩ b1).setCell ⟨g,2,none⟩ b2).setCell ⟨g,3,none⟩ b3).setCell ⟨g,4,none⟩ b4).heap[g]?=some (.cells #[b0,b1,b2,b3,b4,a5,a6] t (0,0)):=blk_setO h3 4 b4;have h5:((((((w.setCell ⟨g,0,none⟩ b0).setCell ⟨g,1,none⟩ b1).setCell ⟨g,2,none⟩ b2).setCell ⟨g,3,none⟩ b3).setCell ⟨g,4,none⟩ b4).setCell ⟨g,5,none⟩ b5).heap[g]?=some (.cells #[b0,b1,b2,b3,b4,b5,a6] t (0,0)):=blk_setO h4 5 b5;exact blk_setO h5 6 b6
theorem seven_keepsN {w:World} {g:Nat} {b0 b1 b2 b3 b4 b5 b6:Value}:KeepsL [g] w (((((((w.setCell ⟨g,0,none⟩ b0).setCell ⟨g,1,none⟩ b1).setCell ⟨g,2,none⟩ b2).setCell ⟨g,3,none⟩ b3).setCell ⟨g,4,none⟩ b4).setCell ⟨g,5,none⟩ b5).setCell ⟨g,6,none⟩ b6):=
 ((((((KeepsL.set b0).trans (KeepsL.set b1)).trans (KeepsL.set b2)).trans (KeepsL.set b3)).trans (KeepsL.set b4)).trans (KeepsL.set b5)).trans (KeepsL.set b6)
abbrev zm7:Array Value:=#[.int .i64 0,.int .i64 0,.int .i64 0,.int .i64 0,.int .i64 0,.string ⟨#[]⟩,.int .i64 0]
theorem specLow (n:Nd) (A:Ads) (t ab:Int) (w:World) (hl:n.out.length≤1048600) (ha:SentAt w A.o n.out):
 Calls Tryz.prog 180 #[ndv n A,.int .i64 t,.int .i64 ab] w fun e w'=>e= .returned (.int .i64 (lowOf n.out t ab))∧Below w.heap.size w w':=by
 have HA:=hide (GR.At.below ha (below_one w (.cells (ndc n A) 30)));have hblk:=heap_alloc_new w (.cells (ndc n A) 30);obtain⟨c0,c1,c2,c3,c4,c5,c6,c7,c8⟩:=nine hblk;have HLY:=hide (fun k hk h=> @low_yes n.out t ab k hk h);have HLS:=hide (fun k hk h=> @low_step n.out t k hk h);have HLN:=hide (@low_no n.out t ab);clear ha hblk;generalize lowOf n.out t ab=LO at *;open Sa112 in exact Ya26
theorem implPayOf (n:Nd) (A:Ads) (s:Snt) (w:World) (hl:n.out.length≤1048600) (ha:SentAt w A.o n.out):
 Calls Tryz.prog 166 #[ndv n A,SentV s] w fun e w'=>e= .returned (mgv (payM n s))∧Below w.heap.size w w':=by
 have HA:=hide ha;have HLY:=hide (fun k hk h=> @low_yes n.out s.t s.i k hk h);have HLS:=hide (fun k hk h=> @low_step n.out s.t k hk h);have HLN:=hide (@low_no n.out s.t s.i);have HPM:Hid (payM n s=⟨1,n.id,s.t,s.i,lowOf n.out s.t s.i,s.k,s.n⟩):=rfl;obtain⟨hP,hR,hO,hB⟩:=allocs3 w (.cells (ndc n A) 30) (.cells #[.int .i64 s.i,.int .i64 s.t,.string s.k,.int .i64 s.n] 79) (.cells zm7 32);have HP:=hide hP;have HR:=hide hR;have HO:=hide hO;have HB:=hide hB;clear ha hP hR hO hB;rw [unhide HPM];generalize lowOf n.out s.t s.i=LO at *;open Sa111 in exact Ya26
end Go.Proofs.YtppmcficiphgdaaGreatDoor
