/- Parts. -/
import Derived.Test.YtbolgdleijjgfaaGreatDoorRs22
import Derived.Test.YtbolgdleijjgfaaGreatDoorRs21
namespace Go.Proofs.YtbolgdleijjgfaaGreatDoor
open Go.Proofs.Tryz
set_option maxHeartbeats 4000000
set_option maxRecDepth 100000
open Go.RowKit
open Mth
variable {w:World} {g:Nat} {t:TypeId}
namespace Mth
instance:Inhabited Mg:=⟨⟨0,0,0,0,0,ByteArray.empty,0⟩⟩
abbrev jh (m:Mg):List Value:=[.int .i64 m.K,.int .i64 m.F,.int .i64 m.T,.int .i64 m.I,.int .i64 m.L,.string m.k,.int .i64 m.N]
theorem jT (m:Mg):(jh m).length=7:=rfl
theorem Pk:∀(m:Mg),∀u∈jh m,u.oneCell'=true:=by
 intro m u hu;simp only[jh,aE8,aFR,or_false] at hu;rcases hu with rfl|rfl|rfl|rfl|rfl|rfl|rfl<;>rfl
def wL (l:List jC) (t ab:Int):Int:=((l.find? λo=>decide (o.t=t)).map (·.i)).getD ab
def qE (n:Nd) (s:jC):Mg:=⟨1,n.id,s.t,s.i,wL n.out s.t s.i,s.k,s.n⟩
def ade (n:Nd):List Mg:=if dR n then n.out.map (qE n) else[]
theorem Fh {α:Type} (f:α->Bool) (l:List α) (i:Nat) (hi:i < l.length) (h:(l.take i).find? f=none):(f l[i]=true->l.find? f=some l[i])/\(f l[i]=false->(l.take (i+1)).find? f=none):=by
 exact axY
theorem WQ {l:List jC} {t ab:Int} {k:Nat} (hk:k < l.length) (h:(l.take k).find? (λo=>decide (o.t=t))=none) (ht:(l[k]).t=t):wL l t ab=(l[k]).i:=by
 unfold wL;rw [(Fh _ l k hk h).1 (aEO ht)];rfl
theorem Qo {l:List jC} {t:Int} {k:Nat} (hk:k < l.length) (h:(l.take k).find? (λo=>decide (o.t=t))=none) (ht:¬(l[k]).t=t):(l.take (k+1)).find? (λo=>decide (o.t=t))=none:=
 (Fh _ l k hk h).2 (aEN ht)
theorem acK {l:List jC} {t ab:Int} (h:(l.take l.length).find? (λo=>decide (o.t=t))=none):wL l t ab=ab:=by
 rw [aFd] at h;unfold wL;rw [h];rfl
end Mth
theorem WH:(Tryz.prog.info? 70).map (λi=>(i.zero,i.size,i.bytes))=some (some (.agg (bQ 0 0 0 0 0 ByteArray.empty 0)),7,64):=Aab
theorem jM {v0 v1 v2 v3 v4 v5 v6:Value} (h:w.heap[g]?=some (.cells #[v0,v1,v2,v3,v4,v5,v6] t (0,0))):
 w.cell? ⟨g,0,none⟩=some v0/\w.cell? ⟨g,1,none⟩=some v1/\w.cell? ⟨g,2,none⟩=some v2/\w.cell? ⟨g,3,none⟩=some v3/\w.cell? ⟨g,4,none⟩=some v4/\w.cell? ⟨g,5,none⟩=some v5/\w.cell? ⟨g,6,none⟩=some v6:=by
 have hc:∀i,w.cell? ⟨g,i,none⟩=#[v0,v1,v2,v3,v4,v5,v6][i]?:=λi=>aEW w g i _ t (0,0) h
 exact⟨hc 0,hc 1,hc 2,hc 3,hc 4,hc 5,hc 6⟩
theorem zo {a0 a1 a2 a3 a4 a5 a6 b0 b1 b2 b3 b4 b5 b6:Value} (h:w.heap[g]?=some (.cells #[a0,a1,a2,a3,a4,a5,a6] t (0,0))):
 (((((((w.setCell ⟨g,0,none⟩ b0).setCell ⟨g,1,none⟩ b1).setCell ⟨g,2,none⟩ b2).setCell ⟨g,3,none⟩ b3).setCell ⟨g,4,none⟩ b4).setCell ⟨g,5,none⟩ b5).setCell ⟨g,6,none⟩ b6).heap[g]?=some (.cells #[b0,b1,b2,b3,b4,b5,b6] t (0,0)):=by
 exact(aN (aN (aN (aN (aN (aN (aN h 0 b0) 1 b1) 2 b2) 3 b3) 4 b4) 5 b5) 6 b6).trans Aab
theorem vG {b0 b1 b2 b3 b4 b5 b6:Value}:aA [g] w (((((((w.setCell ⟨g,0,none⟩ b0).setCell ⟨g,1,none⟩ b1).setCell ⟨g,2,none⟩ b2).setCell ⟨g,3,none⟩ b3).setCell ⟨g,4,none⟩ b4).setCell ⟨g,5,none⟩ b5).setCell ⟨g,6,none⟩ b6):=
 ((((((aA.set b0).trans (aA.set b1)).trans (aA.set b2)).trans (aA.set b3)).trans (aA.set b4)).trans (aA.set b5)).trans (aA.set b6)
abbrev zm7:Array Value:=(bQ 0 0 0 0 0 ⟨#[]⟩ 0)
theorem afU (n:Nd) (A:bq) (t ab:Int) (w:World) (hl:n.out.length<=1048600) (ha:SentAt w A.o n.out):
 Calls Tryz.prog 185 #[gM n A,.int .i64 t,.int .i64 ab] w (dM w (.int .i64 (wL n.out t ab))):=by
 have HA:=Hq (GR.At.below ha (au w (.cells (dH n A) 39)));have hblk:=aEK w (.cells (dH n A) 39);obtain⟨c0,c1,c2,c3,c4,c5,c6,c7,c8⟩:=nine hblk;have HLY:=Hq (λk hk h=> @WQ n.out t ab k hk h);have zy:=Hq (λk hk h=> @Qo n.out t k hk h);have zL:=Hq (@acK n.out t ab);clear ha hblk;generalize wL n.out t ab=LO at *;open an8 in exact vR
theorem J8 (n:Nd) (A:bq) (s:jC) (w:World) (hl:n.out.length<=1048600) (ha:SentAt w A.o n.out):
 Calls Tryz.prog 222 #[gM n A,EP s] w (dM w (nZ (qE n s))):=by
 have HA:=Hq ha;have HLY:=Hq (λk hk h=> @WQ n.out s.t s.i k hk h);have zy:=Hq (λk hk h=> @Qo n.out s.t k hk h);have zL:=Hq (@acK n.out s.t s.i);have HPM:Hid (qE n s=⟨1,n.id,s.t,s.i,wL n.out s.t s.i,s.k,s.n⟩):=rfl;obtain⟨hP,hR,hO,hB⟩:=zV w (.cells (dH n A) 39) (.cells (gI s.i s.t s.k s.n) 145) (.cells zm7 70);have HP:=Hq hP;have HR:=Hq hR;have HO:=Hq hO;have HB:=Hq hB;clear ha hP hR hO hB;rw [ah HPM];generalize wL n.out s.t s.i=LO at *;open an7 in exact vR
def mkMsg (k:Nat):Mg:=⟨(k:Int),(k:Int)+1,(k:Int)+2,(k:Int)+3,(k:Int)+4,mark (k+5),(k:Int)+6⟩
theorem GR.W.sevenM {a:Option Addr} {l:List Mg} (h:GR.W jh 7 w a g l) (i:Nat) (hi:i < l.length):a=some ⟨g,0,none⟩/\g < w.heap.size/\(w.cell? ⟨g,i*7,none⟩=some (.int .i64 l[i].K)/\w.cell? ⟨g,i*7+1,none⟩=some (.int .i64 l[i].F)/\w.cell? ⟨g,i*7+2,none⟩=some (.int .i64 l[i].T)/\w.cell? ⟨g,i*7+3,none⟩=some (.int .i64 l[i].I)/\w.cell? ⟨g,i*7+4,none⟩=some (.int .i64 l[i].L)/\w.cell? ⟨g,i*7+5,none⟩=some (.string l[i].k)/\w.cell? ⟨g,i*7+6,none⟩=some (.int .i64 l[i].N))/\w.frozen? ⟨g,i*7,none⟩=false/\w.frozen? ⟨g,i*7+1,none⟩=false/\w.frozen? ⟨g,i*7+2,none⟩=false/\w.frozen? ⟨g,i*7+3,none⟩=false/\w.frozen? ⟨g,i*7+4,none⟩=false/\w.frozen? ⟨g,i*7+5,none⟩=false/\w.frozen? ⟨g,i*7+6,none⟩=false:=by
 obtain⟨e,hg,hc⟩:=h i hi;exact⟨e,hg,⟨by simpa using(hc 0 Aaa).1,by simpa using(hc 1 Aaa).1,by simpa using(hc 2 Aaa).1,by simpa using(hc 3 Aaa).1,by simpa using(hc 4 Aaa).1,by simpa using(hc 5 Aaa).1,by simpa using(hc 6 Aaa).1⟩,by simpa using(hc 0 Aaa).2,(hc 1 Aaa).2,(hc 2 Aaa).2,(hc 3 Aaa).2,(hc 4 Aaa).2,(hc 5 Aaa).2,(hc 6 Aaa).2⟩
theorem Qs (a:Option Addr) (g c s:Nat) (l:List Mg) (w:World) (hs0:0 < s) (hs1:s<=4000000000000000) (hl:l.length<=1048600) (ha:GR.W jh 7 w a g l):
 Calls Tryz.prog 13 #[.slice a l.length c,.int .i64 s] w λe w'=>e= .returned (.int .i64 (s+7*(l.length:Int)))/\GR.W jh 7 w' a g (jH mkMsg 7 s l l.length)/\aA (fp g l) w w':=by
 have HA:=Hq ha;clear ha;go_in
 go_wp2_with fail;go_loopw [1,5] (λkk i wr=>∃k m:Nat,k<=l.length/\i= .int .i64 k/\kk= .int .i64 m/\m=s+7*k/\GR.W jh 7 wr a g (jH mkMsg 7 s l k)/\aA (fp g l) w wr) (λ_ i _=>l.length - (intOf i).toNat)
 case atStart=>exact XW
 case round=>
  open apL in exact SL
theorem Pz (a:Option Addr) (g c n s:Nat) (l:List Mg) (w:World) (hn:n=l.length) (hs0:0 < s) (hs1:s<=4000000000000000) (hl:l.length<=1048600) (ha:GR.W jh 7 w a g (jH mkMsg 7 s l l.length)):
 Calls Tryz.prog 16 #[.slice a n c,.int .i64 s] w (dM w (.int .i64 (s+7*(l.length:Int)))):=by
 have HA:=Hq ha;clear ha;subst hn;go_in
 go_wp2_with fail;go_loopw [1,5] (λkk i wr=>∃k m:Nat,k<=l.length/\i= .int .i64 k/\kk= .int .i64 m/\m=s+7*k/\aH w wr) (λ_ i _=>l.length - (intOf i).toNat)
 case atStart=>exact Tg
 case round=>
  open arU in exact ER
end Go.Proofs.YtbolgdleijjgfaaGreatDoor
