/- Parts. -/
import Derived.Test.YtohmklmkjmlpjaaGreatDoorRk20
import Derived.Test.YtohmklmkjmlpjaaGreatDoorRk19
namespace Go.Proofs.YtohmklmkjmlpjaaGreatDoor
open Go.Proofs.Tryz
set_option maxHeartbeats 4000000
set_option maxRecDepth 100000
open Go.RowKit
open Mth
variable {w:World} {g:Nat} {t:TypeId}
namespace Mth
instance:Inhabited Mg:=⟨⟨0,0,0,0,0,ByteArray.empty,0⟩⟩
abbrev lu (m:Mg):List Value:=[.int .i64 m.K,.int .i64 m.F,.int .i64 m.T,.int .i64 m.I,.int .i64 m.L,.string m.k,.int .i64 m.N]
theorem qO (m:Mg):(lu m).length=7:=rfl
theorem OX:∀(m:Mg),∀u∈lu m,u.oneCell'=true:=by
 intro m u hu;simp only[lu,List.mem_cons,List.not_mem_nil,or_false] at hu;rcases hu with rfl|rfl|rfl|rfl|rfl|rfl|rfl<;>rfl
def vH (l:List jw) (t ab:Int):Int:=((l.find? λo=>decide (o.t=t)).map (·.i)).getD ab
def nZ (n:Nd) (s:jw):Mg:=⟨1,n.id,s.t,s.i,vH n.out s.t s.i,s.k,s.n⟩
def ac0 (n:Nd):List Mg:=if dY n then n.out.map (nZ n) else[]
theorem Ey {α:Type} (f:α->Bool) (l:List α) (i:Nat) (hi:i < l.length) (h:(l.take i).find? f=none):(f l[i]=true->l.find? f=some l[i])/\(f l[i]=false->(l.take (i+1)).find? f=none):=by
 exact aBO
theorem VT {l:List jw} {t ab:Int} {k:Nat} (hk:k < l.length) (h:(l.take k).find? (λo=>decide (o.t=t))=none) (ht:(l[k]).t=t):vH l t ab=(l[k]).i:=by
 unfold vH;rw [(Ey _ l k hk h).1 (decide_eq_true ht)];rfl
theorem P9 {l:List jw} {t:Int} {k:Nat} (hk:k < l.length) (h:(l.take k).find? (λo=>decide (o.t=t))=none) (ht:¬(l[k]).t=t):(l.take (k+1)).find? (λo=>decide (o.t=t))=none:=
 (Ey _ l k hk h).2 (decide_eq_false ht)
theorem acG {l:List jw} {t ab:Int} (h:(l.take l.length).find? (λo=>decide (o.t=t))=none):vH l t ab=ab:=by
 rw [List.take_length] at h;unfold vH;rw [h];rfl
end Mth
theorem VO:(Tryz.prog.info? 98).map (λi=>(i.zero,i.size,i.bytes))=some (some (.agg (bX 0 0 0 0 0 ByteArray.empty 0)),7,64):=Aab
theorem jG {v0 v1 v2 v3 v4 v5 v6:Value} (h:w.heap[g]?=some (.cells #[v0,v1,v2,v3,v4,v5,v6] t (0,0))):
 w.cell? ⟨g,0,none⟩=some v0/\w.cell? ⟨g,1,none⟩=some v1/\w.cell? ⟨g,2,none⟩=some v2/\w.cell? ⟨g,3,none⟩=some v3/\w.cell? ⟨g,4,none⟩=some v4/\w.cell? ⟨g,5,none⟩=some v5/\w.cell? ⟨g,6,none⟩=some v6:=by
 have hc:∀i,w.cell? ⟨g,i,none⟩=#[v0,v1,v2,v3,v4,v5,v6][i]?:=λi=>cell_of_row w g i _ t (0,0) h
 exact⟨hc 0,hc 1,hc 2,hc 3,hc 4,hc 5,hc 6⟩
theorem yG {a0 a1 a2 a3 a4 a5 a6 b0 b1 b2 b3 b4 b5 b6:Value} (h:w.heap[g]?=some (.cells #[a0,a1,a2,a3,a4,a5,a6] t (0,0))):
 (((((((w.setCell ⟨g,0,none⟩ b0).setCell ⟨g,1,none⟩ b1).setCell ⟨g,2,none⟩ b2).setCell ⟨g,3,none⟩ b3).setCell ⟨g,4,none⟩ b4).setCell ⟨g,5,none⟩ b5).setCell ⟨g,6,none⟩ b6).heap[g]?=some (.cells #[b0,b1,b2,b3,b4,b5,b6] t (0,0)):=by
 have h0:(w.setCell ⟨g,0,none⟩ b0).heap[g]?=some (.cells #[b0,a1,a2,a3,a4,a5,a6] t (0,0)):=aR h 0 b0;have h1:((w.setCell ⟨g,0,none⟩ b0).setCell ⟨g,1,none⟩ b1).heap[g]?=some (.cells #[b0,b1,a2,a3,a4,a5,a6] t (0,0)):=aR h0 1 b1;have h2:(((w.setCell ⟨g,0,none⟩ b0).setCell ⟨g,1,none⟩ b1).setCell ⟨g,2,none⟩ b2).heap[g]?=some (.cells #[b0,b1,b2,a3,a4,a5,a6] t (0,0)):=aR h1 2 b2;have h3:((((w.setCell ⟨g,0,none⟩ b0).setCell ⟨g,1,none⟩ b1).setCell ⟨g,2,none⟩ b2).setCell ⟨g,3,none⟩ b3).heap[g]?=some (.cells #[b0,b1,b2,b3,a4,a5,a6] t (0,0)):=aR h2 3 b3;have h4:(((((w.setCell ⟨g,0,none⟩ b0).setCell ⟨g,1,none⟩ b1).setCell ⟨g,2,none⟩ b2).setCell ⟨g,3,none⟩ b3).setCell ⟨g,4,none⟩ b4).heap[g]?=some (.cells #[b0,b1,b2,b3,b4,a5,a6] t (0,0)):=aR h3 4 b4;have h5:((((((w.setCell ⟨g,0,none⟩ b0).setCell ⟨g,1,none⟩ b1).setCell ⟨g,2,none⟩ b2).setCell ⟨g,3,none⟩ b3).setCell ⟨g,4,none⟩ b4).setCell ⟨g,5,none⟩ b5).heap[g]?=some (.cells #[b0,b1,b2,b3,b4,b5,a6] t (0,0)):=aR h4 5 b5;exact aR h5 6 b6
theorem uD {b0 b1 b2 b3 b4 b5 b6:Value}:aC [g] w (((((((w.setCell ⟨g,0,none⟩ b0).setCell ⟨g,1,none⟩ b1).setCell ⟨g,2,none⟩ b2).setCell ⟨g,3,none⟩ b3).setCell ⟨g,4,none⟩ b4).setCell ⟨g,5,none⟩ b5).setCell ⟨g,6,none⟩ b6):=
 ((((((aC.set b0).trans (aC.set b1)).trans (aC.set b2)).trans (aC.set b3)).trans (aC.set b4)).trans (aC.set b5)).trans (aC.set b6)
abbrev zm7:Array Value:=(bX 0 0 0 0 0 ⟨#[]⟩ 0)
theorem afH (n:Nd) (A:bV) (t ab:Int) (w:World) (hl:n.out.length<=1048600) (ha:SentAt w A.o n.out):
 Calls Tryz.prog 183 #[fQ n A,.int .i64 t,.int .i64 ab] w (eO w (.int .i64 (vH n.out t ab))):=by
 have HA:=Hq (GR.At.below ha (ay w (.cells (dH n A) 40)));have hblk:=heap_alloc_new w (.cells (dH n A) 40);obtain⟨c0,c1,c2,c3,c4,c5,c6,c7,c8⟩:=nine hblk;have HLY:=Hq (λk hk h=> @VT n.out t ab k hk h);have yJ:=Hq (λk hk h=> @P9 n.out t k hk h);have Dy:=Hq (@acG n.out t ab);clear ha hblk;generalize vH n.out t ab=LO at *;open aqJ in exact wO
theorem Ju (n:Nd) (A:bV) (s:jw) (w:World) (hl:n.out.length<=1048600) (ha:SentAt w A.o n.out):
 Calls Tryz.prog 217 #[fQ n A,Ej s] w (eO w (mY (nZ n s))):=by
 have HA:=Hq ha;have HLY:=Hq (λk hk h=> @VT n.out s.t s.i k hk h);have yJ:=Hq (λk hk h=> @P9 n.out s.t k hk h);have Dy:=Hq (@acG n.out s.t s.i);have Zi:Hid (nZ n s=⟨1,n.id,s.t,s.i,vH n.out s.t s.i,s.k,s.n⟩):=rfl;obtain⟨hP,hR,hO,hB⟩:=zh w (.cells (dH n A) 40) (.cells (fA s.i s.t s.k s.n) 91) (.cells zm7 98);have HP:=Hq hP;have HR:=Hq hR;have HO:=Hq hO;have HB:=Hq hB;clear ha hP hR hO hB;rw [ah Zi];generalize vH n.out s.t s.i=LO at *;open aqI in exact wO
end Go.Proofs.YtohmklmkjmlpjaaGreatDoor
