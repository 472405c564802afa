/- Parts. -/
import Derived.Test.YtohmklmkjmlpjaaGreatDoorRk17
import Derived.Test.YtohmklmkjmlpjaaGreatDoorRk16
namespace Go.Proofs.YtohmklmkjmlpjaaGreatDoor
open Go.Proofs.Tryz
set_option maxHeartbeats 4000000
set_option maxRecDepth 100000
open Go.RowKit
open Mth
variable {n:Nd} {w:World} {g i:Nat} {l:List Rq} {no:Int} {α:Type} {t:TypeId} {o:gK}
namespace Mth
instance:Inhabited Mg:=⟨⟨0,0,0,0,0,ByteArray.empty,0⟩⟩
abbrev lK (m:Mg):List Value:=[.int .i64 m.K,.int .i64 m.F,.int .i64 m.T,.int .i64 m.I,.int .i64 m.L,.string m.k,.int .i64 m.N]
theorem qE (m:Mg):(lK m).length=7:=rfl
theorem OI:∀(m:Mg),∀u∈lK m,u.oneCell'=true:=by
 intro m u hu;simp only[lK,List.mem_cons,List.not_mem_nil,or_false] at hu;rcases hu with rfl|rfl|rfl|rfl|rfl|rfl|rfl<;>rfl
def vG (l:List jK) (t ab:Int):Int:=((l.find? λo=>decide (o.t=t)).map (·.i)).getD ab
def pX (n:Nd) (s:jK):Mg:=⟨1,n.id,s.t,s.i,vG n.out s.t s.i,s.k,s.n⟩
def acv (n:Nd):List Mg:=if dW n then n.out.map (pX n) else[]
theorem Eo (f:α->Bool) (l:List α) (i:Nat) (hi:i < l.length) (h:(l.take i).find? f=none):(f l[i]=true->l.find? f=some l[i])/\(f l[i]=false->(l.take (i+1)).find? f=none):=by
 exact axG
theorem Vv {l:List jK} {t ab:Int} {k:Nat} (hk:k < l.length) (h:(l.take k).find? (λo=>decide (o.t=t))=none) (ht:(l[k]).t=t):vG l t ab=(l[k]).i:=by
 unfold vG;rw [(Eo _ l k hk h).1 (decide_eq_true ht)];rfl
theorem PK {l:List jK} {t:Int} {k:Nat} (hk:k < l.length) (h:(l.take k).find? (λo=>decide (o.t=t))=none) (ht:¬(l[k]).t=t):(l.take (k+1)).find? (λo=>decide (o.t=t))=none:=
 (Eo _ l k hk h).2 (decide_eq_false ht)
theorem ab3 {l:List jK} {t ab:Int} (h:(l.take l.length).find? (λo=>decide (o.t=t))=none):vG l t ab=ab:=by
 rw [List.take_length] at h;unfold vG;rw [h];rfl
end Mth
theorem Vr:(Tryz.prog.info? 98).map (λi=>(i.zero,i.size,i.bytes))=some (some (.agg (bV 0 0 0 0 0 ByteArray.empty 0)),7,64):=Aab
theorem jD {v0 v1 v2 v3 v4 v5 v6:Value} (h:w.heap[g]?=some (.cells #[v0,v1,v2,v3,v4,v5,v6] t (0,0))):
 w.cell? ⟨g,0,none⟩=some v0/\w.cell? ⟨g,1,none⟩=some v1/\w.cell? ⟨g,2,none⟩=some v2/\w.cell? ⟨g,3,none⟩=some v3/\w.cell? ⟨g,4,none⟩=some v4/\w.cell? ⟨g,5,none⟩=some v5/\w.cell? ⟨g,6,none⟩=some v6:=by
 have hc:∀i,w.cell? ⟨g,i,none⟩=#[v0,v1,v2,v3,v4,v5,v6][i]?:=λi=>cell_of_row w g i _ t (0,0) h
 exact⟨hc 0,hc 1,hc 2,hc 3,hc 4,hc 5,hc 6⟩
theorem yF {a0 a1 a2 a3 a4 a5 a6 b0 b1 b2 b3 b4 b5 b6:Value} (h:w.heap[g]?=some (.cells #[a0,a1,a2,a3,a4,a5,a6] t (0,0))):
 (((((((w.setCell ⟨g,0,none⟩ b0).setCell ⟨g,1,none⟩ b1).setCell ⟨g,2,none⟩ b2).setCell ⟨g,3,none⟩ b3).setCell ⟨g,4,none⟩ b4).setCell ⟨g,5,none⟩ b5).setCell ⟨g,6,none⟩ b6).heap[g]?=some (.cells #[b0,b1,b2,b3,b4,b5,b6] t (0,0)):=by
 have h0:(w.setCell ⟨g,0,none⟩ b0).heap[g]?=some (.cells #[b0,a1,a2,a3,a4,a5,a6] t (0,0)):=aN h 0 b0;have h1:((w.setCell ⟨g,0,none⟩ b0).setCell ⟨g,1,none⟩ b1).heap[g]?=some (.cells #[b0,b1,a2,a3,a4,a5,a6] t (0,0)):=aN h0 1 b1;have h2:(((w.setCell ⟨g,0,none⟩ b0).setCell ⟨g,1,none⟩ b1).setCell ⟨g,2,none⟩ b2).heap[g]?=some (.cells #[b0,b1,b2,a3,a4,a5,a6] t (0,0)):=aN h1 2 b2;have h3:((((w.setCell ⟨g,0,none⟩ b0).setCell ⟨g,1,none⟩ b1).setCell ⟨g,2,none⟩ b2).setCell ⟨g,3,none⟩ b3).heap[g]?=some (.cells #[b0,b1,b2,b3,a4,a5,a6] t (0,0)):=aN h2 3 b3;have h4:(((((w.setCell ⟨g,0,none⟩ b0).setCell ⟨g,1,none⟩ b1).setCell ⟨g,2,none⟩ b2).setCell ⟨g,3,none⟩ b3).setCell ⟨g,4,none⟩ b4).heap[g]?=some (.cells #[b0,b1,b2,b3,b4,a5,a6] t (0,0)):=aN h3 4 b4;have h5:((((((w.setCell ⟨g,0,none⟩ b0).setCell ⟨g,1,none⟩ b1).setCell ⟨g,2,none⟩ b2).setCell ⟨g,3,none⟩ b3).setCell ⟨g,4,none⟩ b4).setCell ⟨g,5,none⟩ b5).heap[g]?=some (.cells #[b0,b1,b2,b3,b4,b5,a6] t (0,0)):=aN h4 5 b5;exact aN h5 6 b6
theorem uy {b0 b1 b2 b3 b4 b5 b6:Value}:aC [g] w (((((((w.setCell ⟨g,0,none⟩ b0).setCell ⟨g,1,none⟩ b1).setCell ⟨g,2,none⟩ b2).setCell ⟨g,3,none⟩ b3).setCell ⟨g,4,none⟩ b4).setCell ⟨g,5,none⟩ b5).setCell ⟨g,6,none⟩ b6):=
 ((((((aC.set b0).trans (aC.set b1)).trans (aC.set b2)).trans (aC.set b3)).trans (aC.set b4)).trans (aC.set b5)).trans (aC.set b6)
abbrev zm7:Array Value:=(bV 0 0 0 0 0 ⟨#[]⟩ 0)
theorem ae3 (n:Nd) (A:bQ) (t ab:Int) (w:World) (hl:n.out.length<=1048600) (ha:SentAt w A.o n.out):
 Calls Tryz.prog 183 #[gB n A,.int .i64 t,.int .i64 ab] w (eG w (.int .i64 (vG n.out t ab))):=by
 have HA:=Hq (GR.At.below ha (ay w (.cells (dG n A) 40)));have hblk:=heap_alloc_new w (.cells (dG n A) 40);obtain⟨c0,c1,c2,c3,c4,c5,c6,c7,c8⟩:=nine hblk;have HLY:=Hq (λk hk h=> @Vv n.out t ab k hk h);have yI:=Hq (λk hk h=> @PK n.out t k hk h);have Dq:=Hq (@ab3 n.out t ab);clear ha hblk;generalize vG n.out t ab=LO at *;open aov in exact wL
theorem Jy (n:Nd) (A:bQ) (s:jK) (w:World) (hl:n.out.length<=1048600) (ha:SentAt w A.o n.out):
 Calls Tryz.prog 217 #[gB n A,Ed s] w (eG w (nK (pX n s))):=by
 have HA:=Hq ha;have HLY:=Hq (λk hk h=> @Vv n.out s.t s.i k hk h);have yI:=Hq (λk hk h=> @PK n.out s.t k hk h);have Dq:=Hq (@ab3 n.out s.t s.i);have HPM:Hid (pX n s=⟨1,n.id,s.t,s.i,vG n.out s.t s.i,s.k,s.n⟩):=rfl;obtain⟨hP,hR,hO,hB⟩:=yZ w (.cells (dG n A) 40) (.cells (gJ s.i s.t s.k s.n) 91) (.cells zm7 98);have HP:=Hq hP;have HR:=Hq hR;have HO:=Hq hO;have HB:=Hq hB;clear ha hP hR hO hB;rw [ah HPM];generalize vG n.out s.t s.i=LO at *;open aou in exact wL
namespace Mth
theorem Ej {p:α->Bool} {f:α->Int} {l:List α} (h:gU p (λs t=>iM (f s) (f t)) l=true):l.Pairwise (λs t=>f s < f t):=by
 have:=((tF (p:=p) (r:=λs t=>iM (f s) (f t)) (λa b c h1 h2=>mJ _ _ _ h1 h2)).1 h).2;exact this.imp (λh=>Acr)
def setPu (n:Nd) (l:List Pu):Nd:=⟨n.id,n.par,n.kids,n.next,l,n.out,n.seen,n.old,n.reqs⟩
def setOut (n:Nd) (l:List jK):Nd:=⟨n.id,n.par,n.kids,n.next,n.pu,l,n.seen,n.old,n.reqs⟩
def dM (n:Nd) (l:List Sn):Nd:=⟨n.id,n.par,n.kids,n.next,n.pu,n.out,l,n.old,n.reqs⟩
def eO (n:Nd) (l:List Rq):Nd:=⟨n.id,n.par,n.kids,n.next,n.pu,n.out,n.seen,n.old,l⟩
def nY (n:Nd) (x:Int):Nd:=⟨n.id,n.par,n.kids,n.next,n.pu,n.out,n.seen,x,n.reqs⟩
def aeZ (n:Nd) (x:Int):Nd:=⟨n.id,n.par,n.kids,x,n.pu,n.out,n.seen,n.old,n.reqs⟩
def pO (n:Nd) (key:ByteArray) (most:Int):Int:=if (aD n.pu key).f < most then(aD n.pu key).f else most
def Qb (n:Nd) (gT:Int):Bool:=decide (1<=gT/\n.out.length < 40/\n.next < 1000000000)
def rP (n:Nd) (dst:Int) (key:ByteArray) (gT:Int):Nd:=⟨n.id,n.par,n.kids,n.next+1,(dJ n.pu key 0 (-1) 0 gT).1,n.out++[⟨n.next,dst,key,gT⟩],n.seen,n.old,n.reqs⟩
def eZ (n:Nd) (dst:Int) (key:ByteArray) (most:Int):Nd×List Mg×Bool:=
 if Qb n (pO n key most)=true then(rP n dst key (pO n key most),[pX (rP n dst key (pO n key most)) ⟨n.next,dst,key,pO n key most⟩],true) else(n,[],false)
def dX (l:List Rq) (no:Int):Nat:=(l.takeWhile (λr=>decide (r.no < no))).length
def nN (l:List Rq) (no:Int):Bool:=(l[dX l no]?).elim false (λr=>decide (r.no=no))
def vD (l:List Rq) (q:Rq):List Rq:=l.take (dX l q.no)++q::l.drop (dX l q.no)
def qH (n:Nd) (q:Rq):Nd:=if 30 < (vD n.reqs q).length then eO (nY n ((vD n.reqs q).headD default).no) (vD n.reqs q).tail else eO n (vD n.reqs q)
def Fu (r:Rq) (key:ByteArray) (a:Int):Bool:=decide (r.s=0)&&(r.k.toList == key.toList)&&decide (r.n=a)
def fJ (n:Nd) (no:Int) (key:ByteArray) (a:Int):Nd×Int:=
 if no<=n.old then(n,2)
 else if nN n.reqs no=true then(n,if Fu (n.reqs.getD (dX n.reqs no) default) key a=true then 0 else 1)
 else(qH (setPu n (dJ n.pu key 0 (-1) 1 a).1) ⟨no,key,a,if (dJ n.pu key 0 (-1) 1 a).2=true then 0 else 1⟩,if (dJ n.pu key 0 (-1) 1 a).2=true then 0 else 1)
def oF (r:Rq):Rq:=⟨r.no,r.k,r.n,2⟩
def bf (n:Nd) (no:Int):Nd×Int:=
 if no<=n.old then(n,2)
 else if nN n.reqs no=false then(n,1)
 else if (n.reqs.getD (dX n.reqs no) default).s=1 then(n,1)
 else if (n.reqs.getD (dX n.reqs no) default).s=2 then(n,0)
 else if (dJ n.pu (n.reqs.getD (dX n.reqs no) default).k 0 1 (-1) (n.reqs.getD (dX n.reqs no) default).n).2=true then
  (eO (setPu n (dJ n.pu (n.reqs.getD (dX n.reqs no) default).k 0 1 (-1) (n.reqs.getD (dX n.reqs no) default).n).1) (n.reqs.set (dX n.reqs no) (oF (n.reqs.getD (dX n.reqs no) default))),0)
 else(n,1)
def iA (l:List Sn) (f:Int):Nat:=l.findIdx (λs=>decide (s.f=f))
def fE (s:Sn) (low:Int):Int:=if s.l < low then low else s.l
def aV (s:Sn) (low:Int):List Int:=s.ids.filter (λx=>decide (fE s low<=x))
def rF (s:Sn) (low i:Int):Bool:=decide (i < fE s low)||hasB (aV s low) i
def lD (l:List Int) (x:Int):List Int:=l.takeWhile (λy=>decide (y < x))++x::l.dropWhile (λy=>decide (y < x))
def Wx (n:Nd) (m:Mg):Mg:=⟨2,n.id,m.F,m.I,0,ByteArray.empty,0⟩
def lN (n:Nd) (s:Sn) (m:Mg):Bool:=(dJ n.pu m.k 0 1 0 m.N).2&&decide ((aV s m.L).length < 40)
def takeN (n:Nd) (m:Mg):Nd×Bool:=
 if rF (n.seen.getD (iA n.seen m.F) default) m.L m.I=true then
  (dM n (n.seen.set (iA n.seen m.F) ⟨m.F,fE (n.seen.getD (iA n.seen m.F) default) m.L,aV (n.seen.getD (iA n.seen m.F) default) m.L⟩),true)
 else if lN n (n.seen.getD (iA n.seen m.F) default) m=true then
  (dM (setPu n (dJ n.pu m.k 0 1 0 m.N).1) (n.seen.set (iA n.seen m.F) ⟨m.F,fE (n.seen.getD (iA n.seen m.F) default) m.L,lD (aV (n.seen.getD (iA n.seen m.F) default) m.L) m.I⟩),true)
 else(dM n (n.seen.set (iA n.seen m.F) ⟨m.F,fE (n.seen.getD (iA n.seen m.F) default) m.L,aV (n.seen.getD (iA n.seen m.F) default) m.L⟩),false)
def iV (m:Mg) (s:jK):Bool:=decide (s.i=m.I/\s.t=m.F)
def fO (n:Nd) (m:Mg):Nd×List Mg×Int:=
 if m.K=1 then((takeN n m).1,if (takeN n m).2=true then[Wx n m] else[],if (takeN n m).2=true then 0 else 1)
 else if m.K=2 then(setOut n (n.out.filter (λs=> !iV m s)),[],0)
 else if hasB n.kids m.F=true then((eZ n m.F m.k m.N).1,(eZ n m.F m.k m.N).2.1,0)
 else(n,[],1)
def J5 (n:Nd) (o:gK):Mg:=⟨0,n.id,n.par,0,0,o.k,o.n⟩
def fu (n:Nd) (o:gK):Nd×List Mg×Int:=
 if o.K=0 then(if n.par= -1/\(dJ n.pu o.k 1 1 0 o.n).2=true then(setPu n (dJ n.pu o.k 1 1 0 o.n).1,[],0) else(n,[],1))
 else if o.K=1 then((fJ n o.no o.k o.n).1,[],(fJ n o.no o.k o.n).2)
 else if o.K=2 then((bf n o.no).1,[],(bf n o.no).2)
 else if o.K=3 then(if n.par= -1 then(n,[],1) else(n,[J5 n o],0))
 else if o.K=4 then(if n.par= -1 then(n,[],1) else((eZ n n.par o.k o.n).1,(eZ n n.par o.k o.n).2.1,if (eZ n n.par o.k o.n).2.2=true then 0 else 1))
 else if o.K=5 then(n,n.out.map (pX n),0)
 else fO n o.m
def wY (n:Nd) (o:gK):Bool:= !decide (o.K=6)||(decide (o.m.T=n.id)&&dZ n o.m.F)
def mV (n:Nd) (o:gK):Nd×List Mg×Int:=if cu o&&wY n o then fu n o else(n,[],3)
def YJ (n:Nd) (o:gK):Nd×List Mg×Int:=if dW n then mV n o else(n,[],3)
theorem KG (h:dW n=false):YJ n o=(n,[],3):=by unfold YJ;rw [h];rfl
theorem Sr (h:dW n=true):YJ n o=mV n o:=by unfold YJ;rw [h];rfl
theorem bY (h:dW n=true):eD n=true/\jk n.pu=true/\nQ n=true/\fF n.next=true/\rJ n=true/\gX n=true:=by
 unfold dW at h;simp only[Bool.and_eq_true] at h;exact⟨h.1.1.1.1.1,h.1.1.1.1.2,h.1.1.1.2,h.1.1.2,h.1.2,h.2⟩
theorem iX (h:gX n=true):n.reqs.Pairwise (λs t=>s.no < t.no)/\n.reqs.length<=30/\(∀q∈n.reqs,rU n q=true)/\0<=n.old/\n.old<=1000000000:=by
 unfold gX at h;simp only[Bool.and_eq_true,decide_eq_true_eq] at h;obtain⟨⟨h1,h2⟩,h3⟩:=h;have h1':0<=n.old/\n.old<=1000000000:=by simpa [qw] using h1
 exact⟨Ej (f:=λr:Rq=>r.no) h3,h2,zf h3,h1'.1,h1'.2⟩
theorem rM (h:rJ n=true):n.out.Pairwise (λs t=>s.i < t.i)/\n.out.length<=40/\(∀q∈n.out,uQ n q=true):=by
 unfold rJ at h;simp only[Bool.and_eq_true,decide_eq_true_eq] at h;exact⟨Ej (f:=λr:jK=>r.i) h.2,h.1,zf h.2⟩
theorem jT {q:Rq} (h:rU n q=true):n.old+1<=q.no/\q.no<=1000000000/\keyOk q.k.data.toList=true/\fF q.n=true/\0<=q.s/\q.s<=2:=by
 unfold rU at h;simp only[Bool.and_eq_true,decide_eq_true_eq] at h;exact⟨h.1.1.1.1,h.1.1.1.2,h.1.1.2,h.1.2,h.2.1,h.2.2⟩
theorem wE (l:List Rq) (no:Int):dX l no<=l.length:=by
 unfold dX;exact(List.takeWhile_sublist _).length_le
theorem yD (l:List Rq) (no:Int):∀i (hi:i < l.length),i < dX l no->l[i].no < no:=by
 induction l with
 |nil=>intro i hi;simp at hi
 |cons x l ih=>
  intro i hi h;by_cases hx:x.no < no
  .cases i with
   |zero=>exact hx
   |succ i=>
    refine ih i Aap ?_;unfold dX at h ⊢;rw [List.takeWhile_cons_of_pos Aaf] at h;simpa using h
  .unfold dX at h;rw [List.takeWhile_cons_of_neg Aaf] at h;simp at h
theorem yC {l:List Rq} {no:Int} (hp:l.Pairwise (λs t=>s.no < t.no)):∀i (hi:i < l.length),dX l no<=i->no<=l[i].no:=by
 induction l with
 |nil=>intro i hi;simp at hi
 |cons x l ih=>
  intro i hi h;have hp':=List.pairwise_cons.1 hp;by_cases hx:x.no < no
  .unfold dX at h;rw [List.takeWhile_cons_of_pos Aaf] at h;simp only[List.length_cons] at h;cases i with
   |zero=>omega
   |succ i=>exact ih hp'.2 i Aap (by unfold dX;omega)
  .cases i with
   |zero=>show no<=x.no;omega
   |succ i=>
    have hi':i < l.length:=Aap
    have:=hp'.1 l[i] (List.getElem_mem hi');show no<=l[i].no
    omega
theorem Me (hp:l.Pairwise (λs t=>s.no < t.no)) (hi:i<=l.length) (h1:∀j (hj:j < l.length),j < i->l[j].no < no) (h2:∀j (hj:j < l.length),i<=j->no<=l[j].no):dX l no=i:=by
 have hle:=wE l no;rcases Nat.lt_trichotomy (dX l no) i with h|h|h
 .have a:=h1 (dX l no) Aaa h;have b:=yC (no:=no) hp (dX l no) Aaa (Nat.le_refl _);omega
 .exact h
 .have a:=h2 i Aaa (Nat.le_refl _);have b:=yD l no i Aaa h;omega
theorem nO (l:List Rq) (no:Int):nN l no=true↔∃h:dX l no < l.length,l[dX l no].no=no:=by
 unfold nN;by_cases h:dX l no < l.length
 .rw [List.getElem?_eq_getElem h];simp[h]
 .rw [List.getElem?_eq_none Aaa];simp[h]
theorem Qj (hp:l.Pairwise (λs t=>s.no < t.no)) (hi:i < l.length) (h:l[i].no=no):dX l no=i/\nN l no=true:=by
 have e:dX l no=i:=by
  refine Me hp Aaa (λj hj hlt=>?_) (λj hj hle=>?_)
  .have:=List.pairwise_iff_getElem.1 hp j i hj hi hlt;omega
  .rcases Nat.lt_or_ge i j with hlt|hge
   .have:=List.pairwise_iff_getElem.1 hp i j hi hj hlt;omega
   .have e:j=i:=Aaa
    subst e;omega
 refine⟨e,(nO l no).2 ⟨Aaa,?_⟩⟩;subst h;simp[e]
theorem XL (h:∀q∈l,q.no≠no):nN l no=false:=by
 rw [Bool.eq_false_iff];intro hf;obtain⟨hi,e⟩:=(nO l no).1 hf;exact h _ (List.getElem_mem hi) e
theorem aeS {l:List Pu} {key:ByteArray} {a:Int} (h:jk l=true) (hk:keyOk key.data.toList=true) (h1:1<=a) (h2:a<=(aD l key).f) (h3:a<=1000000000):(dJ l key 0 (-1) 0 a).2=true:=by
 rw [Kr h ⟨h1,h3⟩];have hp:=yx h hk;have hk':=oV l key
 have hfd:found l key=true:=by
  cases hf:found l key with
  |true=>rfl
  |false=>
   exfalso
   obtain⟨_,hpw,_⟩:=(jR l).1 h
   have:aD l key=⟨key,0,0,0⟩:=by
    refine L9 (λq hq e=>?_);have hq2:=qJ hpw hq;rw [e] at hq2;have hx:=Ow l key;rw [hf] at hx;have hx:=of_decide_eq_false hx;obtain⟨i,hi,rfl⟩:=List.mem_iff_getElem.1 hq;apply hx
    have hle:=lT l key;by_cases hpl:place l key < l.length
    .refine⟨hpl,?_⟩;have hnl:=Bc l key l[place l key] (l.drop (place l key+1)) (by rw [jw,List.drop_eq_getElem_cons hpl]);have hka:vF l key (place l key)=l[place l key].k:=by unfold vF;rw [List.getElem?_eq_getElem hpl];rfl
     rw [hka];rcases Nat.lt_trichotomy (place l key) i with hlt|heq|hgt
     .have:=List.pairwise_iff_getElem.1 hpw _ _ hpl hi hlt;have h4:l[place l key].k.toList < l[i].k.toList:=this;rw [e] at h4;exact absurd h4 hnl
     .subst heq;exact e
     .exact ahj
    .exact ahj
   rw [this] at h2;dsimp only at h2;omega
 have hlen:(jd l (eP (aD l key) 0 (-1) 0 a)).length<=20:=by
  have e:(eP (aD l key) 0 (-1) 0 a).k=key:=hk';rw [rR (by rw [e];exact hfd)];exact((jR l).1 h).2.2
 have hok:iy (eP (aD l key) 0 (-1) 0 a)=true:=by
  unfold iy qw at hp ⊢;unfold eP;simp only[Bool.and_eq_true,decide_eq_true_eq] at hp ⊢;refine⟨⟨⟨⟨hp.1.1.1.1,?_⟩,?_⟩,?_⟩,?_⟩<;>omega
 rw [hok,decide_eq_true hlen];rfl
end Mth
end Go.Proofs.YtohmklmkjmlpjaaGreatDoor
