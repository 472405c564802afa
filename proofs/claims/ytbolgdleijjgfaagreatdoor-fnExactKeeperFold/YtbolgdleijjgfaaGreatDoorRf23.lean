/- Parts. -/
import Derived.Test.YtbolgdleijjgfaaGreatDoorRf19
import Derived.Test.YtbolgdleijjgfaaGreatDoorRf17
namespace Go.Proofs.YtbolgdleijjgfaaGreatDoor
open Go.Proofs.Tryz
set_option maxHeartbeats 4000000
set_option maxRecDepth 100000
open Go.RowKit
open Mth
variable {n:Nd} {o:gP} {l:List Rq} {s:Sn} {q:Rq} {no a x low:Int} {i g:Nat} {m:Mg} {key:ByteArray} {α:Type} {w:World} {t:TypeId} {p:α->Bool} {f:α->Int}
namespace Mth
instance:Inhabited Mg:=⟨⟨0,0,0,0,0,ByteArray.empty,0⟩⟩
abbrev jC (m:Mg):List Value:=[.int .i64 m.K,.int .i64 m.F,.int .i64 m.T,.int .i64 m.I,.int .i64 m.L,.string m.k,.int .i64 m.N]
theorem ku (m:Mg):(jC m).length=7:=rfl
theorem Pp:∀(m:Mg),∀u∈jC m,u.oneCell'=true:=by
 intro m u hu;simp only[jC,aFd,aFW,or_false] at hu;rcases hu with rfl|rfl|rfl|rfl|rfl|rfl|rfl<;>rfl
def wS (l:List jI) (t ab:Int):Int:=((l.find? λo=>decide (o.t=t)).map (·.i)).getD ab
def qU (n:Nd) (s:jI):Mg:=⟨1,n.id,s.t,s.i,wS n.out s.t s.i,s.k,s.n⟩
def ada (n:Nd):List Mg:=if dV n then n.out.map (qU n) else[]
theorem Fz (f:α->Bool) (l:List α) (i:Nat) (hi:i < l.length) (h:(l.take i).find? f=none):(f l[i]=true->l.find? f=some l[i])/\(f l[i]=false->(l.take (i+1)).find? f=none):=by
 exact ax6
theorem WR {l:List jI} {t ab:Int} {k:Nat} (hk:k < l.length) (h:(l.take k).find? (λo=>decide (o.t=t))=none) (ht:(l[k]).t=t):wS l t ab=(l[k]).i:=by
 unfold wS;rw [(Fz _ l k hk h).1 (aET ht)];rfl
theorem Qq {l:List jI} {t:Int} {k:Nat} (hk:k < l.length) (h:(l.take k).find? (λo=>decide (o.t=t))=none) (ht:¬(l[k]).t=t):(l.take (k+1)).find? (λo=>decide (o.t=t))=none:=
 (Fz _ l k hk h).2 (aES ht)
theorem acH {l:List jI} {t ab:Int} (h:(l.take l.length).find? (λo=>decide (o.t=t))=none):wS l t ab=ab:=by
 rw [aFh] at h;unfold wS;rw [h];rfl
end Mth
theorem WI:(Tryz.prog.info? 70).map (λi=>(i.zero,i.size,i.bytes))=some (some (.agg (bX 0 0 0 0 0 ByteArray.empty 0)),7,64):=Aab
theorem jS {v0 v1 v2 v3 v4 v5 v6:Value} (h:w.heap[g]?=some (.cells #[v0,v1,v2,v3,v4,v5,v6] t (0,0))):
 w.cell? ⟨g,0,none⟩=some v0/\w.cell? ⟨g,1,none⟩=some v1/\w.cell? ⟨g,2,none⟩=some v2/\w.cell? ⟨g,3,none⟩=some v3/\w.cell? ⟨g,4,none⟩=some v4/\w.cell? ⟨g,5,none⟩=some v5/\w.cell? ⟨g,6,none⟩=some v6:=by
 have hc:∀i,w.cell? ⟨g,i,none⟩=#[v0,v1,v2,v3,v4,v5,v6][i]?:=λi=>aE1 w g i _ t (0,0) h
 exact⟨hc 0,hc 1,hc 2,hc 3,hc 4,hc 5,hc 6⟩
theorem zC {a0 a1 a2 a3 a4 a5 a6 b0 b1 b2 b3 b4 b5 b6:Value} (h:w.heap[g]?=some (.cells #[a0,a1,a2,a3,a4,a5,a6] t (0,0))):
 (((((((w.setCell ⟨g,0,none⟩ b0).setCell ⟨g,1,none⟩ b1).setCell ⟨g,2,none⟩ b2).setCell ⟨g,3,none⟩ b3).setCell ⟨g,4,none⟩ b4).setCell ⟨g,5,none⟩ b5).setCell ⟨g,6,none⟩ b6).heap[g]?=some (.cells #[b0,b1,b2,b3,b4,b5,b6] t (0,0)):=by
 exact(aP (aP (aP (aP (aP (aP (aP h 0 b0) 1 b1) 2 b2) 3 b3) 4 b4) 5 b5) 6 b6).trans Aab
theorem vK {b0 b1 b2 b3 b4 b5 b6:Value}:aA [g] w (((((((w.setCell ⟨g,0,none⟩ b0).setCell ⟨g,1,none⟩ b1).setCell ⟨g,2,none⟩ b2).setCell ⟨g,3,none⟩ b3).setCell ⟨g,4,none⟩ b4).setCell ⟨g,5,none⟩ b5).setCell ⟨g,6,none⟩ b6):=
 ((((((aA.set b0).trans (aA.set b1)).trans (aA.set b2)).trans (aA.set b3)).trans (aA.set b4)).trans (aA.set b5)).trans (aA.set b6)
abbrev zm7:Array Value:=(bX 0 0 0 0 0 ⟨#[]⟩ 0)
theorem afL (n:Nd) (A:bq) (t ab:Int) (w:World) (hl:n.out.length<=1048600) (ha:SentAt w A.o n.out):
 Calls Tryz.prog 185 #[gU n A,.int .i64 t,.int .i64 ab] w (dU w (.int .i64 (wS n.out t ab))):=by
 have HA:=Hq (GR.At.below ha (au w (.cells (dD n A) 39)));have hblk:=aEP w (.cells (dD n A) 39);obtain⟨c0,c1,c2,c3,c4,c5,c6,c7,c8⟩:=nine hblk;have HLY:=Hq (λk hk h=> @WR n.out t ab k hk h);have zI:=Hq (λk hk h=> @Qq n.out t k hk h);have zT:=Hq (@acH n.out t ab);clear ha hblk;generalize wS n.out t ab=LO at *;open an3 in exact vY
theorem Kk (n:Nd) (A:bq) (s:jI) (w:World) (hl:n.out.length<=1048600) (ha:SentAt w A.o n.out):
 Calls Tryz.prog 222 #[gU n A,EZ s] w (dU w (oJ (qU n s))):=by
 have HA:=Hq ha;have HLY:=Hq (λk hk h=> @WR n.out s.t s.i k hk h);have zI:=Hq (λk hk h=> @Qq n.out s.t k hk h);have zT:=Hq (@acH n.out s.t s.i);have HPM:Hid (qU n s=⟨1,n.id,s.t,s.i,wS n.out s.t s.i,s.k,s.n⟩):=rfl;obtain⟨hP,hR,hO,hB⟩:=Ag w (.cells (dD n A) 39) (.cells (gN s.i s.t s.k s.n) 145) (.cells zm7 70);have HP:=Hq hP;have HR:=Hq hR;have HO:=Hq hO;have HB:=Hq hB;clear ha hP hR hO hB;rw [ah HPM];generalize wS n.out s.t s.i=LO at *;open an2 in exact vY
namespace Mth
theorem Fh {l:List α} (h:ig p (λs t=>iR (f s) (f t)) l=true):l.Pairwise (λs t=>f s < f t):=by
 grind [iR,uL,nR]
def setPu (n:Nd) (l:List Pu):Nd:=⟨n.id,n.par,n.kids,n.next,l,n.out,n.seen,n.old,n.reqs⟩
def setOut (n:Nd) (l:List jI):Nd:=⟨n.id,n.par,n.kids,n.next,n.pu,l,n.seen,n.old,n.reqs⟩
def dX (n:Nd) (l:List Sn):Nd:=⟨n.id,n.par,n.kids,n.next,n.pu,n.out,l,n.old,n.reqs⟩
def eT (n:Nd) (l:List Rq):Nd:=⟨n.id,n.par,n.kids,n.next,n.pu,n.out,n.seen,n.old,l⟩
def pV (n:Nd) (x:Int):Nd:=⟨n.id,n.par,n.kids,n.next,n.pu,n.out,n.seen,x,n.reqs⟩
def afH (n:Nd) (x:Int):Nd:=⟨n.id,n.par,n.kids,x,n.pu,n.out,n.seen,n.old,n.reqs⟩
def rO (n:Nd) (key:ByteArray) (most:Int):Int:=if (aD n.pu key).f < most then(aD n.pu key).f else most
def QG (n:Nd) (gW:Int):Bool:=decide (1<=gW/\n.out.length < 40/\n.next < 1000000000)
def tN (n:Nd) (dst:Int) (key:ByteArray) (gW:Int):Nd:=⟨n.id,n.par,n.kids,n.next+1,(dB n.pu key 0 (-1) 0 gW).1,n.out++[⟨n.next,dst,key,gW⟩],n.seen,n.old,n.reqs⟩
def fu (n:Nd) (dst:Int) (key:ByteArray) (most:Int):Nd×List Mg×Bool:=
 if QG n (rO n key most)=true then(tN n dst key (rO n key most),[qU (tN n dst key (rO n key most)) ⟨n.next,dst,key,rO n key most⟩],true) else(n,[],false)
def dZ (l:List Rq) (no:Int):Nat:=(l.takeWhile (λr=>decide (r.no < no))).length
def oU (l:List Rq) (no:Int):Bool:=(l[dZ l no]?).elim false (λr=>decide (r.no=no))
def wR (l:List Rq) (q:Rq):List Rq:=l.take (dZ l q.no)++q::l.drop (dZ l q.no)
def rW (n:Nd) (q:Rq):Nd:=if 30 < (wR n.reqs q).length then eT (pV n ((wR n.reqs q).headD default).no) (wR n.reqs q).tail else eT n (wR n.reqs q)
def GD (r:Rq) (key:ByteArray) (a:Int):Bool:=decide (r.s=0)&&(r.k.toList == key.toList)&&decide (r.n=a)
def fT (n:Nd) (no:Int) (key:ByteArray) (a:Int):Nd×Int:=
 if no<=n.old then(n,2)
 else if oU n.reqs no=true then(n,if GD (n.reqs.getD (dZ n.reqs no) default) key a=true then 0 else 1)
 else(rW (setPu n (dB n.pu key 0 (-1) 1 a).1) ⟨no,key,a,if (dB n.pu key 0 (-1) 1 a).2=true then 0 else 1⟩,if (dB n.pu key 0 (-1) 1 a).2=true then 0 else 1)
def qp (r:Rq):Rq:=⟨r.no,r.k,r.n,2⟩
def aU (n:Nd) (no:Int):Nd×Int:=
 if no<=n.old then(n,2)
 else if oU n.reqs no=false then(n,1)
 else if (n.reqs.getD (dZ n.reqs no) default).s=1 then(n,1)
 else if (n.reqs.getD (dZ n.reqs no) default).s=2 then(n,0)
 else if (dB n.pu (n.reqs.getD (dZ n.reqs no) default).k 0 1 (-1) (n.reqs.getD (dZ n.reqs no) default).n).2=true then
  (eT (setPu n (dB n.pu (n.reqs.getD (dZ n.reqs no) default).k 0 1 (-1) (n.reqs.getD (dZ n.reqs no) default).n).1) (n.reqs.set (dZ n.reqs no) (qp (n.reqs.getD (dZ n.reqs no) default))),0)
 else(n,1)
def iU (l:List Sn) (f:Int):Nat:=l.findIdx (λs=>decide (s.f=f))
def gu (s:Sn) (low:Int):Int:=if s.l < low then low else s.l
def cu (s:Sn) (low:Int):List Int:=s.ids.filter (λx=>decide (gu s low<=x))
def tF (s:Sn) (low i:Int):Bool:=decide (i < gu s low)||hasB (cu s low) i
def lK (l:List Int) (x:Int):List Int:=l.takeWhile (λy=>decide (y < x))++x::l.dropWhile (λy=>decide (y < x))
def Ya (n:Nd) (m:Mg):Mg:=⟨2,n.id,m.F,m.I,0,ByteArray.empty,0⟩
def mH (n:Nd) (s:Sn) (m:Mg):Bool:=(dB n.pu m.k 0 1 0 m.N).2&&decide ((cu s m.L).length < 40)
def takeN (n:Nd) (m:Mg):Nd×Bool:=
 if tF (n.seen.getD (iU n.seen m.F) default) m.L m.I=true then
  (dX n (n.seen.set (iU n.seen m.F) ⟨m.F,gu (n.seen.getD (iU n.seen m.F) default) m.L,cu (n.seen.getD (iU n.seen m.F) default) m.L⟩),true)
 else if mH n (n.seen.getD (iU n.seen m.F) default) m=true then
  (dX (setPu n (dB n.pu m.k 0 1 0 m.N).1) (n.seen.set (iU n.seen m.F) ⟨m.F,gu (n.seen.getD (iU n.seen m.F) default) m.L,lK (cu (n.seen.getD (iU n.seen m.F) default) m.L) m.I⟩),true)
 else(dX n (n.seen.set (iU n.seen m.F) ⟨m.F,gu (n.seen.getD (iU n.seen m.F) default) m.L,cu (n.seen.getD (iU n.seen m.F) default) m.L⟩),false)
def iW (m:Mg) (s:jI):Bool:=decide (s.i=m.I/\s.t=m.F)
def fU (n:Nd) (m:Mg):Nd×List Mg×Int:=
 if m.K=1 then((takeN n m).1,if (takeN n m).2=true then[Ya n m] else[],if (takeN n m).2=true then 0 else 1)
 else if m.K=2 then(setOut n (n.out.filter (λs=> !iW m s)),[],0)
 else if hasB n.kids m.F=true then((fu n m.F m.k m.N).1,(fu n m.F m.k m.N).2.1,0)
 else(n,[],1)
def Lf (n:Nd) (o:gP):Mg:=⟨0,n.id,n.par,0,0,o.k,o.n⟩
def fF (n:Nd) (o:gP):Nd×List Mg×Int:=
 if o.K=0 then(if n.par= -1/\(dB n.pu o.k 1 1 0 o.n).2=true then(setPu n (dB n.pu o.k 1 1 0 o.n).1,[],0) else(n,[],1))
 else if o.K=1 then((fT n o.no o.k o.n).1,[],(fT n o.no o.k o.n).2)
 else if o.K=2 then((aU n o.no).1,[],(aU n o.no).2)
 else if o.K=3 then(if n.par= -1 then(n,[],1) else(n,[Lf n o],0))
 else if o.K=4 then(if n.par= -1 then(n,[],1) else((fu n n.par o.k o.n).1,(fu n n.par o.k o.n).2.1,if (fu n n.par o.k o.n).2.2=true then 0 else 1))
 else if o.K=5 then(n,n.out.map (qU n),0)
 else fU n o.m
def yG (n:Nd) (o:gP):Bool:= !decide (o.K=6)||(decide (o.m.T=n.id)&&dY n o.m.F)
def nW (n:Nd) (o:gP):Nd×List Mg×Int:=if bQ o&&yG n o then fF n o else(n,[],3)
def doN (n:Nd) (o:gP):Nd×List Mg×Int:=if dV n then nW n o else(n,[],3)
theorem LY (h:dV n=false):doN n o=(n,[],3):=by unfold doN;rw [h];rfl
theorem TP (h:dV n=true):doN n o=nW n o:=by unfold doN;rw [h];rfl
theorem bJ (h:dV n=true):eD n=true/\jv n.pu=true/\oZ n=true/\fJ n.next=true/\tJ n=true/\iw n=true:=by
 unfold dV at h;simp only[aEX] at h;exact⟨h.1.1.1.1.1,h.1.1.1.1.2,h.1.1.1.2,h.1.1.2,h.1.2,h.2⟩
theorem iY (h:iw n=true):n.reqs.Pairwise (λs t=>s.no < t.no)/\n.reqs.length<=30/\(∀q∈n.reqs,tY n q=true)/\0<=n.old/\n.old<=1000000000:=by
 unfold iw at h;simp only[aEX,aFf] at h;obtain⟨⟨h1,h2⟩,h3⟩:=h;have h1':0<=n.old/\n.old<=1000000000:=by simpa [rM] using h1
 exact⟨Fh (f:=λr:Rq=>r.no) h3,h2,Ai h3,h1'.1,h1'.2⟩
theorem tK (h:tJ n=true):n.out.Pairwise (λs t=>s.i < t.i)/\n.out.length<=40/\(∀q∈n.out,wU n q=true):=by
 unfold tJ at h;simp only[aEX,aFf] at h;exact⟨Fh (f:=λr:jI=>r.i) h.2,h.1,Ai h.2⟩
theorem kK (h:tY n q=true):n.old+1<=q.no/\q.no<=1000000000/\keyOk q.k.data.toList=true/\fJ q.n=true/\0<=q.s/\q.s<=2:=by
 grind [tY]
theorem xS (l:List Rq) (no:Int):dZ l no<=l.length:=by
 unfold dZ;exact(aGm _).length_le
theorem zy (l:List Rq) (no:Int):∀i (hi:i < l.length),i < dZ l no->l[i].no < no:=by
 induction l with
 |nil=>intro i hi;simp at hi
 |cons x l ih=>
  intro i hi h;by_cases hx:x.no < no
  .grind [dZ,List.takeWhile_cons_of_pos]
  .grind [dZ,List.takeWhile_cons_of_neg]
theorem zx {l:List Rq} {no:Int} (hp:l.Pairwise (λs t=>s.no < t.no)):∀i (hi:i < l.length),dZ l no<=i->no<=l[i].no:=by
 induction l with
 |nil=>intro i hi;simp at hi
 |cons x l ih=>
  intro i hi h;have hp':=aFR.1 hp;by_cases hx:x.no < no
  .grind [dZ,List.length_cons,List.takeWhile_cons_of_pos]
  .grind
theorem Nj (hp:l.Pairwise (λs t=>s.no < t.no)) (hi:i<=l.length) (h1:∀j (hj:j < l.length),j < i->l[j].no < no) (h2:∀j (hj:j < l.length),i<=j->no<=l[j].no):dZ l no=i:=by
 have hle:=xS l no;rcases Nat.lt_trichotomy (dZ l no) i with h|h|h
 .grind [dZ,zx]
 .exact h
 .have a:=h2 i Aaa (aER _);have b:=zy l no i Aaa h;omega
theorem oV (l:List Rq) (no:Int):oU l no=true↔∃h:dZ l no < l.length,l[dZ l no].no=no:=by
 grind [oU,dZ]
theorem QT (hp:l.Pairwise (λs t=>s.no < t.no)) (hi:i < l.length) (h:l[i].no=no):dZ l no=i/\oU l no=true:=by
 have e:dZ l no=i:=by
  refine Nj hp Aaa (λj hj hlt=>?_) (λj hj hle=>?_)
  .have:=aFV.1 hp j i hj hi hlt;omega
  .grind [List.pairwise_iff_getElem,Nat.lt_or_ge]
 grind [oV]
theorem Zl (h:∀q∈l,q.no≠no):oU l no=false:=by
 grind [oV]
theorem afA {l:List Pu} (h:jv l=true) (hk:keyOk key.data.toList=true) (h1:1<=a) (h2:a<=(aD l key).f) (h3:a<=1000000000):(dB l key 0 (-1) 0 a).2=true:=by
 rw [LC h ⟨h1,h3⟩];have hp:=zq h hk;have hk':=qG l key;have hfd:found l key=true:=by grind [found,wP,AP,place,aD,Pg,jM,Ck,Av,head_take,mP,kH,rX,Nf,List.drop_eq_getElem_cons,List.getElem?_eq_getElem,List.lt_irrefl,List.mem_iff_getElem,List.mem_take_iff_getElem,List.pairwise_iff_getElem,Nat.lt_trichotomy]
 grind [rM,iG,aD,jf,fq,kH,tQ]
end Mth
namespace Mth
theorem Bf (h1:eD n=true) (h2:jv n.pu=true) (h3:oZ n=true) (h4:fJ n.next=true) (h5:tJ n=true) (h6:iw n=true):dV n=true:=by
 unfold dV;rw [h1,h2,h3,h4,h5,h6];rfl
theorem tq {l:List Pu} {dm df ds n:Int} (h:jv l=true):jv (dB l key dm df ds n).1=true:=by
 grind [dB,sD]
theorem uZ {l:List Pu} (h:dV n=true) (hl:jv l=true):dV (setPu n l)=true:=by
 obtain⟨h1,_,h3,h4,h5,h6⟩:=bJ h;exact Bf h1 hl h3 h4 h5 h6
theorem LV {l:List α} (h1:∀x∈l,p x=true) (h2:l.Pairwise (λs t=>f s < f t)):ig p (λs t=>iR (f s) (f t)) l=true:=
 (uL (p:=p) (r:=λs t=>iR (f s) (f t)) (λa b c h1 h2=>nR _ _ _ h1 h2)).2 ⟨h1,h2.imp (λh=>by simpa [iR] using h)⟩
theorem afF (h1:0<=n.old) (h2:n.old<=1000000000) (h3:n.reqs.length<=30) (h4:n.reqs.Pairwise (λs t=>s.no < t.no)) (h5:∀q∈n.reqs,tY n q=true):iw n=true:=by
 unfold iw;rw [LV (f:=λr:Rq=>r.no) h5 h4];simp[rM,h1,h2,h3]
theorem Ni (h1:n.old < q.no) (h2:q.no<=1000000000) (h3:keyOk q.k.data.toList=true) (h4:fJ q.n=true) (h5:0<=q.s) (h6:q.s<=2):tY n q=true:=by
 grind [tY]
theorem Qi (l:List Rq) (q:Rq):(wR l q).length=l.length+1:=by
 have:=xS l q.no;unfold wR;simp;omega
theorem acy {r:Rq} (h:r∈wR l q):r=q\/r∈l:=by
 grind [wR]
theorem acw (hp:l.Pairwise (λs t=>s.no < t.no)) (hf:oU l q.no=false):(wR l q).Pairwise (λs t=>s.no < t.no):=by
 have hlt:∀i (hi:i < l.length),dZ l q.no<=i->q.no < l[i].no:=λi hi hle=>by
  have h1:=zx (no:=q.no) hp i hi hle
  grind [QT]
 unfold wR;rw [List.pairwise_append,aFR];refine⟨hp.sublist (List.take_sublist _ _),⟨λr hr=>?_,hp.sublist (List.drop_sublist _ _)⟩,λr hr s hs=>?_⟩
 .obtain⟨i,hi,rfl⟩:=aF3.1 hr;rw [List.getElem_drop];exact hlt _ _ Aaa
 .obtain⟨i,hi,rfl⟩:=aF3.1 hr;rw [List.getElem_take];have hi':i < dZ l q.no:=Abs
  have hil:i < l.length:=by have:=xS l q.no;omega
  have h1:=zy l q.no i hil hi';rcases aFd.1 hs with rfl|hs
  .exact h1
  .obtain⟨j,hj,rfl⟩:=aF3.1 hs;rw [List.getElem_drop];grind
theorem vw (h:dV n=true) (h1:0<=x) (h2:x<=1000000000) (h3:l.length<=30) (h4:l.Pairwise (λs t=>s.no < t.no)) (h5:∀q∈l,tY (pV n x) q=true):dV (eT (pV n x) l)=true:=by
 obtain⟨g1,g2,g3,g4,g5,_⟩:=bJ h;exact Bf g1 g2 g3 g4 g5 (afF h1 h2 h3 h4 h5)
theorem YX (h:dV n=true) (hf:oU n.reqs q.no=false) (h1:n.old < q.no) (h2:q.no<=1000000000) (h3:keyOk q.k.data.toList=true) (h4:fJ q.n=true) (h5:0<=q.s) (h6:q.s<=2):dV (rW n q)=true:=by
 obtain⟨_,_,_,_,_,g6⟩:=bJ h;obtain⟨a1,a2,a3,a4,a5⟩:=iY g6;have hasc:=acw a1 hf;have hlen:=Qi n.reqs q;have hall:∀r∈wR n.reqs q,tY n r=true:=λr hr=>by grind [acy,Ni]
 unfold rW;split
 .cases hc:wR n.reqs q with
  |nil=>rw [hc] at hlen;simp at hlen
  |cons r l=>
   rw [hc] at hasc hall hlen;have hp:=aFR.1 hasc;have hr:=kK (hall r Aac);simp only[List.headD_cons,List.tail_cons];refine vw h Aaa hr.2.1 (by simp at hlen;omega) hp.2 (λs hs=>?_);have b:=kK (hall s (by simp[hs]));exact Ni (hp.1 s hs) b.2.1 b.2.2.1 b.2.2.2.1 b.2.2.2.2.1 b.2.2.2.2.2
 .rename_i hc
  have e:eT n (wR n.reqs q)=eT (pV n n.old) (wR n.reqs q):=rfl;rw [e];exact vw h a4 a5 Aaa hasc hall
theorem Uz (h:dV n=true) (h2:no<=1000000000) (h3:keyOk key.data.toList=true) (h4:fJ a=true):dV (fT n no key a).1=true:=by
 unfold fT;split
 .exact h
 .split
  .exact h
  .rename_i hs hf
   have hpu:=uZ (l:=(dB n.pu key 0 (-1) 1 a).1) h (tq (bJ h).2.1);refine YX hpu ?_ ?_ h2 h3 h4 ?_ ?_
   .show oU n.reqs no=false
    simpa using hf
   .show n.old < no
    omega
   .dsimp only;split<;>omega
   .dsimp only;split<;>omega
theorem abL (hi:i < l.length):l.getD i default=l[i]:=by rw [aFs,aEV hi];rfl
theorem MR (h:dV n=true):dV (aU n no).1=true:=by
 unfold aU;split
 .exact h
 .split
  .exact h
  .split
   .exact h
   .split
    .exact h
    .split
     .rename_i hf _ _ hp
      obtain⟨hi,hno⟩:=(oV n.reqs no).1 Acb;have hpu:=uZ (l:=(dB n.pu (n.reqs.getD (dZ n.reqs no) default).k 0 1 (-1) (n.reqs.getD (dZ n.reqs no) default).n).1) h (tq (bJ h).2.1);obtain⟨_,_,_,_,_,g6⟩:=bJ h;obtain⟨a1,a2,a3,a4,a5⟩:=iY g6;rw [abL hi] at hpu ⊢;have hb:=kK (a3 _ (aE8 hi));have e:∀l,eT (setPu n l) (n.reqs.set (dZ n.reqs no) (qp n.reqs[dZ n.reqs no]))=eT (pV (setPu n l) (setPu n l).old) (n.reqs.set (dZ n.reqs no) (qp n.reqs[dZ n.reqs no])):=λ_=>rfl
      rw [e];refine vw hpu a4 a5 (by simpa using a2) ?_ ?_
      .rw [aFV] at a1 ⊢;intro i j hi' hj' hij
       have e2:∀k (hk:k < (n.reqs.set (dZ n.reqs no) (qp n.reqs[dZ n.reqs no])).length),((n.reqs.set (dZ n.reqs no) (qp n.reqs[dZ n.reqs no]))[k]).no=(n.reqs[k]' Ace).no:=λk hk=>by
        rw [List.getElem_set]
        split
        .rename_i he;subst he;rfl
        .rfl
       rw [e2 i hi',e2 j hj'];exact a1 i j (by simpa using hi') (by simpa using hj') hij
      .intro q hq;rcases List.mem_or_eq_of_mem_set hq with hq|rfl
       .exact a3 q hq
       .exact Ni (show n.old < _ by have:=hb.1;simp only[qp];omega) hb.2.1 hb.2.2.1 hb.2.2.2.1 (by simp[qp]) (by simp[qp])
     .exact h
theorem Kt {dst:Int} (h:dV n=true) (hd:dY n dst=true) (hk:keyOk key.data.toList=true) (ha:a<=1000000000):dV (fu n dst key a).1=true:=by
 unfold fu;split
 .rename_i hp
  obtain⟨g1,g2,g3,g4,g5,g6⟩:=bJ h;obtain⟨o1,o2,o3⟩:=tK g5;unfold QG at hp;have hp:=aFa hp;have hn:1<=n.next/\n.next<=1000000000:=by simpa [fJ] using g4
  have hle:rO n key a<=1000000000:=by unfold rO;split<;>omega
  refine Bf g1 (tq g2) g3 ?_ ?_ g6
  .show fJ (n.next+1)=true
   unfold fJ;grind
  .unfold tJ;have e:(tN n dst key (rO n key a)).out=n.out++[⟨n.next,dst,key,rO n key a⟩]:=rfl;rw [e];rw [LV (f:=λr:jI=>r.i)]
   .simp;omega
   .grind [rO,keyOk,dY,wU,tN,fJ]
   .grind [rO,wU]
 .exact h
theorem GH (h:dV n=true) {f:Int} (hf:dY n f=true):∃hi:iU n.seen f < n.seen.length,n.seen[iU n.seen f].f=f:=by
 obtain⟨g1,_,g3,_,_,_⟩:=bJ h;rw [xX g1,aEX,aFf] at g3;have hm:f∈n.seen.map (·.f):=by rw [g3.1,ND];exact(Gh g1 f).1 hf
 grind [iU]
theorem Bv (h:dV n=true):∀s∈n.seen,wD s=true:=by
 obtain⟨g1,_,g3,_,_,_⟩:=bJ h;grind [xX]
theorem uw (h:wD s=true):1<=s.l/\s.l<=1000000000/\s.ids.length<=40/\(∀x∈s.ids,s.l<=x/\x<=1000000000)/\s.ids.Pairwise (· < ·):=by
 grind [Ed,iR,fJ,wD,uL,nR]
theorem ads (h1:1<=s.l) (h2:s.l<=1000000000) (h3:s.ids.length<=40) (h4:∀x∈s.ids,s.l<=x/\x<=1000000000) (h5:s.ids.Pairwise (· < ·)):wD s=true:=by
 grind [Ed,iR,fJ,wD,uL,nR]
theorem Bg (hi:i < n.seen.length) (h:dV n=true) (hf:s.f=n.seen[i].f) (hs:wD s=true):dV (dX n (n.seen.set i s))=true:=by
 obtain⟨g1,g2,g3,g4,g5,g6⟩:=bJ h;refine Bf g1 g2 ?_ g4 g5 g6;have g1':eD (dX n (n.seen.set i s))=true:=g1;rw [xX g1',aEX,aFf];rw [xX g1,aEX,aFf] at g3;refine⟨?_,?_⟩
 .show(n.seen.set i s).map (·.f)=ZI (rQ n)
  rw [<-g3.1,List.map_set,hf];apply List.ext_getElem?
  grind
 .show(n.seen.set i s).all wD=true
  rw [aGF];grind
theorem WQ (h:wD s=true) (h1:low<=1000000000):1<=gu s low/\gu s low<=1000000000/\s.l<=gu s low/\low<=gu s low:=by
 have:=uw h;unfold gu;split<;>omega
theorem Mk (h:wD s=true) (h1:low<=1000000000):wD ⟨s.f,gu s low,cu s low⟩=true:=by
 have hl:=WQ h h1;obtain⟨a1,a2,a3,a4,a5⟩:=uw h;refine ads hl.1 hl.2.1 ?_ ?_ ?_
 .exact aEU (aGK _ _) a3
 .intro x hx;have:=aGM.1 hx;grind
 .exact a5.sublist List.filter_sublist
theorem NJ (x:Int):∀(l:List Int),∀y∈l.takeWhile (λy=>decide (y < x)),y < x:=by
 intro l;induction l with
 |nil=>intro y hy;simp at hy
 |cons z l ih=>
  intro y hy;by_cases hz:z < x
  .rw [List.takeWhile_cons_of_pos (by simpa using hz)] at hy;rcases aFd.1 hy with rfl|hy
   .exact hz
   .exact ih y hy
  .grind [List.takeWhile_cons_of_neg]
theorem Ak (x:Int):∀(l:List Int),l.Pairwise (· < ·)->∀y∈l.dropWhile (λy=>decide (y < x)),x<=y:=by
 intro l;induction l with
 |nil=>intro _ y hy;simp at hy
 |cons z l ih=>
  intro hp y hy;by_cases hz:z < x
  .grind [List.dropWhile_cons_of_pos,List.pairwise_cons]
  .rw [List.dropWhile_cons_of_neg (by simpa using hz)] at hy;rcases aFd.1 hy with rfl|hy
   .omega
   .have:=(aFR.1 hp).1 y hy;omega
theorem Dn (l:List Int) (x:Int):(lK l x).length=l.length+1:=by
 grind [lK,List.length_append,List.length_cons,List.takeWhile_append_dropWhile]
theorem Qg {l:List Int} {y:Int}:y∈lK l x↔y=x\/y∈l:=by
 unfold lK;have e:=aGz (p:=λy=>decide (y < x)) (l:=l);grind
theorem Qf {l:List Int} (hp:l.Pairwise (· < ·)) (hx:x∉l):(lK l x).Pairwise (· < ·):=by
 unfold lK;rw [List.pairwise_append,aFR];refine⟨hp.sublist (aGm _),⟨λy hy=>?_,hp.sublist (aGb _)⟩,λy hy z hz=>?_⟩
 .have h1:=Ak x l hp y hy;have h2:y≠x:=λe=>hx (e▸(aGb _).mem hy)
  omega
 .have h1:=NJ x l y hy;rcases aFd.1 hz with rfl|hz
  .exact h1
  .have h2:=Ak x l hp z hz;omega
theorem WE {i:Int} (h:tF s low i=false):gu s low<=i/\i∉cu s low:=by
 grind [tF,Au]
theorem EG {l:List Sn} (hi:i < l.length):l.getD i default=l[i]:=by rw [aFs,aEV hi];rfl
theorem YZ (h:dV n=true) (hd:dY n m.F=true) (hL:m.L<=1000000000) (hI:m.I<=1000000000):dV (takeN n m).1=true:=by
 obtain⟨hi,hf⟩:=GH h hd;have hs:=Bv h _ (aE8 hi);unfold takeN;rw [EG hi];split
 .exact aiQ
 .split
  .rename_i h1 h2
   have h1':tF n.seen[iU n.seen m.F] m.L m.I=false:=Aax
   obtain⟨b1,b2⟩:=WE h1';have ho:=uw (Mk hs hL);have hl:=WQ hs hL;unfold mH at h2;simp only[aEX,aFf] at h2;have hpu:=uZ (l:=(dB n.pu m.k 0 1 0 m.N).1) h (tq (bJ h).2.1);refine Bg (n:=setPu n (dB n.pu m.k 0 1 0 m.N).1) hi hpu hf.symm ?_;refine ads hl.1 hl.2.1 ?_ ?_ ?_
   .show(lK (cu n.seen[iU n.seen m.F] m.L) m.I).length<=40
    rw [Dn];omega
   .intro x hx;rcases Qg.1 hx with rfl|hx
    .exact⟨b1,hI⟩
    .exact ho.2.2.2.1 x hx
   .exact Qf ho.2.2.2.2 b2
  .exact aiQ
theorem Qv {p:jI->Bool} (h:dV n=true):dV (setOut n (n.out.filter p))=true:=by
 obtain⟨g1,g2,g3,g4,g5,g6⟩:=bJ h;obtain⟨o1,o2,o3⟩:=tK g5;refine Bf g1 g2 g3 g4 ?_ g6;unfold tJ;have e:(setOut n (n.out.filter p)).out=n.out.filter p:=rfl;rw [e,LV (f:=λr:jI=>r.i)]
 .grind
 .intro s hs;exact o3 s (aGM.1 hs).1
 .exact o1.sublist List.filter_sublist
theorem Gf (h:bY m=true) (hK:m.K=1):1<=m.I/\m.I<=1000000000/\1<=m.L/\m.L<=1000000000/\keyOk m.k.data.toList=true/\1<=m.N/\m.N<=1000000000:=by
 grind [bY,fJ]
theorem Kq (h:bY m=true) (hK:m.K=0):keyOk m.k.data.toList=true/\1<=m.N/\m.N<=1000000000:=by
 grind [bY,fJ]
theorem Kn (h:bY m=true):m.K=0\/m.K=1\/m.K=2:=by
 grind [bY]
theorem YW (h:dV n=true) (hm:bY m=true) (hd:dY n m.F=true):dV (fU n m).1=true:=by
 unfold fU;split
 .rename_i hK
  have hp:=Gf hm hK;exact YZ h hd hp.2.2.2.1 hp.2.1
 .grind [Kn,Kq,Qv,Kt]
theorem acX (h:dV n=true) (hp:¬n.par= -1):dY n n.par=true:=by
 grind [dY,bJ,qV]
theorem Qy (h:bQ o=true) (hK:o.K=0\/o.K=3\/o.K=4):keyOk o.k.data.toList=true/\1<=o.n/\o.n<=1000000000:=by
 grind [bQ,fJ]
theorem Gj (h:bQ o=true) (hK:o.K=1):keyOk o.k.data.toList=true/\1<=o.n/\o.n<=1000000000/\1<=o.no/\o.no<=1000000000:=by
 grind [bQ,fJ]
theorem MX (h:bQ o=true) (hK:o.K=2):1<=o.no/\o.no<=1000000000:=by
 grind [bQ,fJ]
theorem Kw (h:bQ o=true) (hK:o.K=6):bY o.m=true:=by
 grind [bQ]
theorem Kz (h:bQ o=true):o.K=0\/o.K=1\/o.K=2\/o.K=3\/o.K=4\/o.K=5\/o.K=6:=by
 grind [bQ]
theorem Fe (h:yG n o=true) (hK:o.K=6):o.m.T=n.id/\dY n o.m.F=true:=by
 unfold yG at h;simpa [hK] using h
theorem acW (h:dV n=true) (ho:bQ o=true) (ha:yG n o=true):dV (fF n o).1=true:=by
 unfold fF;split
 .split
  .exact uZ h (tq (bJ h).2.1)
  .exact h
 .split
  .grind [fJ,Uz,Gj]
  .split
   .exact MR h
   .split
    .grind
    .split
     .grind [Kt,acX,Qy]
     .split
      .exact h
      .have hK:o.K=6:=by rcases Kz ho with h|h|h|h|h|h|h<;>omega
       exact YW h (Kw ho hK) (Fe ha hK).2
theorem acY (h:dV n=true):dV (nW n o).1=true:=by
 grind [nW,acW]
theorem Xa (h:dV n=true):dV (doN n o).1=true:=by rw [TP h];exact acY h
end Mth
end Go.Proofs.YtbolgdleijjgfaaGreatDoor
