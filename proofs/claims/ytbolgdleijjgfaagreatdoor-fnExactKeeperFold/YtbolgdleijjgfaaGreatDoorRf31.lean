/- Parts. -/
import Derived.Test.YtbolgdleijjgfaaGreatDoorRf30
namespace Go.Proofs.YtbolgdleijjgfaaGreatDoor
open Go.Proofs.Tryz
set_option maxHeartbeats 16000000
set_option maxRecDepth 100000
open Go.RowKit
open Mth
variable (n:Nd) (a_k rU jm jc jy:Option Addr) (dH fQ eu dJ dR:Nat) (G:aN) (c:Nat->Nat) {w W' X:World} {B:Nat}
def tZ (l:List Rq) (no:Int):Int:=if oU l no=true then(dZ l no:Int) else -1
theorem BD (n:Nd) (A:bq) (no:Int) (w:World) (hl:n.reqs.length<=1000) (hp:n.reqs.Pairwise (λs t=>s.no < t.no)) (ha:gB w A.r n.reqs):
 Calls prog 154 #[gU n A,.int .i64 no] w (dU w (.int .i64 (tZ n.reqs no))):=by
 have HA:=Hq ha;have HP:=Hq hp;have HB0:=Hq (au w (.cells (dD n A) 39));have Iw:=Hq (aEP w (.cells (dD n A) 39));obtain⟨R,hR⟩:∃R,tZ n.reqs no=R:=⟨_,rfl⟩;have HR:=Hq hR;rw [hR];clear ha hp hR;go_in
 go_wp2_with fail;go_loopw [5] (λi wr=>∃k:Nat,k<=n.reqs.length/\i= .int .i64 k/\(∀j (hj:j < n.reqs.length),j < k->n.reqs[j].no≠no)/\Below (w.alloc (.cells (dD n A) 39)).heap.size (w.alloc (.cells (dD n A) 39)) wr) (λi _=>n.reqs.length - (intOf i).toNat)
 case atStart=>exact⟨0,aE7 _,rfl,λj _ h=>Aaa,aE3 _ _⟩
 case round=>
  obtain⟨k,hk,rfl,hno,hbw⟩:=hrel;have nA:=Hq hno;have R7:=Hq (aj Iw hbw);have HBr:=Hq (HB0.trans (hbw.mono HB0.size));have iQ:=Hq hbw;obtain⟨c0,c1,c2,c3,c4,c5,c6,c7,c8⟩:=nine R7;have hnl:=ay R7;clear hno hbw;by_cases hlt:k < n.reqs.length
  .have PI:(k:Int) < (n.reqs.length:Int):=Aaa
   obtain⟨g,off,e0,hg,q0,q1,q2,q3⟩:=gB.four (GR.At.below HA HBr) k hlt;rw [e0] at c8;clear e0;by_cases he:n.reqs[k].no=no
   .have HF:=Hq (QT HP hlt he)
    have hRk:R=k:=by
     rw [<-ah HR];unfold tZ;rw [aFc (ah HF).2,(ah HF).1]
    subst hRk;rw [he] at q0;have hq:(no == no)=true:=Aac
    go_wp2_with fail;go_ret;exact⟨rfl,HBr⟩
   .have hq:(n.reqs[k].no == no)=false:=by simpa using he
    have HE:=Hq he;clear he;generalize hx:n.reqs[k].no=x0 at *;have HX:=Hq hx;clear hx;go_wp2_with fail;go_roundw
    case rel=>exact⟨k+1,Aaa,Aaf,λj hj hjk=>by
     by_cases e:j=k
     .subst e;rw [ah HX];exact HE
     .exact nA j hj Aaa,iQ⟩
    case measure=>simp[intOf];omega
  .have hke:k=n.reqs.length:=Aaa
   subst hke;have hnlt:decide ((n.reqs.length:Int) < (n.reqs.length:Int))=false:=Aac
   have hRk:R= -1:=by
    rw [<-ah HR];unfold tZ;rw [aE2 (by rw [Zl (λq hq=>by obtain⟨j,hj,rfl⟩:=aF3.1 hq;exact ah nA j hj hj)];simp)]
   subst hRk;go_wp2_with fail;go_ret;exact⟨rfl,HBr⟩
theorem GR.own_ati {α:Type} {enc:α->List Value} {sz:Nat} {t:TypeId} {a:Option Addr} {c:Nat} {l:List α} (hs:∀x,(enc x).length=sz) (h:w.ownsRow B t sz (.slice a l.length c) l.length (GR.flat enc l)):GR.At enc sz w a l:=by
 obtain⟨a',c',e,h'⟩:=GR.own_at hs h;simp only[aFN] at e;rw [e.1];exact h'
def Apart (c:Nat->Nat) (w w':World):Prop:=∀x,x < w.heap.size->6 < c x->w'.heap[x]?=w.heap[x]?
theorem Apart.of_below {c:Nat->Nat} {w':World} (h:aH w w'):Apart c w w':=λx hx _=>h.block x hx
theorem Apart.keeps {c:Nat->Nat} {F:List Nat} (h:Apart c w X) (hs:w.heap.size<=X.heap.size) (hk:aA F X W') (hF:∀x∈F,w.heap.size<=x\/c x<=6):Apart c w W':=λx hx hc=>(hk.block x Aaa (λhm=>by have:=hF x hm;omega)).trans (h x hx hc)
theorem Apart.step {c:Nat->Nat} (h:Apart c w X) (hs:w.heap.size<=X.heap.size) (hb:aH X W'):Apart c w W':=λx hx hc=>(hb.block x Aaa).trans (h x hx hc)
theorem Apart.grown {c:Nat->Nat} {row:Option Nat} (h:Apart c w X) (hs:w.heap.size<=X.heap.size) (hg:X.grownBy W' row) (hr:∀x,row=some x->x < w.heap.size->c x<=6):Apart c w W':=λx hx hc=>(hg.block x Aaa (λhm=>by have:=hr x hm.symm hx;omega)).trans (h x hx hc)
def Out (c:Nat->Nat) (w W' W'':World):Prop:=∃F,aA F W' W''/\∀x∈F,x < w.heap.size/\6 < c x
theorem Out.refl {c:Nat->Nat}:Out c w W' W':=⟨[],aA.refl _ _,λx hx=>Abe⟩
theorem KC.out {c:Nat->Nat} {W'':World} (h9:∀x,6 < c x->c x=9) (h:Out c w W' W''):KC (newC w.heap.size 9 c) 9 W' W'':=by
 obtain⟨F,hk,hF⟩:=h;exact KC.keeps hk (λx hx=>by rw [fE (hF x hx).1];exact h9 x (hF x hx).2)
def je (w:World) (B:Nat) (c:Nat->Nat) (R:Nd×Int) (e:Ending) (w':World):Prop:=∃A',e= .returned (.tuple #[gU R.1 A',.int .i64 R.2])/\(∀W'',Out c w w' W''->RM W'' A' R.1)/\Below B w w'/\Apart c w w'
theorem NQ.nine {n:Nd} {A:bq} {G:aN} {c:Nat->Nat} (h:NQ w B n A G c) (hB:B<=w.heap.size):NQ w B n A G (newC w.heap.size 9 c):=h.recol hB (λ_ hx=>fE hx)
theorem JG (n:Nd) (A:bq) (G:aN) (c:Nat->Nat) (no:Int) (w:World) (B:Nat) (hB:B<=w.heap.size) (h9:∀x,6 < c x->c x=9) (hs:no<=n.old) (h:NQ w B n A G c):Calls prog 129 #[gU n A,.int .i64 no] w (je w B c (aU n no)):=by
 have hR:aU n no=(n,2):=aFc hs;rw [hR];clear hR;unfold je;have H9:=Hq h9;clear h9;have hbw0:=au w (.cells (dD n A) 39);open asr in exact VQ
theorem Nw (n:Nd) (A:bq) (G:aN) (c:Nat->Nat) (no:Int) (w:World) (B:Nat) (hB:B<=w.heap.size) (h9:∀x,6 < c x->c x=9) (hok:iw n=true) (hs:¬no<=n.old) (hf:oU n.reqs no=false) (h:NQ w B n A G c):Calls prog 129 #[gU n A,.int .i64 no] w (je w B c (aU n no)):=by
 have hR:aU n no=(n,1):=by unfold aU;rw [aE2 hs,aFc hf]
 have hJ:tZ n.reqs no= -1:=by unfold tZ;rw [aE2 Abi]
 rw [hR];clear hR hf;have hp:=iY hok;have OD:=Hq (λW1 (ha:gB W1 A.r n.reqs)=>BD n A no W1 Aaa hp.1 ha);rw [hJ] at OD;clear hp hok;unfold je;have H9:=Hq h9;clear h9;have hbw0:=au w (.cells (dD n A) 39);open asq in exact VQ
theorem Rt (no:Int) (w:World) (B:Nat) (hB:B<=w.heap.size) (h9:∀x,6 < c x->c x=9) (i:Nat) (hi:i < n.reqs.length) (hok:iw n=true) (hs:¬no<=n.old) (hJ:tZ n.reqs no=i) (hR:aU n no=(n,1)) (hst:n.reqs[i].s=1) (h:NQ w B n (⟨a_k,rU,jm,jc,jy,dH,fQ,eu,dJ,dR⟩:bq) G c):Calls prog 129 #[gU n (⟨a_k,rU,jm,jc,jy,dH,fQ,eu,dJ,dR⟩:bq),.int .i64 no] w (je w B c (aU n no)):=by
 exact axx
theorem JF (no:Int) (w:World) (B:Nat) (hB:B<=w.heap.size) (h9:∀x,6 < c x->c x=9) (i:Nat) (hi:i < n.reqs.length) (hok:iw n=true) (hs:¬no<=n.old) (hJ:tZ n.reqs no=i) (hR:aU n no=(n,0)) (hst:n.reqs[i].s=2) (h:NQ w B n (⟨a_k,rU,jm,jc,jy,dH,fQ,eu,dJ,dR⟩:bq) G c):Calls prog 129 #[gU n (⟨a_k,rU,jm,jc,jy,dH,fQ,eu,dJ,dR⟩:bq),.int .i64 no] w (je w B c (aU n no)):=by
 exact axx
theorem BA (no:Int) (w:World) (B:Nat) (hB:B<=w.heap.size) (h9:∀x,6 < c x->c x=9) (i:Nat) (hi:i < n.reqs.length) (hz:eG n 1048576) (hP:∃g,rU=some ⟨g,0,none⟩) (yX:n.pu.length<=fQ) (hok:iw n=true) (hs:¬no<=n.old) (hJ:tZ n.reqs no=i) (RL:List Pu) (hR:aU n no=(n,1)) (hst:n.reqs[i].s=0) (hu:dB n.pu n.reqs[i].k 0 1 (-1) n.reqs[i].n=(RL,false)) (h:NQ w B n (⟨a_k,rU,jm,jc,jy,dH,fQ,eu,dJ,dR⟩:bq) G c):Calls prog 129 #[gU n (⟨a_k,rU,jm,jc,jy,dH,fQ,eu,dJ,dR⟩:bq),.int .i64 no] w (je w B c (aU n no)):=by
 rw [hR];obtain⟨gp,hgp⟩:=hP;subst hgp;have hiI:(i:Int) < (n.reqs.length:Int):=Aaa
 have HST:=Hq hst;open aAR in exact Yk8
theorem CY (no:Int) (w:World) (B:Nat) (hB:B<=w.heap.size) (h9:∀x,6 < c x->c x=9) (i:Nat) (hi:i < n.reqs.length) (hz:eG n 1048576) (hP:∃g,rU=some ⟨g,0,none⟩) (yX:n.pu.length<=fQ) (hok:iw n=true) (hs:¬no<=n.old) (hJ:tZ n.reqs no=i) (RL:List Pu) (hR:aU n no=(eT (setPu n RL) (n.reqs.set i (qp n.reqs[i])),0)) (hst:n.reqs[i].s=0) (hu:dB n.pu n.reqs[i].k 0 1 (-1) n.reqs[i].n=(RL,true)) (h:NQ w B n (⟨a_k,rU,jm,jc,jy,dH,fQ,eu,dJ,dR⟩:bq) G c):Calls prog 129 #[gU n (⟨a_k,rU,jm,jc,jy,dH,fQ,eu,dJ,dR⟩:bq),.int .i64 no] w (je w B c (aU n no)):=by
 rw [hR];obtain⟨gp,hgp⟩:=hP;subst hgp;have hiI:(i:Int) < (n.reqs.length:Int):=Aaa
 have HST:=Hq hst;open aAQ in exact Yk8
theorem Ru (n:Nd) (A:bq) (G:aN) (c:Nat->Nat) (no:Int) (w:World) (B:Nat) (hB:B<=w.heap.size) (h9:∀x,6 < c x->c x=9) (hz:eG n 1048576) (hP:∃g,A.p=some ⟨g,0,none⟩) (yX:n.pu.length<=A.cp) (hok:iw n=true) (h:NQ w B n A G c):Calls prog 129 #[gU n A,.int .i64 no] w (je w B c (aU n no)):=by
 by_cases hs:no<=n.old
 .exact JG n A G c no w B hB h9 hs h
 cases hf:oU n.reqs no with
 |false=>exact Nw n A G c no w B hB h9 hok hs hf h
 |true=>
  have hil:=((oV n.reqs no).1 hf).1;have hgd:n.reqs.getD (dZ n.reqs no) default=n.reqs[dZ n.reqs no]:=by rw [aFs,aEV hil];rfl
  have hJ:tZ n.reqs no=(dZ n.reqs no:Nat):=by unfold tZ;rw [aFc hf]
  obtain⟨_,_,_,_,b1,b2⟩:=kK ((iY hok).2.2.1 _ (aE8 hil));obtain⟨ak,ap,ao,az,ar,ck,cp,co,cs,cr⟩:=A;by_cases s1:n.reqs[dZ n.reqs no].s=1
  .exact Rt n ak ap ao az ar ck cp co cs cr G c no w B hB h9 _ hil hok hs hJ (by unfold aU;rw [aE2 hs,aE2 Abi,hgd,aFc s1]) s1 h
  by_cases s2:n.reqs[dZ n.reqs no].s=2
  .exact JF n ak ap ao az ar ck cp co cs cr G c no w B hB h9 _ hil hok hs hJ (by unfold aU;rw [aE2 hs,aE2 Abi,hgd,aE2 s1,aFc s2]) s2 h
  obtain⟨R,hR⟩:∃R,dB n.pu n.reqs[dZ n.reqs no].k 0 1 (-1) n.reqs[dZ n.reqs no].n=R:=⟨_,rfl⟩;obtain⟨RL,b⟩:=R
  have hrel:aU n no=if b=true then(eT (setPu n RL) (n.reqs.set (dZ n.reqs no) (qp n.reqs[dZ n.reqs no])),0) else(n,1):=by
   unfold aU;rw [aE2 hs,aE2 Abi,hgd,aE2 s1,aE2 s2,hR]
  cases b with
  |false=>exact BA n ak ap ao az ar ck cp co cs cr G c no w B hB h9 _ hil hz hP yX hok hs hJ RL (by rw [hrel];simp) Aaa hR h
  |true=>exact CY n ak ap ao az ar ck cp co cs cr G c no w B hB h9 _ hil hz hP yX hok hs hJ RL (by rw [hrel];simp) Aaa hR h
def gM (w:World) (B:Nat) (c:Nat->Nat) (R:Nd×List Mg×Int) (e:Ending) (w':World):Prop:=∃A' a cp,e= .returned (.tuple #[gU R.1 A',.slice a R.2.1.length cp,.int .i64 R.2.2])/\(∀W'',Out c w w' W''->RM W'' A' R.1)/\(∀W'',Out c w w' W''->GR.At jC 7 W'' a R.2.1)/\Below B w w'/\Apart c w w'
theorem Rl (n:Nd) (A:bq) (G:aN) (c:Nat->Nat) (dst:Int) (key:ByteArray) (most:Int) (w:World) (B:Nat) (hB:B<=w.heap.size) (h9:∀x,6 < c x->c x=9) (pk:ByteArray) (pm pf ps:Int) (hpp:aD n.pu key=⟨pk,pm,pf,ps⟩) (hl:n.pu.length<=1048600) (gW:Int) (hc:(if pf < most then pf else most)=gW) (h1:gW < 1) (h:NQ w B n A G c):Calls prog 132 #[gU n A,.int .i64 dst,.string key,.int .i64 most] w (gM w B c (n,[],1)):=by
 have q1:decide (gW < 1)=true:=Aax
 exact Zk3
theorem Rm (n:Nd) (A:bq) (G:aN) (c:Nat->Nat) (dst:Int) (key:ByteArray) (most:Int) (w:World) (B:Nat) (hB:B<=w.heap.size) (h9:∀x,6 < c x->c x=9) (pk:ByteArray) (pm pf ps:Int) (hpp:aD n.pu key=⟨pk,pm,pf,ps⟩) (hl:n.pu.length<=1048600) (gW:Int) (hc:(if pf < most then pf else most)=gW) (h1:¬gW < 1) (h2:40<=n.out.length) (h:NQ w B n A G c):Calls prog 132 #[gU n A,.int .i64 dst,.string key,.int .i64 most] w (gM w B c (n,[],1)):=by
 have q1:decide (gW < 1)=false:=Aax
 have h2I:(40:Int)<=(n.out.length:Int):=Aaa
 have q2:decide ((40:Int)<=(n.out.length:Int))=true:=by simpa using h2I
 exact Zk3
theorem Rn (n:Nd) (A:bq) (G:aN) (c:Nat->Nat) (dst:Int) (key:ByteArray) (most:Int) (w:World) (B:Nat) (hB:B<=w.heap.size) (h9:∀x,6 < c x->c x=9) (pk:ByteArray) (pm pf ps:Int) (hpp:aD n.pu key=⟨pk,pm,pf,ps⟩) (hl:n.pu.length<=1048600) (gW:Int) (hc:(if pf < most then pf else most)=gW) (h1:¬gW < 1) (h2:¬40<=n.out.length) (h3:1000000000<=n.next) (h:NQ w B n A G c):Calls prog 132 #[gU n A,.int .i64 dst,.string key,.int .i64 most] w (gM w B c (n,[],1)):=by
 have q1:decide (gW < 1)=false:=Aax
 have h2I:¬(40:Int)<=(n.out.length:Int):=Aaa
 have q2:decide ((40:Int)<=(n.out.length:Int))=false:=by simpa using h2I
 have q3:decide ((1000000000:Int)<=n.next)=true:=Acf
 exact Zk3
theorem U9 (dst:Int) (key:ByteArray) (most:Int) (w:World) (B:Nat) (hB:B<=w.heap.size) (h9:∀x,6 < c x->c x=9) (pk:ByteArray) (pm pf ps:Int) (hpp:aD n.pu key=⟨pk,pm,pf,ps⟩) (hl:n.pu.length<=1048600) (hz:eG n 1048576) (hkey:key.size<=1048576) (hP:∃g,rU=some ⟨g,0,none⟩) (yX:n.pu.length<=fQ) (gW:Int) (RL:List Pu) (bu:Bool) (hu:dB n.pu key 0 (-1) 0 gW=(RL,bu)) (hc:(if pf < most then pf else most)=gW) (h1:¬gW < 1) (h2:¬40<=n.out.length) (h3:¬1000000000<=n.next) (h0:0<=n.next) (h:NQ w B n (⟨a_k,rU,jm,jc,jy,dH,fQ,eu,dJ,dR⟩:bq) G c):Calls prog 132 #[gU n (⟨a_k,rU,jm,jc,jy,dH,fQ,eu,dJ,dR⟩:bq),.int .i64 dst,.string key,.int .i64 most] w (gM w B c (⟨n.id,n.par,n.kids,n.next+1,RL,n.out++[⟨n.next,dst,key,gW⟩],n.seen,n.old,n.reqs⟩,[qU ⟨n.id,n.par,n.kids,n.next+1,RL,n.out++[⟨n.next,dst,key,gW⟩],n.seen,n.old,n.reqs⟩ ⟨n.next,dst,key,gW⟩],0)):=by
 have q1:decide (gW < 1)=false:=Aax
 have h2I:¬(40:Int)<=(n.out.length:Int):=Aaa
 have q2:decide ((40:Int)<=(n.out.length:Int))=false:=by simpa using h2I
 have q3:decide ((1000000000:Int)<=n.next)=false:=Acf
 obtain⟨gp,hgp⟩:=hP;subst hgp;obtain⟨i0,hi,hz0,hz1,hz2⟩:=aFt MF;have HPT:=Hq (λW (ha:aG W (some ⟨gp,0,none⟩) n.pu)=>adv gp 0 fQ n.pu key gW W (aEU hz.p Aaa) yX hz.pk hkey ha);unfold jd at HPT;rw [hu] at HPT;obtain⟨PM,Iq⟩:∃PM,qU ⟨n.id,n.par,n.kids,n.next+1,RL,n.out++[⟨n.next,dst,key,gW⟩],n.seen,n.old,n.reqs⟩ ⟨n.next,dst,key,gW⟩=PM:=⟨_,rfl⟩;have HPM:=Hq Iq;rw [Iq];clear hz yX hu Iq;unfold gM;have H9:=Hq h9;clear h9;have JR:=Hq (λW (ha:aG W (some ⟨gp,0,none⟩) n.pu)=>xq (some ⟨gp,0,none⟩) fQ n.pu key W hl ha);rw [hpp] at JR;unfold yx at JR;clear hpp;have hbw0:=au w (.cells (dD n (⟨a_k,(some ⟨gp,0,none⟩),jm,jc,jy,dH,fQ,eu,dJ,dR⟩:bq)) 39);have nA:=Hq (h.nine hB);clear h;go_in
 go_upto_region 1 with fail;refine wp_at (λW0 hW=>?_);obtain⟨e1,e2,e3⟩:=gH w (.cells (dD n (⟨a_k,(some ⟨gp,0,none⟩),jm,jc,jy,dH,fQ,eu,dJ,dR⟩:bq)) 39) (.cells lC 39);open apO in exact aw1
theorem Rk (n:Nd) (A:bq) (G:aN) (c:Nat->Nat) (dst:Int) (key:ByteArray) (most:Int) (w:World) (B:Nat) (hB:B<=w.heap.size) (h9:∀x,6 < c x->c x=9) (hz:eG n 1048576) (hkey:key.size<=1048576) (hP:∃g,A.p=some ⟨g,0,none⟩) (yX:n.pu.length<=A.cp) (h0:0<=n.next) (h:NQ w B n A G c):Calls prog 132 #[gU n A,.int .i64 dst,.string key,.int .i64 most] w (gM w B c ((fu n dst key most).1,(fu n dst key most).2.1,if (fu n dst key most).2.2=true then 0 else 1)):=by
 obtain⟨pp,hpp⟩:∃pp,aD n.pu key=pp:=⟨_,rfl⟩;obtain⟨pk,pm,pf,ps⟩:=pp;have hl:n.pu.length<=1048600:=aEU hz.p Aaa
 have key2:∀gW,rO n key most=gW->(¬(1<=gW/\n.out.length < 40/\n.next < 1000000000)->((fu n dst key most).1,(fu n dst key most).2.1,if (fu n dst key most).2.2=true then(0:Int) else 1)=(n,[],1))/\((1<=gW/\n.out.length < 40/\n.next < 1000000000)->((fu n dst key most).1,(fu n dst key most).2.1,if (fu n dst key most).2.2=true then(0:Int) else 1)=(tN n dst key gW,[qU (tN n dst key gW) ⟨n.next,dst,key,gW⟩],0)):=λgW e=>by
  subst e
  constructor
  .intro hn;have e:QG n (rO n key most)=false:=by unfold QG;exact aES hn
   unfold fu;rw [e];rfl
  .intro hy;have e:QG n (rO n key most)=true:=by unfold QG;exact aET hy
   unfold fu;rw [e];rfl
 obtain⟨ak,ap,ao,az,ar,ck,cp,co,cs,cr⟩:=A;obtain⟨gW,hc⟩:∃gW,(if pf < most then pf else most)=gW:=⟨_,rfl⟩;obtain⟨k1,k2⟩:=key2 gW (by unfold rO;rw [hpp];exact hc);obtain⟨R,hR⟩:∃R,dB n.pu key 0 (-1) 0 gW=R:=⟨_,rfl⟩;by_cases h1:gW < 1
 .rw [k1 Aaa];exact Rl n _ G c dst key most w B hB h9 pk pm pf ps hpp hl gW hc h1 h
 by_cases h2:40<=n.out.length
 .rw [k1 Aaa];exact Rm n _ G c dst key most w B hB h9 pk pm pf ps hpp hl gW hc h1 h2 h
 by_cases h3:1000000000<=n.next
 .rw [k1 Aaa];exact Rn n _ G c dst key most w B hB h9 pk pm pf ps hpp hl gW hc h1 h2 h3 h
 rw [k2 Aaa];unfold tN;rw [hR];exact U9 n ak ap ao az ar ck cp co cs cr G c dst key most w B hB h9 pk pm pf ps hpp hl hz hkey hP yX gW R.1 R.2 hR hc h1 h2 h3 h0 h
theorem Jr (n:Nd) (A:bq) (G:aN) (c:Nat->Nat) (mK mF mT mI mL:Int) (mk:ByteArray) (mN:Int) (w:World) (B:Nat) (hB:B<=w.heap.size) (h9:∀x,6 < c x->c x=9) (hkl:n.kids.length<=1048600) (hmk:mk.size<=1048576) (hmo:bY ⟨mK,mF,mT,mI,mL,mk,mN⟩=true) (h1:mT≠n.id) (h:NQ w B n A G c):Calls prog 131 #[gU n A,.agg (bX mK mF mT mI mL mk mN)] w (gM w B c (n,[],3)):=by
 have q0:(mT != n.id)=true:=Aax
 have q0':(mT == n.id)=false:=Aax
 unfold gM;have H9:=Hq h9;clear h9;have HMO:=Hq (λW=>lq ⟨mK,mF,mT,mI,mL,mk,mN⟩ W Aal);rw [hmo] at HMO;unfold oJ at HMO;have R6:=Hq (λW (ha:bH W A.k n.kids)=>Hg n A mF W hkl ha);clear hmo;have nA:=Hq (h.nine hB);clear h;go_in
 go_upto_region 1 with fail;refine wp_at (λW0 hW=>?_);obtain⟨e1,e2,e3,e4⟩:=gG w (.cells (dD n A) 39) (.cells (bX mK mF mT mI mL mk mN) 70) (.cells lC 39);open aoW in exact awU
theorem Jq (n:Nd) (A:bq) (G:aN) (c:Nat->Nat) (mK mF mT mI mL:Int) (mk:ByteArray) (mN:Int) (w:World) (B:Nat) (hB:B<=w.heap.size) (h9:∀x,6 < c x->c x=9) (hkl:n.kids.length<=1048600) (hmk:mk.size<=1048576) (hmo:bY ⟨mK,mF,mT,mI,mL,mk,mN⟩=true) (h1:mT=n.id) (h2:dY n mF=false) (h:NQ w B n A G c):Calls prog 131 #[gU n A,.agg (bX mK mF mT mI mL mk mN)] w (gM w B c (n,[],3)):=by
 open awh in exact OV
theorem Ro (n:Nd) (A:bq) (G:aN) (c:Nat->Nat) (mK mF mT mI mL:Int) (mk:ByteArray) (mN:Int) (w:World) (B:Nat) (hB:B<=w.heap.size) (h9:∀x,6 < c x->c x=9) (hkl:n.kids.length<=1048600) (hmk:mk.size<=1048576) (hmo:bY ⟨mK,mF,mT,mI,mL,mk,mN⟩=true) (h1:mT=n.id) (h2:dY n mF=true) (h3:mK=0) (h4:mF=n.par) (h:NQ w B n A G c):Calls prog 131 #[gU n A,.agg (bX mK mF mT mI mL mk mN)] w (gM w B c (n,[],1)):=by
 open awg in exact OV
theorem Js (n:Nd) (A:bq) (G:aN) (c:Nat->Nat) (mK mF mT mI mL:Int) (mk:ByteArray) (mN:Int) (w:World) (B:Nat) (hB:B<=w.heap.size) (h9:∀x,6 < c x->c x=9) (hkl:n.kids.length<=1048600) (hmk:mk.size<=1048576) (hmo:bY ⟨mK,mF,mT,mI,mL,mk,mN⟩=true) (hz:eG n 1048576) (hP:∃g,A.p=some ⟨g,0,none⟩) (yX:n.pu.length<=A.cp) (h0:0<=n.next) (h1:mT=n.id) (h2:dY n mF=true) (h3:mK=0) (h4:mF≠n.par) (h:NQ w B n A G c):Calls prog 131 #[gU n A,.agg (bX mK mF mT mI mL mk mN)] w (gM w B c ((fu n mF mk mN).1,(fu n mF mk mN).2.1,0)):=by
 open awf in exact OV
theorem Jl (n:Nd) (A:bq) (G:aN) (c:Nat->Nat) (K no:Int) (k:ByteArray) (nn mK mF mT mI mL:Int) (mk:ByteArray) (mN:Int) (w:World) (B:Nat) (hB:B<=w.heap.size) (h9:∀x,6 < c x->c x=9) (hs:no<=n.old) (h:NQ w B n A G c):Calls prog 128 #[gU n A,.agg (bV K no k nn mK mF mT mI mL mk mN)] w (je w B c (n,2)):=by
 open as3 in exact aaE
theorem UL (K no:Int) (k:ByteArray) (nn mK mF mT mI mL:Int) (mk:ByteArray) (mN:Int) (w:World) (B:Nat) (hB:B<=w.heap.size) (h9:∀x,6 < c x->c x=9) (i:Nat) (hi:i < n.reqs.length) (hok:iw n=true) (hs:¬no<=n.old) (hJ:tZ n.reqs no=i) (rq:Rq) (hrq:n.reqs[i]=rq) (h1:(rq.s == 0)=false) (h:NQ w B n (⟨a_k,rU,jm,jc,jy,dH,fQ,eu,dJ,dR⟩:bq) G c):Calls prog 128 #[gU n (⟨a_k,rU,jm,jc,jy,dH,fQ,eu,dJ,dR⟩:bq),.agg (bV K no k nn mK mF mT mI mL mk mN)] w (je w B c (n,1)):=by
 open aAL in exact Yk6
theorem UN (K no:Int) (k:ByteArray) (nn mK mF mT mI mL:Int) (mk:ByteArray) (mN:Int) (w:World) (B:Nat) (hB:B<=w.heap.size) (h9:∀x,6 < c x->c x=9) (i:Nat) (hi:i < n.reqs.length) (hok:iw n=true) (hs:¬no<=n.old) (hJ:tZ n.reqs no=i) (rq:Rq) (hrq:n.reqs[i]=rq) (h1:(rq.s == 0)=true) (h2:(rq.k.toList == k.toList)=false) (h:NQ w B n (⟨a_k,rU,jm,jc,jy,dH,fQ,eu,dJ,dR⟩:bq) G c):Calls prog 128 #[gU n (⟨a_k,rU,jm,jc,jy,dH,fQ,eu,dJ,dR⟩:bq),.agg (bV K no k nn mK mF mT mI mL mk mN)] w (je w B c (n,1)):=by
 open aAK in exact Yk6
theorem UO (K no:Int) (k:ByteArray) (nn mK mF mT mI mL:Int) (mk:ByteArray) (mN:Int) (w:World) (B:Nat) (hB:B<=w.heap.size) (h9:∀x,6 < c x->c x=9) (i:Nat) (hi:i < n.reqs.length) (hok:iw n=true) (hs:¬no<=n.old) (hJ:tZ n.reqs no=i) (rq:Rq) (hrq:n.reqs[i]=rq) (h1:(rq.s == 0)=true) (h2:(rq.k.toList == k.toList)=true) (h3:(rq.n == nn)=false) (h:NQ w B n (⟨a_k,rU,jm,jc,jy,dH,fQ,eu,dJ,dR⟩:bq) G c):Calls prog 128 #[gU n (⟨a_k,rU,jm,jc,jy,dH,fQ,eu,dJ,dR⟩:bq),.agg (bV K no k nn mK mF mT mI mL mk mN)] w (je w B c (n,1)):=by
 exact axK
theorem UQ (K no:Int) (k:ByteArray) (nn mK mF mT mI mL:Int) (mk:ByteArray) (mN:Int) (w:World) (B:Nat) (hB:B<=w.heap.size) (h9:∀x,6 < c x->c x=9) (i:Nat) (hi:i < n.reqs.length) (hok:iw n=true) (hs:¬no<=n.old) (hJ:tZ n.reqs no=i) (rq:Rq) (hrq:n.reqs[i]=rq) (h1:(rq.s == 0)=true) (h2:(rq.k.toList == k.toList)=true) (h3:(rq.n == nn)=true) (h:NQ w B n (⟨a_k,rU,jm,jc,jy,dH,fQ,eu,dJ,dR⟩:bq) G c):Calls prog 128 #[gU n (⟨a_k,rU,jm,jc,jy,dH,fQ,eu,dJ,dR⟩:bq),.agg (bV K no k nn mK mF mT mI mL mk mN)] w (je w B c (n,0)):=by
 exact axK
end Go.Proofs.YtbolgdleijjgfaaGreatDoor
