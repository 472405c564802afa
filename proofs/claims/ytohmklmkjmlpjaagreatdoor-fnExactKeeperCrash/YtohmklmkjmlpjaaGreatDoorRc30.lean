/- Parts. -/
import Derived.Test.YtohmklmkjmlpjaaGreatDoorRc29
import Derived.Test.YtohmklmkjmlpjaaGreatDoorRc16
namespace Go.Proofs.YtohmklmkjmlpjaaGreatDoor
open Go.Proofs.Tryz
set_option maxHeartbeats 8000000
set_option maxRecDepth 100000
open Go.RowKit
open Mth
variable (n:Nd) (a_k ku fP gN gX:Option Addr) (bf dJ bJ bg bC:Nat) (G:aR) (c:Nat->Nat) (no:Int) (w:World) (B:Nat) {W':World}
def tO (l:List Rq) (no:Int):Int:=if oH l no=true then(eu l no:Int) else -1
theorem Bb (n:Nd) (A:bV) (no:Int) (w:World) (hl:n.reqs.length<=1000) (hp:n.reqs.Pairwise (λs t=>s.no < t.no)) (ha:gZ w A.r n.reqs):
 Calls prog 146 #[gP n A,.int .i64 no] w (dZ w (.int .i64 (tO n.reqs no))):=by
 have HA:=Hq ha;have HP:=Hq hp;have HB0:=Hq (ay w (.cells (dG n A) 40));have Ig:=Hq (aGg w (.cells (dG n A) 40));obtain⟨R,hR⟩:∃R,tO n.reqs no=R:=⟨_,rfl⟩;have HR:=Hq hR;rw [hR];clear ha hp hR;go_in
 go_wp2_with fail;go_loopw [5] (λi wr=>∃k:Nat,k<=n.reqs.length/\i= .int .i64 k/\(∀j (hj:j < n.reqs.length),j < k->n.reqs[j].no≠no)/\Below (w.alloc (.cells (dG n A) 40)).heap.size (w.alloc (.cells (dG n A) 40)) wr) (λi _=>n.reqs.length - (intOf i).toNat)
 case atStart=>exact⟨0,aGB _,rfl,λj _ h=>Aaa,aGs _ _⟩
 case round=>
  obtain⟨k,hk,rfl,hno,hbw⟩:=hrel;have mZ:=Hq hno;have Sm:=Hq (au Ig hbw);have HBr:=Hq (HB0.trans (hbw.mono HB0.size));have jl:=Hq hbw;obtain⟨c0,c1,c2,c3,c4,c5,c6,c7,c8⟩:=nine Sm;have hnl:=aA Sm;clear hno hbw;by_cases hlt:k < n.reqs.length
  .have PW:(k:Int) < (n.reqs.length:Int):=Aaa
   obtain⟨g,off,e0,hg,q0,q1,q2,q3⟩:=gZ.four (GR.At.below HA HBr) k hlt;rw [e0] at c8;clear e0;by_cases he:n.reqs[k].no=no
   .have HF:=Hq (Q5 HP hlt he)
    have hRk:R=k:=by
     rw [<-ah HR];unfold tO;rw [aGC (ah HF).2,(ah HF).1]
    subst hRk;rw [he] at q0;have hq:(no == no)=true:=Aac
    go_wp2_with fail;go_ret;exact⟨rfl,HBr⟩
   .have hq:(n.reqs[k].no == no)=false:=by simpa using he
    have HE:=Hq he;clear he;generalize hx:n.reqs[k].no=x0 at *;have HX:=Hq hx;clear hx;go_wp2_with fail;go_roundw
    case rel=>exact⟨k+1,Aaa,Aaf,λj hj hjk=>by
     by_cases e:j=k
     .subst e;rw [ah HX];exact HE
     .exact mZ j hj Aaa,jl⟩
    case measure=>simp[intOf];omega
  .have hke:k=n.reqs.length:=Aaa
   subst hke;have hnlt:decide ((n.reqs.length:Int) < (n.reqs.length:Int))=false:=Aac
   have hRk:R= -1:=by
    rw [<-ah HR];unfold tO;rw [aGr (by rw [Zk (λq hq=>by obtain⟨j,hj,rfl⟩:=aHm.1 hq;exact ah mZ j hj hj)];simp)]
   subst hRk;go_wp2_with fail;go_ret;exact⟨rfl,HBr⟩
theorem GR.own_ati {α:Type} {enc:α->List Value} {sz:Nat} {w:World} {B:Nat} {t:TypeId} {a:Option Addr} {c:Nat} {l:List α} (hs:∀x,(enc x).length=sz) (h:w.ownsRow B t sz (.slice a l.length c) l.length (GR.flat enc l)):GR.At enc sz w a l:=by
 obtain⟨a',c',e,h'⟩:=GR.own_at hs h;simp only[aG4] at e;rw [e.1];exact h'
def Apart (c:Nat->Nat) (w w':World):Prop:=∀x,x < w.heap.size->6 < c x->w'.heap[x]?=w.heap[x]?
theorem Apart.of_below {c:Nat->Nat} {w w':World} (h:aI w w'):Apart c w w':=λx hx _=>h.block x hx
theorem Apart.keeps {c:Nat->Nat} {w X:World} {F:List Nat} (h:Apart c w X) (hs:w.heap.size<=X.heap.size) (hk:aC F X W') (hF:∀x∈F,w.heap.size<=x\/c x<=6):Apart c w W':=λx hx hc=>(hk.block x Aaa (λhm=>by have:=hF x hm;omega)).trans (h x hx hc)
theorem Apart.step {c:Nat->Nat} {w X:World} (h:Apart c w X) (hs:w.heap.size<=X.heap.size) (hb:aI X W'):Apart c w W':=λx hx hc=>(hb.block x Aaa).trans (h x hx hc)
theorem Apart.grown {c:Nat->Nat} {w X:World} {row:Option Nat} (h:Apart c w X) (hs:w.heap.size<=X.heap.size) (hg:X.grownBy W' row) (hr:∀x,row=some x->x < w.heap.size->c x<=6):Apart c w W':=λx hx hc=>(hg.block x Aaa (λhm=>by have:=hr x hm.symm hx;omega)).trans (h x hx hc)
def Out (c:Nat->Nat) (w W' W'':World):Prop:=∃F,aC F W' W''/\∀x∈F,x < w.heap.size/\6 < c x
theorem Out.refl {c:Nat->Nat} {w:World}:Out c w W' W':=⟨[],aC.refl _ _,λx hx=>Abg⟩
theorem KC.out {c:Nat->Nat} {w W'':World} (h9:∀x,6 < c x->c x=9) (h:Out c w W' W''):KC (newC w.heap.size 9 c) 9 W' W'':=by
 obtain⟨F,hk,hF⟩:=h;exact KC.keeps hk (λx hx=>by rw [fE (hF x hx).1];exact h9 x (hF x hx).2)
def jo (w:World) (B:Nat) (c:Nat->Nat) (R:Nd×Int) (e:Ending) (w':World):Prop:=∃A',e= .returned (.tuple #[gP R.1 A',.int .i64 R.2])/\(∀W'',Out c w w' W''->RM W'' A' R.1)/\Below B w w'/\Apart c w w'
theorem NQ.nine {w:World} {B:Nat} {n:Nd} {A:bV} {G:aR} {c:Nat->Nat} (h:NQ w B n A G c) (hB:B<=w.heap.size):NQ w B n A G (newC w.heap.size 9 c):=h.recol hB (λ_ hx=>fE hx)
theorem Jw (n:Nd) (A:bV) (G:aR) (c:Nat->Nat) (no:Int) (w:World) (B:Nat) (hB:B<=w.heap.size) (h9:∀x,6 < c x->c x=9) (hs:no<=n.old) (h:NQ w B n A G c):Calls prog 108 #[gP n A,.int .i64 no] w (jo w B c (bq n no)):=by
 have hR:bq n no=(n,2):=aGC hs;rw [hR];clear hR;unfold jo;have H9:=Hq h9;clear h9;have hbw0:=ay w (.cells (dG n A) 40);open atK in exact Wm
theorem NJ (n:Nd) (A:bV) (G:aR) (c:Nat->Nat) (no:Int) (w:World) (B:Nat) (hB:B<=w.heap.size) (h9:∀x,6 < c x->c x=9) (hok:iC n=true) (hs:¬no<=n.old) (hf:oH n.reqs no=false) (h:NQ w B n A G c):Calls prog 108 #[gP n A,.int .i64 no] w (jo w B c (bq n no)):=by
 have hR:bq n no=(n,1):=by unfold bq;rw [aGr hs,aGC hf]
 have hJ:tO n.reqs no= -1:=by unfold tO;rw [aGr Abi]
 rw [hR];clear hR hf;have hp:=jk hok;have OL:=Hq (λW1 (ha:gZ W1 A.r n.reqs)=>Bb n A no W1 Aaa hp.1 ha);rw [hJ] at OL;clear hp hok;unfold jo;have H9:=Hq h9;clear h9;have hbw0:=ay w (.cells (dG n A) 40);open atJ in exact Wm
theorem RA (hB:B<=w.heap.size) (h9:∀x,6 < c x->c x=9) (i:Nat) (hi:i < n.reqs.length) (hok:iC n=true) (hs:¬no<=n.old) (hJ:tO n.reqs no=i) (hR:bq n no=(n,1)) (hst:n.reqs[i].s=1) (h:NQ w B n (⟨a_k,ku,fP,gN,gX,bf,dJ,bJ,bg,bC⟩:bV) G c):Calls prog 108 #[gP n (⟨a_k,ku,fP,gN,gX,bf,dJ,bJ,bg,bC⟩:bV),.int .i64 no] w (jo w B c (bq n no)):=by
 rw [hR];open aCr in exact Yk8
theorem Jv (hB:B<=w.heap.size) (h9:∀x,6 < c x->c x=9) (i:Nat) (hi:i < n.reqs.length) (hok:iC n=true) (hs:¬no<=n.old) (hJ:tO n.reqs no=i) (hR:bq n no=(n,0)) (hst:n.reqs[i].s=2) (h:NQ w B n (⟨a_k,ku,fP,gN,gX,bf,dJ,bJ,bg,bC⟩:bV) G c):Calls prog 108 #[gP n (⟨a_k,ku,fP,gN,gX,bf,dJ,bJ,bg,bC⟩:bV),.int .i64 no] w (jo w B c (bq n no)):=by
 rw [hR];open aCq in exact Yk8
theorem Ba (hB:B<=w.heap.size) (h9:∀x,6 < c x->c x=9) (i:Nat) (hi:i < n.reqs.length) (hz:eG n 1048576) (hP:∃g,ku=some ⟨g,0,none⟩) (xR:n.pu.length<=dJ) (hok:iC n=true) (hs:¬no<=n.old) (hJ:tO n.reqs no=i) (RL:List Pu) (hR:bq n no=(n,1)) (hst:n.reqs[i].s=0) (hu:dK n.pu n.reqs[i].k 0 1 (-1) n.reqs[i].n=(RL,false)) (h:NQ w B n (⟨a_k,ku,fP,gN,gX,bf,dJ,bJ,bg,bC⟩:bV) G c):Calls prog 108 #[gP n (⟨a_k,ku,fP,gN,gX,bf,dJ,bJ,bg,bC⟩:bV),.int .i64 no] w (jo w B c (bq n no)):=by
 rw [hR];obtain⟨gp,hgp⟩:=hP;subst hgp;have hiI:(i:Int) < (n.reqs.length:Int):=Aaa
 have HST:=Hq hst;open aCD in exact aye
theorem CR (hB:B<=w.heap.size) (h9:∀x,6 < c x->c x=9) (i:Nat) (hi:i < n.reqs.length) (hz:eG n 1048576) (hP:∃g,ku=some ⟨g,0,none⟩) (xR:n.pu.length<=dJ) (hok:iC n=true) (hs:¬no<=n.old) (hJ:tO n.reqs no=i) (RL:List Pu) (hR:bq n no=(eY (setPu n RL) (n.reqs.set i (pY n.reqs[i])),0)) (hst:n.reqs[i].s=0) (hu:dK n.pu n.reqs[i].k 0 1 (-1) n.reqs[i].n=(RL,true)) (h:NQ w B n (⟨a_k,ku,fP,gN,gX,bf,dJ,bJ,bg,bC⟩:bV) G c):Calls prog 108 #[gP n (⟨a_k,ku,fP,gN,gX,bf,dJ,bJ,bg,bC⟩:bV),.int .i64 no] w (jo w B c (bq n no)):=by
 rw [hR];obtain⟨gp,hgp⟩:=hP;subst hgp;have hiI:(i:Int) < (n.reqs.length:Int):=Aaa
 have HST:=Hq hst;open aCC in exact aye
theorem RH (n:Nd) (A:bV) (G:aR) (c:Nat->Nat) (no:Int) (w:World) (B:Nat) (hB:B<=w.heap.size) (h9:∀x,6 < c x->c x=9) (hz:eG n 1048576) (hP:∃g,A.p=some ⟨g,0,none⟩) (xR:n.pu.length<=A.cp) (hok:iC n=true) (h:NQ w B n A G c):Calls prog 108 #[gP n A,.int .i64 no] w (jo w B c (bq n no)):=by
 by_cases hs:no<=n.old
 .exact Jw n A G c no w B hB h9 hs h
 cases hf:oH n.reqs no with
 |false=>exact NJ n A G c no w B hB h9 hok hs hf h
 |true=>
  have hil:=((oI n.reqs no).1 hf).1;have hgd:n.reqs.getD (eu n.reqs no) default=n.reqs[eu n.reqs no]:=by rw [aGK,aGo hil];rfl
  have hJ:tO n.reqs no=(eu n.reqs no:Nat):=by unfold tO;rw [aGC hf]
  obtain⟨_,_,_,_,b1,b2⟩:=kS ((jk hok).2.2.1 _ (aGz hil));obtain⟨ak,ap,ao,az,ar,ck,cp,co,cs,cr⟩:=A;by_cases s1:n.reqs[eu n.reqs no].s=1
  .exact RA n ak ap ao az ar ck cp co cs cr G c no w B hB h9 _ hil hok hs hJ (by unfold bq;rw [aGr hs,aGr Abi,hgd,aGC s1]) s1 h
  by_cases s2:n.reqs[eu n.reqs no].s=2
  .exact Jv n ak ap ao az ar ck cp co cs cr G c no w B hB h9 _ hil hok hs hJ (by unfold bq;rw [aGr hs,aGr Abi,hgd,aGr s1,aGC s2]) s2 h
  obtain⟨R,hR⟩:∃R,dK n.pu n.reqs[eu n.reqs no].k 0 1 (-1) n.reqs[eu n.reqs no].n=R:=⟨_,rfl⟩;obtain⟨RL,b⟩:=R
  have hrel:bq n no=if b=true then(eY (setPu n RL) (n.reqs.set (eu n.reqs no) (pY n.reqs[eu n.reqs no])),0) else(n,1):=by
   unfold bq;rw [aGr hs,aGr Abi,hgd,aGr s1,aGr s2,hR]
  cases b with
  |false=>exact Ba n ak ap ao az ar ck cp co cs cr G c no w B hB h9 _ hil hz hP xR hok hs hJ RL (by rw [hrel];simp) Aaa hR h
  |true=>exact CR n ak ap ao az ar ck cp co cs cr G c no w B hB h9 _ hil hz hP xR hok hs hJ RL (by rw [hrel];simp) Aaa hR h
end Go.Proofs.YtohmklmkjmlpjaaGreatDoor
