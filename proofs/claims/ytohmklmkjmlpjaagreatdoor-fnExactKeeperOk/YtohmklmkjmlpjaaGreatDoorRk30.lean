/- Parts. -/
import Derived.Test.YtohmklmkjmlpjaaGreatDoorRk29
import Derived.Test.YtohmklmkjmlpjaaGreatDoorRk18
namespace Go.Proofs.YtohmklmkjmlpjaaGreatDoor
open Go.Proofs.Tryz
set_option maxHeartbeats 8000000
set_option maxRecDepth 100000
open Go.RowKit
open Mth
variable (n:Nd) (a_k jH fH gG gM:Option Addr) (aY dH bE aZ bg:Nat) (G:aX) (c:Nat->Nat) (no:Int) (w:World) (B:Nat) {W':World}
def rV (l:List Rq) (no:Int):Int:=if nN l no=true then(dX l no:Int) else -1
theorem Ac (n:Nd) (A:bQ) (no:Int) (w:World) (hl:n.reqs.length<=1000) (hp:n.reqs.Pairwise (λs t=>s.no < t.no)) (ha:fU w A.r n.reqs):
 Calls prog 146 #[gB n A,.int .i64 no] w (eG w (.int .i64 (rV n.reqs no))):=by
 have HA:=Hq ha;have HP:=Hq hp;have HB0:=Hq (ay w (.cells (dG n A) 40));have M7:=Hq (heap_alloc_new w (.cells (dG n A) 40));obtain⟨R,hR⟩:∃R,rV n.reqs no=R:=⟨_,rfl⟩;have HR:=Hq hR;rw [hR];clear ha hp hR;go_in
 go_wp2_with fail;go_loopw [5] (λi wr=>∃k:Nat,k<=n.reqs.length/\i= .int .i64 k/\(∀j (hj:j < n.reqs.length),j < k->n.reqs[j].no≠no)/\Below (w.alloc (.cells (dG n A) 40)).heap.size (w.alloc (.cells (dG n A) 40)) wr) (λi _=>n.reqs.length - (intOf i).toNat)
 case atStart=>exact⟨0,Nat.zero_le _,rfl,λj _ h=>Aaa,Below.refl _ _⟩
 case round=>
  obtain⟨k,hk,rfl,hno,hbw⟩:=hrel;have l7:=Hq hno;have Rb:=Hq (au M7 hbw);have YX:=Hq (HB0.trans (hbw.mono HB0.size));have iR:=Hq hbw;obtain⟨c0,c1,c2,c3,c4,c5,c6,c7,c8⟩:=nine Rb;have hnl:=aA Rb;clear hno hbw;by_cases hlt:k < n.reqs.length
  .have OU:(k:Int) < (n.reqs.length:Int):=Aaa
   obtain⟨g,off,e0,hg,q0,q1,q2,q3⟩:=fU.four (GR.At.below HA YX) k hlt;rw [e0] at c8;clear e0;by_cases he:n.reqs[k].no=no
   .have HF:=Hq (Qj HP hlt he)
    have hRk:R=k:=by
     rw [<-ah HR];unfold rV;rw [if_pos (ah HF).2,(ah HF).1]
    subst hRk;rw [he] at q0;have hq:(no == no)=true:=Aac
    go_wp2_with fail;go_ret;exact⟨rfl,YX⟩
   .have hq:(n.reqs[k].no == no)=false:=by simpa using he
    have HE:=Hq he;clear he;generalize hx:n.reqs[k].no=x0 at *;have HX:=Hq hx;clear hx;go_wp2_with fail;go_roundw
    case rel=>exact⟨k+1,Aaa,Aah,λj hj hjk=>by
     by_cases e:j=k
     .subst e;rw [ah HX];exact HE
     .exact l7 j hj Aaa,iR⟩
    case measure=>simp[intOf];omega
  .have hke:k=n.reqs.length:=Aaa
   subst hke;have hnlt:decide ((n.reqs.length:Int) < (n.reqs.length:Int))=false:=Aac
   have hRk:R= -1:=by
    rw [<-ah HR];unfold rV;rw [if_neg (by rw [XL (λq hq=>by obtain⟨j,hj,rfl⟩:=List.mem_iff_getElem.1 hq;exact ah l7 j hj hj)];simp)]
   subst hRk;go_wp2_with fail;go_ret;exact⟨rfl,YX⟩
theorem GR.own_ati {α:Type} {enc:α->List Value} {sz:Nat} {w:World} {B:Nat} {t:TypeId} {a:Option Addr} {c:Nat} {l:List α} (hs:∀x,(enc x).length=sz) (h:w.ownsRow B t sz (.slice a l.length c) l.length (GR.flat enc l)):GR.At enc sz w a l:=by
 obtain⟨a',c',e,h'⟩:=GR.own_at hs h;simp only[Value.slice.injEq] at e;rw [e.1];exact h'
def Apart (c:Nat->Nat) (w w':World):Prop:=∀x,x < w.heap.size->6 < c x->w'.heap[x]?=w.heap[x]?
theorem Apart.of_below {c:Nat->Nat} {w w':World} (h:aI w w'):Apart c w w':=λx hx _=>h.block x hx
theorem Apart.keeps {c:Nat->Nat} {w X:World} {F:List Nat} (h:Apart c w X) (hs:w.heap.size<=X.heap.size) (hk:aC F X W') (hF:∀x∈F,w.heap.size<=x\/c x<=6):Apart c w W':=λx hx hc=>(hk.block x Aaa (λhm=>by have:=hF x hm;omega)).trans (h x hx hc)
theorem Apart.step {c:Nat->Nat} {w X:World} (h:Apart c w X) (hs:w.heap.size<=X.heap.size) (hb:aI X W'):Apart c w W':=λx hx hc=>(hb.block x Aaa).trans (h x hx hc)
theorem Apart.grown {c:Nat->Nat} {w X:World} {row:Option Nat} (h:Apart c w X) (hs:w.heap.size<=X.heap.size) (hg:X.grownBy W' row) (hr:∀x,row=some x->x < w.heap.size->c x<=6):Apart c w W':=λx hx hc=>(hg.block x Aaa (λhm=>by have:=hr x hm.symm hx;omega)).trans (h x hx hc)
def Out (c:Nat->Nat) (w W' W'':World):Prop:=∃F,aC F W' W''/\∀x∈F,x < w.heap.size/\6 < c x
theorem Out.refl {c:Nat->Nat} {w:World}:Out c w W' W':=⟨[],aC.refl _ _,λx hx=>Abr⟩
theorem KC.out {c:Nat->Nat} {w W'':World} (h9:∀x,6 < c x->c x=9) (h:Out c w W' W''):KC (newC w.heap.size 9 c) 9 W' W'':=by
 obtain⟨F,hk,hF⟩:=h;exact KC.keeps hk (λx hx=>by rw [fq (hF x hx).1];exact h9 x (hF x hx).2)
def iZ (w:World) (B:Nat) (c:Nat->Nat) (R:Nd×Int) (e:Ending) (w':World):Prop:=∃A',e= .returned (.tuple #[gB R.1 A',.int .i64 R.2])/\(∀W'',Out c w w' W''->RM W'' A' R.1)/\Below B w w'/\Apart c w w'
theorem NQ.nine {w:World} {B:Nat} {n:Nd} {A:bQ} {G:aX} {c:Nat->Nat} (h:NQ w B n A G c) (hB:B<=w.heap.size):NQ w B n A G (newC w.heap.size 9 c):=h.recol hB (λ_ hx=>fq hx)
theorem IC (n:Nd) (A:bQ) (G:aX) (c:Nat->Nat) (no:Int) (w:World) (B:Nat) (hB:B<=w.heap.size) (h9:∀x,6 < c x->c x=9) (hs:no<=n.old) (h:NQ w B n A G c):Calls prog 108 #[gB n A,.int .i64 no] w (iZ w B c (bf n no)):=by
 have hR:bf n no=(n,2):=if_pos hs;rw [hR];clear hR;unfold iZ;have H9:=Hq h9;clear h9;have hbw0:=ay w (.cells (dG n A) 40);open arV in exact UR
theorem Mx (n:Nd) (A:bQ) (G:aX) (c:Nat->Nat) (no:Int) (w:World) (B:Nat) (hB:B<=w.heap.size) (h9:∀x,6 < c x->c x=9) (hok:gX n=true) (hs:¬no<=n.old) (hf:nN n.reqs no=false) (h:NQ w B n A G c):Calls prog 108 #[gB n A,.int .i64 no] w (iZ w B c (bf n no)):=by
 have hR:bf n no=(n,1):=by unfold bf;rw [if_neg hs,if_pos hf]
 have hJ:rV n.reqs no= -1:=by unfold rV;rw [if_neg Abh]
 rw [hR];clear hR hf;have hp:=iX hok;have Nz:=Hq (λW1 (ha:fU W1 A.r n.reqs)=>Ac n A no W1 Aaa hp.1 ha);rw [hJ] at Nz;clear hp hok;unfold iZ;have H9:=Hq h9;clear h9;have hbw0:=ay w (.cells (dG n A) 40);open arU in exact UR
theorem QJ (hB:B<=w.heap.size) (h9:∀x,6 < c x->c x=9) (i:Nat) (hi:i < n.reqs.length) (hok:gX n=true) (hs:¬no<=n.old) (hJ:rV n.reqs no=i) (hR:bf n no=(n,1)) (hst:n.reqs[i].s=1) (h:NQ w B n (⟨a_k,jH,fH,gG,gM,aY,dH,bE,aZ,bg⟩:bQ) G c):Calls prog 108 #[gB n (⟨a_k,jH,fH,gG,gM,aY,dH,bE,aZ,bg⟩:bQ),.int .i64 no] w (iZ w B c (bf n no)):=by
 rw [hR];open aAl in exact Yk8
theorem IB (hB:B<=w.heap.size) (h9:∀x,6 < c x->c x=9) (i:Nat) (hi:i < n.reqs.length) (hok:gX n=true) (hs:¬no<=n.old) (hJ:rV n.reqs no=i) (hR:bf n no=(n,0)) (hst:n.reqs[i].s=2) (h:NQ w B n (⟨a_k,jH,fH,gG,gM,aY,dH,bE,aZ,bg⟩:bQ) G c):Calls prog 108 #[gB n (⟨a_k,jH,fH,gG,gM,aY,dH,bE,aZ,bg⟩:bQ),.int .i64 no] w (iZ w B c (bf n no)):=by
 rw [hR];open aAk in exact Yk8
theorem Ab (hB:B<=w.heap.size) (h9:∀x,6 < c x->c x=9) (i:Nat) (hi:i < n.reqs.length) (hz:eU n 1048576) (hP:∃g,jH=some ⟨g,0,none⟩) (wP:n.pu.length<=dH) (hok:gX n=true) (hs:¬no<=n.old) (hJ:rV n.reqs no=i) (RL:List Pu) (hR:bf n no=(n,1)) (hst:n.reqs[i].s=0) (hu:dJ n.pu n.reqs[i].k 0 1 (-1) n.reqs[i].n=(RL,false)) (h:NQ w B n (⟨a_k,jH,fH,gG,gM,aY,dH,bE,aZ,bg⟩:bQ) G c):Calls prog 108 #[gB n (⟨a_k,jH,fH,gG,gM,aY,dH,bE,aZ,bg⟩:bQ),.int .i64 no] w (iZ w B c (bf n no)):=by
 rw [hR];obtain⟨gp,hgp⟩:=hP;subst hgp;have hiI:(i:Int) < (n.reqs.length:Int):=Aaa
 have HST:=Hq hst;open aAx in exact av3
theorem BM (hB:B<=w.heap.size) (h9:∀x,6 < c x->c x=9) (i:Nat) (hi:i < n.reqs.length) (hz:eU n 1048576) (hP:∃g,jH=some ⟨g,0,none⟩) (wP:n.pu.length<=dH) (hok:gX n=true) (hs:¬no<=n.old) (hJ:rV n.reqs no=i) (RL:List Pu) (hR:bf n no=(eO (setPu n RL) (n.reqs.set i (oF n.reqs[i])),0)) (hst:n.reqs[i].s=0) (hu:dJ n.pu n.reqs[i].k 0 1 (-1) n.reqs[i].n=(RL,true)) (h:NQ w B n (⟨a_k,jH,fH,gG,gM,aY,dH,bE,aZ,bg⟩:bQ) G c):Calls prog 108 #[gB n (⟨a_k,jH,fH,gG,gM,aY,dH,bE,aZ,bg⟩:bQ),.int .i64 no] w (iZ w B c (bf n no)):=by
 rw [hR];obtain⟨gp,hgp⟩:=hP;subst hgp;have hiI:(i:Int) < (n.reqs.length:Int):=Aaa
 have HST:=Hq hst;open aAw in exact av3
theorem QK (n:Nd) (A:bQ) (G:aX) (c:Nat->Nat) (no:Int) (w:World) (B:Nat) (hB:B<=w.heap.size) (h9:∀x,6 < c x->c x=9) (hz:eU n 1048576) (hP:∃g,A.p=some ⟨g,0,none⟩) (wP:n.pu.length<=A.cp) (hok:gX n=true) (h:NQ w B n A G c):Calls prog 108 #[gB n A,.int .i64 no] w (iZ w B c (bf n no)):=by
 by_cases hs:no<=n.old
 .exact IC n A G c no w B hB h9 hs h
 cases hf:nN n.reqs no with
 |false=>exact Mx n A G c no w B hB h9 hok hs hf h
 |true=>
  have hil:=((nO n.reqs no).1 hf).1;have hgd:n.reqs.getD (dX n.reqs no) default=n.reqs[dX n.reqs no]:=by rw [List.getD_eq_getElem?_getD,List.getElem?_eq_getElem hil];rfl
  have hJ:rV n.reqs no=(dX n.reqs no:Nat):=by unfold rV;rw [if_pos hf]
  obtain⟨_,_,_,_,b1,b2⟩:=jT ((iX hok).2.2.1 _ (List.getElem_mem hil));obtain⟨ak,ap,ao,az,ar,ck,cp,co,cs,cr⟩:=A;by_cases s1:n.reqs[dX n.reqs no].s=1
  .exact QJ n ak ap ao az ar ck cp co cs cr G c no w B hB h9 _ hil hok hs hJ (by unfold bf;rw [if_neg hs,if_neg Abh,hgd,if_pos s1]) s1 h
  by_cases s2:n.reqs[dX n.reqs no].s=2
  .exact IB n ak ap ao az ar ck cp co cs cr G c no w B hB h9 _ hil hok hs hJ (by unfold bf;rw [if_neg hs,if_neg Abh,hgd,if_neg s1,if_pos s2]) s2 h
  obtain⟨R,hR⟩:∃R,dJ n.pu n.reqs[dX n.reqs no].k 0 1 (-1) n.reqs[dX n.reqs no].n=R:=⟨_,rfl⟩;obtain⟨RL,b⟩:=R
  have hrel:bf n no=if b=true then(eO (setPu n RL) (n.reqs.set (dX n.reqs no) (oF n.reqs[dX n.reqs no])),0) else(n,1):=by
   unfold bf;rw [if_neg hs,if_neg Abh,hgd,if_neg s1,if_neg s2,hR]
  cases b with
  |false=>exact Ab n ak ap ao az ar ck cp co cs cr G c no w B hB h9 _ hil hz hP wP hok hs hJ RL (by rw [hrel];simp) Aaa hR h
  |true=>exact BM n ak ap ao az ar ck cp co cs cr G c no w B hB h9 _ hil hz hP wP hok hs hJ RL (by rw [hrel];simp) Aaa hR h
end Go.Proofs.YtohmklmkjmlpjaaGreatDoor
