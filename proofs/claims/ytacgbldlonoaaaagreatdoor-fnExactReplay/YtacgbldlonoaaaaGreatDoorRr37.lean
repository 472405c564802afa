/- Parts. -/
import Derived.Test.YtacgbldlonoaaaaGreatDoorRr30
namespace Go.Proofs.YtacgbldlonoaaaaGreatDoor
set_option maxHeartbeats 16000000
set_option maxRecDepth 100000
open Go.RowKit
open Mth
def fq (w:World) (B:Nat) (c:Nat->Nat) (R:Nd×List Mg×Int) (e:Ending) (w':World):Prop:=∃A' a cp,e= .returned (.tuple #[fI R.1 A',.slice a R.2.1.length cp,.int .i64 R.2.2])/\(∀W'',Out c w w' W''->RM W'' A' R.1)/\(∀W'',Out c w w' W''->GR.At jF 7 W'' a R.2.1)/\Below B w w'/\Apart c w w'
theorem JX (n:Nd) (A:bH) (G:aV) (c:Nat->Nat) (dst:Int) (key:ByteArray) (most:Int) (w:World) (B:Nat) (hB:B<=w.heap.size) (h9:∀x,6 < c x->c x=9) (pk:ByteArray) (pm pf ps:Int) (hpp:aG n.pu key=⟨pk,pm,pf,ps⟩) (hl:n.pu.length<=1048600) (hc:¬pf < most) (h1:most < 1) (h:NQ w B n A G c):Calls Tryz.prog 42 #[fI n A,.int .i64 dst,.string key,.int .i64 most] w (fq w B c (n,[],1)):=by
 have q0:decide (pf < most)=false:=Abf
 have q1:decide (most < 1)=true:=Aaq
 exact Zr0
theorem JY (n:Nd) (A:bH) (G:aV) (c:Nat->Nat) (dst:Int) (key:ByteArray) (most:Int) (w:World) (B:Nat) (hB:B<=w.heap.size) (h9:∀x,6 < c x->c x=9) (pk:ByteArray) (pm pf ps:Int) (hpp:aG n.pu key=⟨pk,pm,pf,ps⟩) (hl:n.pu.length<=1048600) (hc:¬pf < most) (h1:¬most < 1) (h2:40<=n.out.length) (h:NQ w B n A G c):Calls Tryz.prog 42 #[fI n A,.int .i64 dst,.string key,.int .i64 most] w (fq w B c (n,[],1)):=by
 have q0:decide (pf < most)=false:=Abf
 have q1:decide (most < 1)=false:=Aaq
 exact ad5
theorem JZ (n:Nd) (A:bH) (G:aV) (c:Nat->Nat) (dst:Int) (key:ByteArray) (most:Int) (w:World) (B:Nat) (hB:B<=w.heap.size) (h9:∀x,6 < c x->c x=9) (pk:ByteArray) (pm pf ps:Int) (hpp:aG n.pu key=⟨pk,pm,pf,ps⟩) (hl:n.pu.length<=1048600) (hc:¬pf < most) (h1:¬most < 1) (h2:¬40<=n.out.length) (h3:1000000000<=n.next) (h:NQ w B n A G c):Calls Tryz.prog 42 #[fI n A,.int .i64 dst,.string key,.int .i64 most] w (fq w B c (n,[],1)):=by
 have q0:decide (pf < most)=false:=Abf
 have q1:decide (most < 1)=false:=Aaq
 exact as1
theorem J2 (n:Nd) (A:bH) (G:aV) (c:Nat->Nat) (dst:Int) (key:ByteArray) (most:Int) (w:World) (B:Nat) (hB:B<=w.heap.size) (h9:∀x,6 < c x->c x=9) (pk:ByteArray) (pm pf ps:Int) (hpp:aG n.pu key=⟨pk,pm,pf,ps⟩) (hl:n.pu.length<=1048600) (hc:pf < most) (h1:pf < 1) (h:NQ w B n A G c):Calls Tryz.prog 42 #[fI n A,.int .i64 dst,.string key,.int .i64 most] w (fq w B c (n,[],1)):=by
 have q0:decide (pf < most)=true:=Abf
 have q1:decide (pf < 1)=true:=Aaq
 exact Zr0
theorem J3 (n:Nd) (A:bH) (G:aV) (c:Nat->Nat) (dst:Int) (key:ByteArray) (most:Int) (w:World) (B:Nat) (hB:B<=w.heap.size) (h9:∀x,6 < c x->c x=9) (pk:ByteArray) (pm pf ps:Int) (hpp:aG n.pu key=⟨pk,pm,pf,ps⟩) (hl:n.pu.length<=1048600) (hc:pf < most) (h1:¬pf < 1) (h2:40<=n.out.length) (h:NQ w B n A G c):Calls Tryz.prog 42 #[fI n A,.int .i64 dst,.string key,.int .i64 most] w (fq w B c (n,[],1)):=by
 have q0:decide (pf < most)=true:=Abf
 have q1:decide (pf < 1)=false:=Aaq
 exact ad5
theorem J4 (n:Nd) (A:bH) (G:aV) (c:Nat->Nat) (dst:Int) (key:ByteArray) (most:Int) (w:World) (B:Nat) (hB:B<=w.heap.size) (h9:∀x,6 < c x->c x=9) (pk:ByteArray) (pm pf ps:Int) (hpp:aG n.pu key=⟨pk,pm,pf,ps⟩) (hl:n.pu.length<=1048600) (hc:pf < most) (h1:¬pf < 1) (h2:¬40<=n.out.length) (h3:1000000000<=n.next) (h:NQ w B n A G c):Calls Tryz.prog 42 #[fI n A,.int .i64 dst,.string key,.int .i64 most] w (fq w B c (n,[],1)):=by
 have q0:decide (pf < most)=true:=Abf
 have q1:decide (pf < 1)=false:=Aaq
 exact as1
theorem Om (n:Nd) (a_k iX dR dY fU:Option Addr) (aJ bq aO aK aP:Nat) (G:aV) (c:Nat->Nat) (dst:Int) (key:ByteArray) (most:Int) (w:World) (B:Nat) (hB:B<=w.heap.size) (h9:∀x,6 < c x->c x=9) (pk:ByteArray) (pm pf ps:Int) (hpp:aG n.pu key=⟨pk,pm,pf,ps⟩) (hl:n.pu.length<=1048600) (hz:fu n 1048576) (hkey:key.size<=1048576) (hP:∃g,iX=some ⟨g,0,none⟩) (tu:n.pu.length<=bq) (RL:List Pu) (bu:Bool) (hu:dx n.pu key 0 (-1) 0 most=(RL,bu)) (hc:¬pf < most) (h1:¬most < 1) (h2:¬40<=n.out.length) (h3:¬1000000000<=n.next) (h0:0<=n.next) (h:NQ w B n (⟨a_k,iX,dR,dY,fU,aJ,bq,aO,aK,aP⟩:bH) G c):Calls Tryz.prog 42 #[fI n (⟨a_k,iX,dR,dY,fU,aJ,bq,aO,aK,aP⟩:bH),.int .i64 dst,.string key,.int .i64 most] w (fq w B c (⟨n.id,n.par,n.kids,n.next+1,RL,n.out++[⟨n.next,dst,key,most⟩],n.seen,n.old,n.reqs⟩,[nI ⟨n.id,n.par,n.kids,n.next+1,RL,n.out++[⟨n.next,dst,key,most⟩],n.seen,n.old,n.reqs⟩ ⟨n.next,dst,key,most⟩],0)):=by
 have q0:decide (pf < most)=false:=Abf
 have q1:decide (most < 1)=false:=Aaq
 open aoh in exact acQ
theorem Oo (n:Nd) (a_k iX dR dY fU:Option Addr) (aJ bq aO aK aP:Nat) (G:aV) (c:Nat->Nat) (dst:Int) (key:ByteArray) (most:Int) (w:World) (B:Nat) (hB:B<=w.heap.size) (h9:∀x,6 < c x->c x=9) (pk:ByteArray) (pm pf ps:Int) (hpp:aG n.pu key=⟨pk,pm,pf,ps⟩) (hl:n.pu.length<=1048600) (hz:fu n 1048576) (hkey:key.size<=1048576) (hP:∃g,iX=some ⟨g,0,none⟩) (tu:n.pu.length<=bq) (RL:List Pu) (bu:Bool) (hu:dx n.pu key 0 (-1) 0 pf=(RL,bu)) (hc:pf < most) (h1:¬pf < 1) (h2:¬40<=n.out.length) (h3:¬1000000000<=n.next) (h0:0<=n.next) (h:NQ w B n (⟨a_k,iX,dR,dY,fU,aJ,bq,aO,aK,aP⟩:bH) G c):Calls Tryz.prog 42 #[fI n (⟨a_k,iX,dR,dY,fU,aJ,bq,aO,aK,aP⟩:bH),.int .i64 dst,.string key,.int .i64 most] w (fq w B c (⟨n.id,n.par,n.kids,n.next+1,RL,n.out++[⟨n.next,dst,key,pf⟩],n.seen,n.old,n.reqs⟩,[nI ⟨n.id,n.par,n.kids,n.next+1,RL,n.out++[⟨n.next,dst,key,pf⟩],n.seen,n.old,n.reqs⟩ ⟨n.next,dst,key,pf⟩],0)):=by
 have q0:decide (pf < most)=true:=Abf
 have q1:decide (pf < 1)=false:=Aaq
 open aog in exact acQ
theorem Ol (n:Nd) (A:bH) (G:aV) (c:Nat->Nat) (dst:Int) (key:ByteArray) (most:Int) (w:World) (B:Nat) (hB:B<=w.heap.size) (h9:∀x,6 < c x->c x=9) (hz:fu n 1048576) (hkey:key.size<=1048576) (hP:∃g,A.p=some ⟨g,0,none⟩) (tu:n.pu.length<=A.cp) (h0:0<=n.next) (h:NQ w B n A G c):Calls Tryz.prog 42 #[fI n A,.int .i64 dst,.string key,.int .i64 most] w (fq w B c ((eO n dst key most).1,(eO n dst key most).2.1,if (eO n dst key most).2.2=true then 0 else 1)):=by
 obtain⟨pp,hpp⟩:∃pp,aG n.pu key=pp:=⟨_,rfl⟩;obtain⟨pk,pm,pf,ps⟩:=pp;have hl:n.pu.length<=1048600:=Nat.le_trans hz.p Aaa
 have key2:∀rE,nQ n key most=rE->(¬(1<=rE/\n.out.length < 40/\n.next < 1000000000)->((eO n dst key most).1,(eO n dst key most).2.1,if (eO n dst key most).2.2=true then(0:Int) else 1)=(n,[],1))/\((1<=rE/\n.out.length < 40/\n.next < 1000000000)->((eO n dst key most).1,(eO n dst key most).2.1,if (eO n dst key most).2.2=true then(0:Int) else 1)=(qc n dst key rE,[nI (qc n dst key rE) ⟨n.next,dst,key,rE⟩],0)):=λrE e=>by
  subst e
  constructor
  .intro hn;have e:Nt n (nQ n key most)=false:=by unfold Nt;exact decide_eq_false hn
   unfold eO;rw [e];rfl
  .intro hy;have e:Nt n (nQ n key most)=true:=by unfold Nt;exact decide_eq_true hy
   unfold eO;rw [e];rfl
 obtain⟨ak,ap,ao,az,ar,ck,cp,co,cs,cr⟩:=A;by_cases hc:pf < most
 .obtain⟨k1,k2⟩:=key2 pf (by unfold nQ;rw [hpp];exact if_pos hc);obtain⟨R,hR⟩:∃R,dx n.pu key 0 (-1) 0 pf=R:=⟨_,rfl⟩;by_cases h1:pf < 1
  .rw [k1 Aaa];exact J2 n _ G c dst key most w B hB h9 pk pm pf ps hpp hl hc h1 h
  by_cases h2:40<=n.out.length
  .rw [k1 Aaa];exact J3 n _ G c dst key most w B hB h9 pk pm pf ps hpp hl hc h1 h2 h
  by_cases h3:1000000000<=n.next
  .rw [k1 Aaa];exact J4 n _ G c dst key most w B hB h9 pk pm pf ps hpp hl hc h1 h2 h3 h
  rw [k2 Aaa];unfold qc;rw [hR];exact Oo n ak ap ao az ar ck cp co cs cr G c dst key most w B hB h9 pk pm pf ps hpp hl hz hkey hP tu R.1 R.2 hR hc h1 h2 h3 h0 h
 .obtain⟨k1,k2⟩:=key2 most (by unfold nQ;rw [hpp];exact if_neg hc);obtain⟨R,hR⟩:∃R,dx n.pu key 0 (-1) 0 most=R:=⟨_,rfl⟩;by_cases h1:most < 1
  .rw [k1 Aaa];exact JX n _ G c dst key most w B hB h9 pk pm pf ps hpp hl hc h1 h
  by_cases h2:40<=n.out.length
  .rw [k1 Aaa];exact JY n _ G c dst key most w B hB h9 pk pm pf ps hpp hl hc h1 h2 h
  by_cases h3:1000000000<=n.next
  .rw [k1 Aaa];exact JZ n _ G c dst key most w B hB h9 pk pm pf ps hpp hl hc h1 h2 h3 h
  rw [k2 Aaa];unfold qc;rw [hR];exact Om n ak ap ao az ar ck cp co cs cr G c dst key most w B hB h9 pk pm pf ps hpp hl hz hkey hP tu R.1 R.2 hR hc h1 h2 h3 h0 h
end Go.Proofs.YtacgbldlonoaaaaGreatDoor
