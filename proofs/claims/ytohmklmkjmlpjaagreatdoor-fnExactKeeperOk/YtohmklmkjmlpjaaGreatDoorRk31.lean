/- Parts. -/
import Derived.Test.YtohmklmkjmlpjaaGreatDoorRk30
namespace Go.Proofs.YtohmklmkjmlpjaaGreatDoor
open Go.Proofs.Tryz
set_option maxHeartbeats 16000000
set_option maxRecDepth 100000
open Go.RowKit
open Mth
variable (n:Nd) (A:bQ) (G:aX) (c:Nat->Nat) (dst:Int) (key:ByteArray) (most:Int) (w:World) (B:Nat)
def gD (w:World) (B:Nat) (c:Nat->Nat) (R:Nd×List Mg×Int) (e:Ending) (w':World):Prop:=∃A' a cp,e= .returned (.tuple #[gB R.1 A',.slice a R.2.1.length cp,.int .i64 R.2.2])/\(∀W'',Out c w w' W''->RM W'' A' R.1)/\(∀W'',Out c w w' W''->GR.At lK 7 W'' a R.2.1)/\Below B w w'/\Apart c w w'
theorem QD (hB:B<=w.heap.size) (h9:∀x,6 < c x->c x=9) (pk:ByteArray) (pm pf ps:Int) (hpp:aD n.pu key=⟨pk,pm,pf,ps⟩) (hl:n.pu.length<=1048600) (gT:Int) (hc:(if pf < most then pf else most)=gT) (h1:gT < 1) (h:NQ w B n A G c):Calls prog 111 #[gB n A,.int .i64 dst,.string key,.int .i64 most] w (gD w B c (n,[],1)):=by
 have q1:decide (gT < 1)=true:=Aaw
 exact Zk6
theorem QE (hB:B<=w.heap.size) (h9:∀x,6 < c x->c x=9) (pk:ByteArray) (pm pf ps:Int) (hpp:aD n.pu key=⟨pk,pm,pf,ps⟩) (hl:n.pu.length<=1048600) (gT:Int) (hc:(if pf < most then pf else most)=gT) (h1:¬gT < 1) (h2:40<=n.out.length) (h:NQ w B n A G c):Calls prog 111 #[gB n A,.int .i64 dst,.string key,.int .i64 most] w (gD w B c (n,[],1)):=by
 have q1:decide (gT < 1)=false:=Aaw
 have h2I:(40:Int)<=(n.out.length:Int):=Aaa
 have q2:decide ((40:Int)<=(n.out.length:Int))=true:=by simpa using h2I
 exact Zk6
theorem QF (hB:B<=w.heap.size) (h9:∀x,6 < c x->c x=9) (pk:ByteArray) (pm pf ps:Int) (hpp:aD n.pu key=⟨pk,pm,pf,ps⟩) (hl:n.pu.length<=1048600) (gT:Int) (hc:(if pf < most then pf else most)=gT) (h1:¬gT < 1) (h2:¬40<=n.out.length) (h3:1000000000<=n.next) (h:NQ w B n A G c):Calls prog 111 #[gB n A,.int .i64 dst,.string key,.int .i64 most] w (gD w B c (n,[],1)):=by
 have q1:decide (gT < 1)=false:=Aaw
 have h2I:¬(40:Int)<=(n.out.length:Int):=Aaa
 have q2:decide ((40:Int)<=(n.out.length:Int))=false:=by simpa using h2I
 have q3:decide ((1000000000:Int)<=n.next)=true:=by simpa using h3
 exact Zk6
theorem Uf (n:Nd) (a_k jH fH gG gM:Option Addr) (aY dH bE aZ bg:Nat) (G:aX) (c:Nat->Nat) (dst:Int) (key:ByteArray) (most:Int) (w:World) (B:Nat) (hB:B<=w.heap.size) (h9:∀x,6 < c x->c x=9) (pk:ByteArray) (pm pf ps:Int) (hpp:aD n.pu key=⟨pk,pm,pf,ps⟩) (hl:n.pu.length<=1048600) (hz:eU n 1048576) (hkey:key.size<=1048576) (hP:∃g,jH=some ⟨g,0,none⟩) (wP:n.pu.length<=dH) (gT:Int) (RL:List Pu) (bu:Bool) (hu:dJ n.pu key 0 (-1) 0 gT=(RL,bu)) (hc:(if pf < most then pf else most)=gT) (h1:¬gT < 1) (h2:¬40<=n.out.length) (h3:¬1000000000<=n.next) (h0:0<=n.next) (h:NQ w B n (⟨a_k,jH,fH,gG,gM,aY,dH,bE,aZ,bg⟩:bQ) G c):Calls prog 111 #[gB n (⟨a_k,jH,fH,gG,gM,aY,dH,bE,aZ,bg⟩:bQ),.int .i64 dst,.string key,.int .i64 most] w (gD w B c (⟨n.id,n.par,n.kids,n.next+1,RL,n.out++[⟨n.next,dst,key,gT⟩],n.seen,n.old,n.reqs⟩,[pX ⟨n.id,n.par,n.kids,n.next+1,RL,n.out++[⟨n.next,dst,key,gT⟩],n.seen,n.old,n.reqs⟩ ⟨n.next,dst,key,gT⟩],0)):=by
 have q1:decide (gT < 1)=false:=Aaw
 have h2I:¬(40:Int)<=(n.out.length:Int):=Aaa
 have q2:decide ((40:Int)<=(n.out.length:Int))=false:=by simpa using h2I
 have q3:decide ((1000000000:Int)<=n.next)=false:=by simpa using h3
 obtain⟨gp,hgp⟩:=hP;subst hgp;obtain⟨i0,hi,hz0,hz1,hz2⟩:=info_parts Lp;have HPT:=Hq (λW (ha:aG W (some ⟨gp,0,none⟩) n.pu)=>acO gp 0 dH n.pu key gT W (Nat.le_trans hz.p Aaa) wP hz.pk hkey ha);unfold iY at HPT;rw [hu] at HPT;obtain⟨PM,Gi⟩:∃PM,pX ⟨n.id,n.par,n.kids,n.next+1,RL,n.out++[⟨n.next,dst,key,gT⟩],n.seen,n.old,n.reqs⟩ ⟨n.next,dst,key,gT⟩=PM:=⟨_,rfl⟩;have HPM:=Hq Gi;rw [Gi];clear hz wP hu Gi;unfold gD;have H9:=Hq h9;clear h9;have Jd:=Hq (λW (ha:aG W (some ⟨gp,0,none⟩) n.pu)=>vM (some ⟨gp,0,none⟩) dH n.pu key W hl ha);rw [hpp] at Jd;unfold wS at Jd;clear hpp;have hbw0:=ay w (.cells (dG n (⟨a_k,(some ⟨gp,0,none⟩),fH,gG,gM,aY,dH,bE,aZ,bg⟩:bQ)) 40);have l7:=Hq (h.nine hB);clear h;go_in
 go_upto_region 1 with fail;refine wp_at (λW0 hW=>?_);obtain⟨e1,e2,e3⟩:=ig w (.cells (dG n (⟨a_k,(some ⟨gp,0,none⟩),fH,gG,gM,aY,dH,bE,aZ,bg⟩:bQ)) 40) (.cells iF 40);open apw in exact aww
theorem QC (hB:B<=w.heap.size) (h9:∀x,6 < c x->c x=9) (hz:eU n 1048576) (hkey:key.size<=1048576) (hP:∃g,A.p=some ⟨g,0,none⟩) (wP:n.pu.length<=A.cp) (h0:0<=n.next) (h:NQ w B n A G c):Calls prog 111 #[gB n A,.int .i64 dst,.string key,.int .i64 most] w (gD w B c ((eZ n dst key most).1,(eZ n dst key most).2.1,if (eZ n dst key most).2.2=true then 0 else 1)):=by
 obtain⟨pp,hpp⟩:∃pp,aD n.pu key=pp:=⟨_,rfl⟩;obtain⟨pk,pm,pf,ps⟩:=pp;have hl:n.pu.length<=1048600:=Nat.le_trans hz.p Aaa
 have key2:∀gT,pO n key most=gT->(¬(1<=gT/\n.out.length < 40/\n.next < 1000000000)->((eZ n dst key most).1,(eZ n dst key most).2.1,if (eZ n dst key most).2.2=true then(0:Int) else 1)=(n,[],1))/\((1<=gT/\n.out.length < 40/\n.next < 1000000000)->((eZ n dst key most).1,(eZ n dst key most).2.1,if (eZ n dst key most).2.2=true then(0:Int) else 1)=(rP n dst key gT,[pX (rP n dst key gT) ⟨n.next,dst,key,gT⟩],0)):=λgT e=>by
  subst e
  constructor
  .intro hn;have e:Qb n (pO n key most)=false:=by unfold Qb;exact decide_eq_false hn
   unfold eZ;rw [e];rfl
  .intro hy;have e:Qb n (pO n key most)=true:=by unfold Qb;exact decide_eq_true hy
   unfold eZ;rw [e];rfl
 obtain⟨ak,ap,ao,az,ar,ck,cp,co,cs,cr⟩:=A;obtain⟨gT,hc⟩:∃gT,(if pf < most then pf else most)=gT:=⟨_,rfl⟩;obtain⟨k1,k2⟩:=key2 gT (by unfold pO;rw [hpp];exact hc);obtain⟨R,hR⟩:∃R,dJ n.pu key 0 (-1) 0 gT=R:=⟨_,rfl⟩;by_cases h1:gT < 1
 .rw [k1 Aaa];exact QD n _ G c dst key most w B hB h9 pk pm pf ps hpp hl gT hc h1 h
 by_cases h2:40<=n.out.length
 .rw [k1 Aaa];exact QE n _ G c dst key most w B hB h9 pk pm pf ps hpp hl gT hc h1 h2 h
 by_cases h3:1000000000<=n.next
 .rw [k1 Aaa];exact QF n _ G c dst key most w B hB h9 pk pm pf ps hpp hl gT hc h1 h2 h3 h
 rw [k2 Aaa];unfold rP;rw [hR];exact Uf n ak ap ao az ar ck cp co cs cr G c dst key most w B hB h9 pk pm pf ps hpp hl hz hkey hP wP gT R.1 R.2 hR hc h1 h2 h3 h0 h
end Go.Proofs.YtohmklmkjmlpjaaGreatDoor
