/- Parts. -/
import Derived.Test.YtohmklmkjmlpjaaGreatDoorRc30
namespace Go.Proofs.YtohmklmkjmlpjaaGreatDoor
open Go.Proofs.Tryz
set_option maxHeartbeats 16000000
set_option maxRecDepth 100000
open Go.RowKit
open Mth
variable (n:Nd) (A:bV) (G:aR) (c:Nat->Nat) (dst:Int) (key:ByteArray) (most:Int) (w:World) (B:Nat)
def gJ (w:World) (B:Nat) (c:Nat->Nat) (R:Nd×List Mg×Int) (e:Ending) (w':World):Prop:=∃A' a cp,e= .returned (.tuple #[gP R.1 A',.slice a R.2.1.length cp,.int .i64 R.2.2])/\(∀W'',Out c w w' W''->RM W'' A' R.1)/\(∀W'',Out c w w' W''->GR.At mE 7 W'' a R.2.1)/\Below B w w'/\Apart c w w'
theorem Ru (hB:B<=w.heap.size) (h9:∀x,6 < c x->c x=9) (pk:ByteArray) (pm pf ps:Int) (hpp:aD n.pu key=⟨pk,pm,pf,ps⟩) (hl:n.pu.length<=1048600) (iw:Int) (hc:(if pf < most then pf else most)=iw) (h1:iw < 1) (h:NQ w B n A G c):Calls prog 111 #[gP n A,.int .i64 dst,.string key,.int .i64 most] w (gJ w B c (n,[],1)):=by
 have q1:decide (iw < 1)=true:=Aax
 exact Zk6
theorem Rv (hB:B<=w.heap.size) (h9:∀x,6 < c x->c x=9) (pk:ByteArray) (pm pf ps:Int) (hpp:aD n.pu key=⟨pk,pm,pf,ps⟩) (hl:n.pu.length<=1048600) (iw:Int) (hc:(if pf < most then pf else most)=iw) (h1:¬iw < 1) (h2:40<=n.out.length) (h:NQ w B n A G c):Calls prog 111 #[gP n A,.int .i64 dst,.string key,.int .i64 most] w (gJ w B c (n,[],1)):=by
 have q1:decide (iw < 1)=false:=Aax
 have h2I:(40:Int)<=(n.out.length:Int):=Aaa
 have q2:decide ((40:Int)<=(n.out.length:Int))=true:=by simpa using h2I
 exact Zk6
theorem Rw (hB:B<=w.heap.size) (h9:∀x,6 < c x->c x=9) (pk:ByteArray) (pm pf ps:Int) (hpp:aD n.pu key=⟨pk,pm,pf,ps⟩) (hl:n.pu.length<=1048600) (iw:Int) (hc:(if pf < most then pf else most)=iw) (h1:¬iw < 1) (h2:¬40<=n.out.length) (h3:1000000000<=n.next) (h:NQ w B n A G c):Calls prog 111 #[gP n A,.int .i64 dst,.string key,.int .i64 most] w (gJ w B c (n,[],1)):=by
 have q1:decide (iw < 1)=false:=Aax
 have h2I:¬(40:Int)<=(n.out.length:Int):=Aaa
 have q2:decide ((40:Int)<=(n.out.length:Int))=false:=by simpa using h2I
 have q3:decide ((1000000000:Int)<=n.next)=true:=Acj
 exact Zk6
theorem Vn (n:Nd) (a_k ku fP gN gX:Option Addr) (bf dJ bJ bg bC:Nat) (G:aR) (c:Nat->Nat) (dst:Int) (key:ByteArray) (most:Int) (w:World) (B:Nat) (hB:B<=w.heap.size) (h9:∀x,6 < c x->c x=9) (pk:ByteArray) (pm pf ps:Int) (hpp:aD n.pu key=⟨pk,pm,pf,ps⟩) (hl:n.pu.length<=1048600) (hz:eG n 1048576) (hkey:key.size<=1048576) (hP:∃g,ku=some ⟨g,0,none⟩) (xR:n.pu.length<=dJ) (iw:Int) (RL:List Pu) (bu:Bool) (hu:dK n.pu key 0 (-1) 0 iw=(RL,bu)) (hc:(if pf < most then pf else most)=iw) (h1:¬iw < 1) (h2:¬40<=n.out.length) (h3:¬1000000000<=n.next) (h0:0<=n.next) (h:NQ w B n (⟨a_k,ku,fP,gN,gX,bf,dJ,bJ,bg,bC⟩:bV) G c):Calls prog 111 #[gP n (⟨a_k,ku,fP,gN,gX,bf,dJ,bJ,bg,bC⟩:bV),.int .i64 dst,.string key,.int .i64 most] w (gJ w B c (⟨n.id,n.par,n.kids,n.next+1,RL,n.out++[⟨n.next,dst,key,iw⟩],n.seen,n.old,n.reqs⟩,[qO ⟨n.id,n.par,n.kids,n.next+1,RL,n.out++[⟨n.next,dst,key,iw⟩],n.seen,n.old,n.reqs⟩ ⟨n.next,dst,key,iw⟩],0)):=by
 have q1:decide (iw < 1)=false:=Aax
 have h2I:¬(40:Int)<=(n.out.length:Int):=Aaa
 have q2:decide ((40:Int)<=(n.out.length:Int))=false:=by simpa using h2I
 have q3:decide ((1000000000:Int)<=n.next)=false:=Acj
 obtain⟨gp,hgp⟩:=hP;subst hgp;obtain⟨i0,hi,hz0,hz1,hz2⟩:=aGV MV;have HPT:=Hq (λW (ha:aH W (some ⟨gp,0,none⟩) n.pu)=>adR gp 0 dJ n.pu key iw W (aGm hz.p Aaa) xR hz.pk hkey ha);unfold jm at HPT;rw [hu] at HPT;obtain⟨PM,H7⟩:∃PM,qO ⟨n.id,n.par,n.kids,n.next+1,RL,n.out++[⟨n.next,dst,key,iw⟩],n.seen,n.old,n.reqs⟩ ⟨n.next,dst,key,iw⟩=PM:=⟨_,rfl⟩;have HPM:=Hq H7;rw [H7];clear hz xR hu H7;unfold gJ;have H9:=Hq h9;clear h9;have JQ:=Hq (λW (ha:aH W (some ⟨gp,0,none⟩) n.pu)=>wS (some ⟨gp,0,none⟩) dJ n.pu key W hl ha);rw [hpp] at JQ;unfold xW at JQ;clear hpp;have hbw0:=ay w (.cells (dG n (⟨a_k,(some ⟨gp,0,none⟩),fP,gN,gX,bf,dJ,bJ,bg,bC⟩:bV)) 40);have mZ:=Hq (h.nine hB);clear h;go_in
 go_upto_region 1 with fail;refine wp_at (λW0 hW=>?_);obtain⟨e1,e2,e3⟩:=gQ w (.cells (dG n (⟨a_k,(some ⟨gp,0,none⟩),fP,gN,gX,bf,dJ,bJ,bg,bC⟩:bV)) 40) (.cells iP 40);open aqV in exact ayH
theorem Rt (hB:B<=w.heap.size) (h9:∀x,6 < c x->c x=9) (hz:eG n 1048576) (hkey:key.size<=1048576) (hP:∃g,A.p=some ⟨g,0,none⟩) (xR:n.pu.length<=A.cp) (h0:0<=n.next) (h:NQ w B n A G c):Calls prog 111 #[gP n A,.int .i64 dst,.string key,.int .i64 most] w (gJ w B c ((fC n dst key most).1,(fC n dst key most).2.1,if (fC n dst key most).2.2=true then 0 else 1)):=by
 obtain⟨pp,hpp⟩:∃pp,aD n.pu key=pp:=⟨_,rfl⟩;obtain⟨pk,pm,pf,ps⟩:=pp;have hl:n.pu.length<=1048600:=aGm hz.p Aaa
 have key2:∀iw,qD n key most=iw->(¬(1<=iw/\n.out.length < 40/\n.next < 1000000000)->((fC n dst key most).1,(fC n dst key most).2.1,if (fC n dst key most).2.2=true then(0:Int) else 1)=(n,[],1))/\((1<=iw/\n.out.length < 40/\n.next < 1000000000)->((fC n dst key most).1,(fC n dst key most).2.1,if (fC n dst key most).2.2=true then(0:Int) else 1)=(tJ n dst key iw,[qO (tJ n dst key iw) ⟨n.next,dst,key,iw⟩],0)):=λiw e=>by
  subst e
  constructor
  .intro hn;have e:QS n (qD n key most)=false:=by unfold QS;exact aGi hn
   unfold fC;rw [e];rfl
  .intro hy;have e:QS n (qD n key most)=true:=by unfold QS;exact aGk hy
   unfold fC;rw [e];rfl
 obtain⟨ak,ap,ao,az,ar,ck,cp,co,cs,cr⟩:=A;obtain⟨iw,hc⟩:∃iw,(if pf < most then pf else most)=iw:=⟨_,rfl⟩;obtain⟨k1,k2⟩:=key2 iw (by unfold qD;rw [hpp];exact hc);obtain⟨R,hR⟩:∃R,dK n.pu key 0 (-1) 0 iw=R:=⟨_,rfl⟩;by_cases h1:iw < 1
 .rw [k1 Aaa];exact Ru n _ G c dst key most w B hB h9 pk pm pf ps hpp hl iw hc h1 h
 by_cases h2:40<=n.out.length
 .rw [k1 Aaa];exact Rv n _ G c dst key most w B hB h9 pk pm pf ps hpp hl iw hc h1 h2 h
 by_cases h3:1000000000<=n.next
 .rw [k1 Aaa];exact Rw n _ G c dst key most w B hB h9 pk pm pf ps hpp hl iw hc h1 h2 h3 h
 rw [k2 Aaa];unfold tJ;rw [hR];exact Vn n ak ap ao az ar ck cp co cs cr G c dst key most w B hB h9 pk pm pf ps hpp hl hz hkey hP xR iw R.1 R.2 hR hc h1 h2 h3 h0 h
end Go.Proofs.YtohmklmkjmlpjaaGreatDoor
