/- Parts. -/
import Derived.Test.YtbolgdleijjgfaaGreatDoorRs19
namespace Go.Proofs.YtbolgdleijjgfaaGreatDoor
open Go.Proofs.Tryz
set_option maxHeartbeats 8000000
set_option maxRecDepth 100000
open Go.RowKit
open Mth
theorem rIn (x a b:Int) (r:Bool) (wc:World) (hb:decide (a<=x/\x<=b)=r):∀d os,Calls prog 47 #[.int .i64 x,.int .i64 a,.int .i64 b] (Sort.grow (redrawn wc d) os) λe w''=>e= .returned (.bool r)/\∃p:Regrown,w''=Sort.grow (redrawn wc p.d) p.os:=λ_ _=>
 aFk ((yT x a b r _ hb).mono λ_ _ ⟨he,hw⟩=>⟨he,hw▸aEY _ _⟩)
theorem afN (s:ByteArray) (b:Bool) (wc:World) (hs:s.size<=maxLen) (hb:keyOk s.data.toList=b):∀d os,Calls prog 93 #[.string s] (Sort.grow (redrawn wc d) os) λe w''=>e= .returned (.bool b)/\∃p:Regrown,w''=Sort.grow (redrawn wc p.d) p.os:=λ_ _=>
 aFk ((oz s b _ hs hb).mono λ_ _ ⟨he,hw⟩=>⟨he,hw▸aEY _ _⟩)
theorem iD {w:World} {g:Nat} {v0 v1 v2 v3:Value} {t:TypeId} (h:w.heap[g]?=some (.cells #[v0,v1,v2,v3] t (0,0))):
 w.cell? ⟨g,0,none⟩=some v0/\w.cell? ⟨g,1,none⟩=some v1/\w.cell? ⟨g,2,none⟩=some v2/\w.cell? ⟨g,3,none⟩=some v3:=by
 have hc:∀i,w.cell? ⟨g,i,none⟩=#[v0,v1,v2,v3][i]?:=λi=>aEW w g i _ t (0,0) h
 exact⟨hc 0,hc 1,hc 2,hc 3⟩
theorem acH (x:Int) (b:Bool) (w:World) (h:rA x=b):Calls prog 91 #[.int .i64 x] w λe w'=>e= .returned (.bool b)/\w=w':=by
 rw [<-h];exact xH x w
theorem Mth.ndOk_head (n:Nd):dR n=((eu n&&jm n.pu&&oC n&&fH n.next&&decide (n.out.length<=40)&&rA n.old&&decide (n.reqs.length<=30))&&(gV (wN n) (λs t=>iL s.i t.i) n.out&&gV (tK n) (λs t=>iL s.no t.no) n.reqs)):=by
 unfold dR sW gX;cases eu n<;>cases jm n.pu<;>cases oC n<;>cases fH n.next<;>cases decide (n.out.length<=40)<;>cases rA n.old<;>cases decide (n.reqs.length<=30)<;>simp
theorem qQ (n:Nd) (A:bq) (w:World) (hz:eF n 1048600) (ha:bY w A n):
 Calls prog 46 #[gM n A] w (dM w (.bool (dR n))):=by
 have HA:=Hq ha;have HZ:=Hq hz;have N9:=Hq (λw1 (hb:aH w w1)=>Zz n A w1 hz.k (ha.below hb).k);have HPU:=Hq (λw1 (hb:aH w w1)=>pY A.p A.cp n.pu w1 hz.p (λp hp=>aEP (hz.pk p hp) Aaj) (ha.below hb).p);have Oc:=Hq (λw1 (hb:aH w w1)=>adA n A w1 hz.k hz.s hz.sk (ha.below hb).k (ha.below hb).s);have R7:=Hq (λx b wc (hb:aH w wc) (h:dV n x=b)=>ajh n A x b wc hz.k (ha.below hb).k h);have HOT:=Hq (fun(s:jC)=>show wN n s=(decide (1<=s.i/\s.i<=n.next - 1)&&dV n s.t&&keyOk s.k.data.toList&&fH s.n) from rfl);have Ow:=Hq (fun(s:Rq)=>show tK n s=(decide (n.old+1<=s.no/\s.no<=1000000000)&&keyOk s.k.data.toList&&fH s.n&&decide (0<=s.s/\s.s<=2)) from rfl);have HD:=Hq (ndOk_head n);have jI:=Hq (aEK w (.cells (dH n A) 39));generalize eu n=PL at *;generalize jm n.pu=PS at *;generalize oC n=TD at *;generalize wN n=OT at *;generalize tK n=RQ at *;generalize dV n=NN at *;generalize dR n=TT at *;open an1 in exact vR
open Go.WideShapes
open Go.ChangeShapes
theorem iH:prog.cellsOf 3=1:=Aab
theorem lG:prog.cellsOf 9=1:=Aab
section
variable {H:Type} {enc:TypeId×Value->H} {W:World}
theorem nJ {α:Type} {en:α->List Value} {sz:Nat} {ok:α->Prop} {t e:TypeId} {fuel:Nat} {cs:List Value} {x:DataW H×List MemPlace} (ht:prog.underlying t=some (.slice e)) (hc:prog.cellsOf e=sz) (hsz:0 < sz) (hs:∀y,(en y).length=sz)
 (hel:∀fuel cs' x,cs'.length=sz->DataW.trod enc prog W 0 (λ_=>true) true fuel e cs'=some x->∃y,ok y/\cs'=en y)
 (h:DataW.trod enc prog W 0 (λ_=>true) true fuel t cs=some x):
 ∃(a:Option Addr) (cap:Nat) (l:List α),cs=[.slice a l.length cap]/\l.length<=maxLen/\(∀y∈l,ok y)/\GR.At en sz W a l:=by
 rcases Deep.open_slice ht h with⟨hcs,_⟩|⟨x,len,cap,m,n,D,Pl,hcs,_,hlc,hcm,hm,_,hcell⟩
 .exact⟨none,0,[],hcs,Aac,λp hp=>by simp at hp,λi hi=>Aat⟩
 .have hm':m=cap:=by rw [hm];simp
  have each:∀i,i < len->∃q:α,ok q/\∀j,j < sz->W.cell? (x.add (i*sz+j))=(en q)[j]?:=by
   intro i hi;obtain⟨cs',h1,h2⟩:=hcell i Aaa;rw [hc] at h1;obtain⟨_,hlen,hcc⟩:=World.cells?_some h1;obtain⟨y,hy,rfl⟩:=hel _ _ _ hlen h2;refine⟨y,hy,λj hj=>?_⟩;have e:=hcc j Aaa;rw [Deep.add_add] at e;exact e
  have hd:Nonempty α\/len=0:=by
   by_cases h0:len=0
   .exact .inr h0
   .obtain⟨q,_⟩:=each 0 Aaa;exact .inl ⟨q⟩
  rcases hd with d|d
  .obtain⟨q,hq⟩:∃q:Nat->α,∀i,i < len->ok (q i)/\∀j,j < sz->W.cell? (x.add (i*sz+j))=(en (q i))[j]?:=by
    exact⟨λi=>if hi:i < len then(each i hi).choose else Classical.choice d,λi hi=>by simp only[dif_pos hi];exact(each i hi).choose_spec⟩
   refine⟨some x,cap,(List.range len).map q,by rw [hcs];simp,Aah,λp hp=>?_,λi hi=>?_⟩
   .obtain⟨i,hi,rfl⟩:=aGk.1 hp;exact(hq i (aFP.1 hi)).1
   .have hi':i < len:=Aas
    obtain⟨b,off,spot⟩:=x;have h0:=(hq 0 Aaa).2 0 hsz;have hne:∃v,(en (q 0))[0]?=some v:=⟨_,aEQ (by rw [hs];exact hsz)⟩;obtain⟨v0,hv0⟩:=hne;rw [hv0] at h0;have hspot:spot=none:=by simpa [Addr.add] using World.cell?_spot h0
    subst hspot;have h1:=(hq i hi').2;have ea:∀k:Nat,(⟨b,off,none⟩:Addr).add k=⟨b,off+k,none⟩:=λk=>by unfold Addr.add;split<;>simp_all
    have h3:=h1 0 hsz;rw [ea,aEQ (by rw [hs];exact hsz)] at h3;refine⟨b,off,rfl,aFO _ _ h3,λj hj=>?_⟩;have h2:=h1 j hj;rw [ea] at h2;simpa using h2
  .subst d;exact⟨some x,cap,[],by rw [hcs];simp,Aac,λp hp=>by simp at hp,λi hi=>Aat⟩
theorem open_ints' {fuel:Nat} {cs:List Value} {x:DataW H×List MemPlace} (h:DataW.trod enc prog W 0 (λ_=>true) true fuel 22 cs=some x):
 ∃(a:Option Addr) (cap:Nat) (l:List Int),cs=[.slice a l.length cap]/\l.length<=maxLen/\bC W a l:=by
 obtain⟨a,cap,l,h1,h2,_,h4⟩:=nJ (en:=bf) (sz:=1) (ok:=λ_=>True) underlying22 iH Aaa aW (λfuel cs' x _ h=>by
  obtain⟨n,q,_⟩:=aFb underlying3 h
  exact⟨n,trivial,q⟩) h
 exact⟨a,cap,l,h1,h2,h4⟩
theorem MW {fuel:Nat} {cs:List Value} {x:DataW H×List MemPlace} (h:DataW.trod enc prog W 0 (λ_=>true) true fuel 23 cs=some x):
 ∃(a:Option Addr) (cap:Nat) (l:List Pu),cs=[.slice a l.length cap]/\l.length<=maxLen/\(∀y∈l,y.k.size<=maxLen)/\aG W a l:=
 nJ (en:=fu) (sz:=4) (ok:=λy=>y.k.size<=maxLen) underlying23 Aab Aaa aP (λfuel cs' x hlen h=>by
  obtain⟨xs,k,_,_,_,hxl,hfl⟩:=aF4 underlying133 h
  match xs,hxl,cs',hlen with
  |[y0,y1,y2,y3],_,[v0,v1,v2,v3],_=>
   have g0:=hfl 0 _ rfl
   have g1:=hfl 1 _ rfl
   have g2:=hfl 2 _ rfl
   have g3:=hfl 3 _ rfl
   simp[iH,lG] at g0 g1 g2 g3
   obtain⟨s0,q0,_,hs0⟩:=aGl underlying9 g0
   obtain⟨n1,q1,_⟩:=aFb underlying3 g1
   obtain⟨n2,q2,_⟩:=aFb underlying3 g2
   obtain⟨n3,q3,_⟩:=aFb underlying3 g3
   simp at q0 q1 q2 q3
   subst q0 q1 q2 q3
   exact⟨⟨s0,n1,n2,n3⟩,hs0,rfl⟩) h
theorem Uw {fuel:Nat} {cs:List Value} {x:DataW H×List MemPlace} (h:DataW.trod enc prog W 0 (λ_=>true) true fuel 24 cs=some x):
 ∃(a:Option Addr) (cap:Nat) (l:List jC),cs=[.slice a l.length cap]/\l.length<=maxLen/\(∀y∈l,y.k.size<=maxLen)/\SentAt W a l:=
 nJ (en:=aM) (sz:=4) (ok:=λy=>y.k.size<=maxLen) underlying24 Aab Aaa aR (λfuel cs' x hlen h=>by
  obtain⟨xs,k,_,_,_,hxl,hfl⟩:=aF4 underlying136 h
  match xs,hxl,cs',hlen with
  |[y0,y1,y2,y3],_,[v0,v1,v2,v3],_=>
   have g0:=hfl 0 _ rfl
   have g1:=hfl 1 _ rfl
   have g2:=hfl 2 _ rfl
   have g3:=hfl 3 _ rfl
   simp[iH,lG] at g0 g1 g2 g3
   obtain⟨n0,q0,_⟩:=aFb underlying3 g0
   obtain⟨n1,q1,_⟩:=aFb underlying3 g1
   obtain⟨s2,q2,_,hs2⟩:=aGl underlying9 g2
   obtain⟨n3,q3,_⟩:=aFb underlying3 g3
   simp at q0 q1 q2 q3
   subst q0 q1 q2 q3
   exact⟨⟨n0,n1,s2,n3⟩,hs2,rfl⟩) h
theorem Y7 {fuel:Nat} {cs:List Value} {x:DataW H×List MemPlace} (h:DataW.trod enc prog W 0 (λ_=>true) true fuel 26 cs=some x):
 ∃(a:Option Addr) (cap:Nat) (l:List Rq),cs=[.slice a l.length cap]/\l.length<=maxLen/\(∀y∈l,y.k.size<=maxLen)/\fT W a l:=
 nJ (en:=aL) (sz:=4) (ok:=λy=>y.k.size<=maxLen) underlying26 Aab Aaa aV (λfuel cs' x hlen h=>by
  obtain⟨xs,k,_,_,_,hxl,hfl⟩:=aF4 underlying141 h
  match xs,hxl,cs',hlen with
  |[y0,y1,y2,y3],_,[v0,v1,v2,v3],_=>
   have g0:=hfl 0 _ rfl
   have g1:=hfl 1 _ rfl
   have g2:=hfl 2 _ rfl
   have g3:=hfl 3 _ rfl
   simp[iH,lG] at g0 g1 g2 g3
   obtain⟨n0,q0,_⟩:=aFb underlying3 g0
   obtain⟨s1,q1,_,hs1⟩:=aGl underlying9 g1
   obtain⟨n2,q2,_⟩:=aFb underlying3 g2
   obtain⟨n3,q3,_⟩:=aFb underlying3 g3
   simp at q0 q1 q2 q3
   subst q0 q1 q2 q3
   exact⟨⟨n0,s1,n2,n3⟩,hs1,rfl⟩) h
theorem F7:prog.cellsOf 22=1:=Aab
theorem Y8 {fuel:Nat} {cs:List Value} {x:DataW H×List MemPlace} (h:DataW.trod enc prog W 0 (λ_=>true) true fuel 25 cs=some x):
 ∃(a:Option Addr) (cap:Nat) (l:List Sn),cs=[.slice a l.length cap]/\l.length<=maxLen/\(∀y∈l,y.ids.length<=maxLen)/\gZ W a l:=by
 obtain⟨a,cap,l,h1,h2,h3,h4⟩:=nJ (en:=eP) (sz:=3) (ok:=λy=>∃b c,∃ids:List Int,y.v= .slice b ids.length c/\ids.length<=maxLen/\bC W b ids) underlying25 Aab Aaa bg (λfuel cs' x hlen h=>by
  obtain⟨xs,k,_,_,_,hxl,hfl⟩:=aF4 underlying138 h
  match xs,hxl,cs',hlen with
  |[y0,y1,y2],_,[v0,v1,v2],_=>
   have g0:=hfl 0 _ rfl
   have g1:=hfl 1 _ rfl
   have g2:=hfl 2 _ rfl
   simp[iH,F7] at g0 g1 g2
   obtain⟨n0,q0,_⟩:=aFb underlying3 g0
   obtain⟨n1,q1,_⟩:=aFb underlying3 g1
   obtain⟨b,c,ids,q2,hi1,hi2⟩:=open_ints' g2
   simp at q0 q1 q2
   subst q0 q1 q2
   exact⟨⟨n0,n1,.slice b ids.length c⟩,⟨b,c,ids,rfl,hi1,hi2⟩,rfl⟩) h
 have hex:∀y:R3,∃s:Sn,y∈l->(s.f=y.f/\s.l=y.l/\∃b c,y.v= .slice b s.ids.length c/\s.ids.length<=maxLen/\bC W b s.ids):=λy=>by
  by_cases hy:y∈l
  .obtain⟨b,c,ids,e1,e2,e3⟩:=h3 y hy;exact⟨⟨y.f,y.l,ids⟩,λ_=>⟨rfl,rfl,b,c,e1,e2,e3⟩⟩
  .exact⟨default,λh=>absurd h hy⟩
 refine⟨a,cap,l.map (λy=>(hex y).choose),by rw [h1];simp,by simpa using h2,?_,?_⟩
 .intro s hs;obtain⟨y,hy,rfl⟩:=aGk.1 hs;obtain⟨_,_,b,c,_,e2,_⟩:=(hex y).choose_spec hy;exact e2
 .intro i hi;have hi':i < l.length:=Aas
  obtain⟨g,off,e,hg,hc⟩:=h4 i hi';have hsp:=(hex l[i]).choose_spec (aE2 hi');have hge:(l.map (λy=>(hex y).choose))[i]=(hex l[i]).choose:=Aac
  rw [hge];obtain⟨s1,s2,b,c,e1,e2,e3⟩:=hsp;refine⟨g,off,b,c,e,hg,?_,?_,?_,e3⟩
  .rw [s1];simpa using hc 0 Aaa
  .rw [s2];simpa [aFp] using hc 1 Aaa
  .rw [<-e1];simpa [aFp] using hc 2 Aaa
theorem afE:prog.cellsOf 28=9:=Aab
theorem azd:prog.cellsOf 23=1:=Aab
theorem aze:prog.cellsOf 24=1:=Aab
theorem azf:prog.cellsOf 25=1:=Aab
theorem azg:prog.cellsOf 26=1:=Aab
end
end Go.Proofs.YtbolgdleijjgfaaGreatDoor
