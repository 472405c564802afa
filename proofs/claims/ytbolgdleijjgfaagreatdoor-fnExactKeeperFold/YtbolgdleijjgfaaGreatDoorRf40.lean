/- Parts. -/
import Derived.Test.YtbolgdleijjgfaaGreatDoorRf32
import Derived.Test.YtbolgdleijjgfaaGreatDoorRf33
namespace Go.Proofs.YtbolgdleijjgfaaGreatDoor
open Go.Proofs.Tryz
set_option maxHeartbeats 16000000
set_option maxRecDepth 100000
open Go.RowKit
open Mth
variable (n:Nd) (A:bq) (G:aN) (c:Nat->Nat) (mK mF mT mI mL:Int) (mk:ByteArray) (mN:Int) (w:World) (B:Nat) {g sz gi x:Nat} {e:TypeId} {ids:List Int} {a:Option Addr} {I:Nat->Nat} {l:List Sn} {v:Value} {xs:List Value}
def wL (gi:Nat) (ids:List Int) (c:Nat->Nat):Nat->Nat:=λx=>if x∈fp gi ids then 5 else c x
theorem aeT {c:Nat->Nat} (h:x∈fp gi ids):wL gi ids c x=5:=aFc h
theorem wM {c:Nat->Nat} (h:x∉fp gi ids):wL gi ids c x=c x:=aE2 h
theorem qb.store {w:World} (h:qb w a g I l) (k:Nat) (hk:k < l.length) (s:Sn) (b:Option Addr) (cc gi:Nat) (hi:WO w b cc gi s.ids) (hg4:∀x∈nI I l,x≠g) (hgi:∀x∈fp gi s.ids,x≠g):
 qb (GR.setW w g (k*3) [.int .i64 s.f,.int .i64 s.l,.slice b s.ids.length cc]) a g (vJ I k gi) (l.set k s):=by
 obtain⟨⟨T,hT,hl,hr⟩,hy⟩:=h;have Sm:k < T.length:=Aaa
 have hkp:=gI (g:=g) [.int .i64 s.f,.int .i64 s.l,.slice b s.ids.length cc] w (k*3)
 refine⟨⟨T.set k ⟨s.f,s.l,.slice b s.ids.length cc⟩,GR.W.set bE hT k ⟨s.f,s.l,.slice b s.ids.length cc⟩ Sm,by simpa using hl,λi hi'=>?_⟩,λ_=>by
  obtain⟨cs,hc⟩:=hy Aaa
  exact⟨_,GR.setW_blk [.int .i64 s.f,.int .i64 s.l,.slice b s.ids.length cc] (o:=k*3) (xs:=cs.toList) (by simpa using hc)⟩⟩
 have hil:i < l.length:=by simpa using hi'
 by_cases e:i=k
 .subst e;refine⟨b,cc,?_,?_⟩
  .rw [aFo,aGx Sm]
  .exact aiz
 .obtain⟨b',c',ht,hi2⟩:=hr i hil;refine⟨b',c',?_,?_⟩
  .rw [aFq Aaa,aGa Aaa];exact ht
  .exact aic
theorem NQ.seenPut {w:World} {B:Nat} {n:Nd} {A:bq} {G:aN} {c:Nat->Nat} (h:NQ w B n A G c) (k:Nat) (hk:k < n.seen.length) (s:Sn) (b:Option Addr) (cc gi:Nat) (hi:WO w b cc gi s.ids) (h9:∀x∈fp gi s.ids,c x=9):
 NQ (GR.setW w G.s (k*3) [.int .i64 s.f,.int .i64 s.l,.slice b s.ids.length cc]) B (dX n (n.seen.set k s)) A ⟨G.k,G.p,G.o,G.s,G.r,vJ G.i k gi⟩ (wL gi s.ids c):=by
 have c4:c G.s=4:=h.c4 G.s (dK Aaa);have hkc:KC c 4 w (GR.setW w G.s (k*3) [.int .i64 s.f,.int .i64 s.l,.slice b s.ids.length cc]):=KC.setW _ c4;have hlen:(n.seen.set k s).length=n.seen.length:=aF6 ..;have same:∀x,c x≠9->wL gi s.ids c x=c x:=λx hx=>wM (λhm=>hx (h9 x hm))
 have hSQ:qb (GR.setW w G.s (k*3) [.int .i64 s.f,.int .i64 s.l,.slice b s.ids.length cc]) A.s G.s (vJ G.i k gi) (n.seen.set k s):=by
  refine h.sq.store k hk s b cc gi hi (λx hx e=>?_) (λx hx e=>?_)
  .have:=h.ci x hx;rw [e,c4] at this;omega
  .have:=h9 x hx;rw [e,c4] at this;omega
 refine⟨⟨hkc.w h.k h.ck Aaa,hkc.w h.p h.cp Aaa,hkc.own h.o h.co Aaa,hSQ.w,hkc.own h.r h.cr Aaa,?_,?_,?_,?_,?_,?_,?_,?_⟩,hSQ⟩
 .intro x hx;have:=h.lo x hx;rw [same x Aaa];exact this
 .intro x hx;have:=h.ck x hx;rw [same x Aaa];exact this
 .intro x hx;have:=h.cp x hx;rw [same x Aaa];exact this
 .intro x hx;have:=h.co x hx;rw [same x Aaa];exact this
 .intro x hx;have hx':x∈fp G.s n.seen:=by rw [<-LZ hlen];exact hx
  have:=h.c4 x hx';rw [same x Aaa];exact this
 .intro x hx;obtain⟨i,hi',rfl,hpos⟩:=sV hx;by_cases e:i=k
  .subst e
   have hpos':0 < s.ids.length:=by
    simp only[dX] at hpos;rw [aFo] at hpos;exact hpos
   have e:vJ G.i i gi i=gi:=aFc rfl;show wL gi s.ids c (vJ G.i i gi i)=5
   rw [e];exact aeT (dK hpos')
  .have e':vJ G.i k gi i=G.i i:=aE2 e;show wL gi s.ids c (vJ G.i k gi i)=5
   rw [e']
   have hpos':0 < (n.seen[i]'(by simpa [dX] using hi')).ids.length:=by
    simp only[dX] at hpos;rw [aFq Aaa] at hpos;exact hpos
   have:=h.ci _ (jD (by simpa [dX] using hi') _ (dK hpos'));rw [same _ Aaa];exact this
 .intro x hx;have:=h.cr x hx;rw [same x Aaa];exact this
 .refine(qB _ _).2 (λi j hi' hj' hij h1 h2=>?_);have hni:=(qB _ _).1 h.ni;simp only[dX] at hi' hj' h1 h2;have hi2:i < n.seen.length:=by simpa using hi'
  have hj2:j < n.seen.length:=by simpa using hj'
  dsimp only[vJ];by_cases e1:i=k
  .by_cases e2:j=k
   .omega
   .rw [aFc e1,aE2 e2];subst e1;rw [aFo] at h1;rw [aFq Aaa] at h2;intro e;have a1:=h9 gi (dK h1);have a2:=h.ci _ (jD hj2 _ (dK h2));rw [<-e] at a2;omega
  .rw [aE2 e1];rw [aFq Aaa] at h1;by_cases e2:j=k
   .rw [aFc e2];subst e2;rw [aFo] at h2;intro e;have a1:=h9 gi (dK h2);have a2:=h.ci _ (jD hi2 _ (dK h1));rw [e] at a2;omega
   .rw [aE2 e2];rw [aFq Aaa] at h2;exact hni i j hi2 hj2 hij h1 h2
def qc (s:Sn) (low:Int) (k:Nat):List Int:=(s.ids.take k).filter (λx=>decide (gu s low<=x))
theorem Cq (s:Sn) (low:Int):qc s low s.ids.length=cu s low:=by unfold qc cu;rw [aFh]
theorem YA (s:Sn) (low:Int) (k:Nat) (hk:k < s.ids.length) (h:gu s low<=s.ids[k]):qc s low (k+1)=qc s low k++[s.ids[k]]:=by
 unfold qc;rw [aE0 hk,List.filter_append,List.filter_cons_of_pos Abm];rfl
theorem acd (s:Sn) (low:Int) (k:Nat) (hk:k < s.ids.length) (h:¬gu s low<=s.ids[k]):qc s low (k+1)=qc s low k:=by
 unfold qc;rw [aE0 hk,List.filter_append,List.filter_cons_of_neg Abm];simp
theorem Yz (s:Sn) (low:Int) (k:Nat):(qc s low k).length<=k:=by
 unfold qc;exact aEU (aGK _ _) Abk
theorem Ej {w:World} {q:Nat} {B:Nat} {n:Nat} {o:Obj} (h:w.ownsRow B e sz v n xs):((w.drewN q).alloc o).ownsRow B e sz v n xs:=World.ownsRow.alloc (w:=w.drewN q) h o
theorem agk {α:Type} {en:α->List Value} {B:Nat} {w:World} {cp:Nat} {l:List α} (hs:∀x,(en x).length=sz) (h:w.ownsRow B e sz (.slice (some ⟨g,0,none⟩) l.length cp) l.length (GR.flat en l)):GR.W en sz w (some ⟨g,0,none⟩) g l:=λi hi=>by
 obtain⟨a,c',g',hv,hW,_,ho⟩:=GR.W.of_own hs h;simp only[aFN] at hv;obtain⟨rfl,_,_⟩:=hv;have hg:=ho g' (dK Aaa);simp[Value.ownBlock] at hg;subst hg;exact hW i hi
theorem Tq {w W' W'':World} {c:Nat->Nat} {ab:Nat} {a0 a1 a2 a3 a4:Int} {a5:ByteArray} {a6:Int} (h:W'.heap[ab]?=some (.cells (bX a0 a1 a2 a3 a4 a5 a6) 70 (0,0))) (ho:Out c w W' W'') (hab:w.heap.size<=ab):GR.At jC 7 W'' (some ⟨ab,0,none⟩) [⟨a0,a1,a2,a3,a4,a5,a6⟩]:=λi hi=>by
 obtain⟨F,hk2,hF⟩:=ho;have hm2:=hk2.obj h (λhx=>by have:=(hF ab hx).1;omega);refine⟨ab,0,rfl,ay hm2,λj hj=>?_⟩;have hi0:i=0:=Abs
 subst hi0;have h1:=aE1 W'' ab (0+(0*7+j)) _ _ (0,0) hm2;rw [h1];simp[jC]
theorem ac7 {w w':World} {F:List Nat} {B:Nat} {n:Nat} (h:w.ownsRow B e sz v n xs) (hk:aA F w w') (hF:∀x,v.ownBlock=some x->x∉F):w'.ownsRow B e sz v n xs:=by
 refine⟨h.1,?_⟩;rcases h.2 with hn|⟨g,cap,cur,rfl,hb,hgg,rest⟩
 .exact .inl hn
 .exact .inr ⟨g,cap,cur,rfl,hb,hk.obj hgg (hF g rfl),rest⟩
theorem azS (l:List Int) (p:Int->Bool):(l.takeWhile p).length<=l.length:=(List.takeWhile_prefix p).length_le
theorem acu (l:List Int) (x:Int):lK l x=l.take (l.takeWhile (λy=>decide (y < x))).length++([x]++l.drop (l.takeWhile (λy=>decide (y < x))).length):=by
 have h:=aGz (p:=λy=>decide (y < x)) (l:=l);unfold lK;generalize l.takeWhile (λy=>decide (y < x))=a at *;generalize l.dropWhile (λy=>decide (y < x))=b at *;subst h;simp
theorem adJ {x:Int}:∀{l:List Int} {j:Nat},j<=l.length->(∀i (hi:i < l.length),i < j->l[i] < x)->(∀hj:j < l.length,¬l[j] < x)->(l.takeWhile (λy=>decide (y < x))).length=j:=by
 intro l;induction l with
 |nil=>intro j hj _ _;simp at hj;simp[hj]
 |cons a l ih=>
  intro j hj h1 h2;cases j with
  |zero=>
   have:=h2 Aac;rw [List.takeWhile_cons_of_neg (by simpa using this)];rfl
  |succ j=>
   have h0:=h1 0 Aac Aaa;rw [List.takeWhile_cons_of_pos (by simpa using h0),aGe,ih Abd (λi hi hij=>h1 (i+1) Aat Aaa) (λhj'=>h2 (by simpa using hj'))]
theorem Da {w:World} {v0 v1 v2:Value} {t:TypeId} (h:w.heap[g]?=some (.cells #[v0,v1,v2] t (0,0))):w.cell? ⟨g,0,none⟩=some v0/\w.cell? ⟨g,1,none⟩=some v1/\w.cell? ⟨g,2,none⟩=some v2:=
 ⟨by rw [aE1 w g _ _ t (0,0) h];rfl,by rw [aE1 w g _ _ t (0,0) h];rfl,by rw [aE1 w g _ _ t (0,0) h];rfl⟩
theorem ac5 {w:World} (h:eB w a g I l) (hl:0 < l.length):g < w.heap.size:=by
 obtain⟨b,c,_,hg,_⟩:=eB.three h 0 hl;exact hg
theorem NC (n:Nd) (a_k rU jm jc jy:Option Addr) (dH fQ eu dJ dR:Nat) (G:aN) (c:Nat->Nat) (mK mF mT mI mL:Int) (mk:ByteArray) (mN:Int) (w:World) (B:Nat) (hB:B<=w.heap.size) (h9:∀x,6 < c x->c x=9) (i:Nat) (hi:i < n.seen.length) (s0:Sn) (hs0:n.seen[i]=s0) (hfi:s0.f=mF) (hbef:∀x (hx:x < n.seen.length),x < i->n.seen[x].f≠mF) (hsl:n.seen.length<=1000) (hil:s0.ids.length<=1000) (hz:eG n 1048576) (hmk:mk.size<=1048576) (hP:∃g,rU=some ⟨g,0,none⟩) (yX:n.pu.length<=fQ) (RL:List Pu) (ok:Bool) (hu:dB n.pu mk 0 1 0 mN=(RL,ok)) (RES:Nd×List Mg×Int) (r1:tF s0 mL mI=true->RES=(dX n (n.seen.set i ⟨mF,gu s0 mL,cu s0 mL⟩),[⟨2,n.id,mF,mI,0,ByteArray.empty,0⟩],0)) (r2:tF s0 mL mI=false->(ok=false\/40<=(cu s0 mL).length)->RES=(dX n (n.seen.set i ⟨mF,gu s0 mL,cu s0 mL⟩),[],1)) (r3:tF s0 mL mI=false->ok=true->(cu s0 mL).length < 40->RES=(dX (setPu n RL) (n.seen.set i ⟨mF,gu s0 mL,lK (cu s0 mL) mI⟩),[⟨2,n.id,mF,mI,0,ByteArray.empty,0⟩],0)) (h:NQ w B n (⟨a_k,rU,jm,jc,jy,dH,fQ,eu,dJ,dR⟩:bq) G c):Calls prog 158 #[gU n (⟨a_k,rU,jm,jc,jy,dH,fQ,eu,dJ,dR⟩:bq),.agg (bX mK mF mT mI mL mk mN)] w (gM w B c RES):=by
 obtain⟨gp,hgp⟩:=hP;subst hgp;have Sg:=Hq (λW (ha:aG W (some ⟨gp,0,none⟩) n.pu)=>adt gp 0 fQ n.pu mk mN W (aEU hz.p Aaa) yX hz.pk hmk ha);unfold jd at Sg;rw [hu] at Sg;clear hu hz yX;unfold gM;have H9:=Hq h9;clear h9;have nA:=Hq (h.nine hB);have HGS:=Hq (h.s);have hc4:c G.s=4:=h.c4 G.s (dK Aaa);clear h;go_in
 go_upto_region 1 with fail;refine wp_at (λW0 hW=>?_);obtain⟨e1,e2,e3,e4⟩:=gG w (.cells (dD n (⟨a_k,(some ⟨gp,0,none⟩),jm,jc,jy,dH,fQ,eu,dJ,dR⟩:bq)) 39) (.cells (bX mK mF mT mI mL mk mN) 70) (.cells lC 39);rw [<-hW] at e1 e2 e3 e4;have aee:=Hq e1;have ad7:=Hq e2;have ami:=Hq e3;have HB0:=Hq e4;have aeb:=Hq (nA.kc (k:=9) (KC.of_below e4) Aaa);clear hW e1 e2 e3 e4;obtain⟨bi,ci,eA,hgs0,⟨t0,t1,t2⟩,_,hWi⟩:=eB.three aeb.s i hi;rw [hs0] at t0 t1 t2 hWi;rw [hfi] at t0;have aDV:G.s < w.heap.size:=ac5 HGS Aaa;have HWI:=Hq hWi;have HT:=Hq (And.intro t0 (And.intro t1 t2));clear hWi t0 t1 t2;dsimp only at eA;subst eA;obtain⟨c0,c1,c2,c3,c4,c5,c6,c7,c8⟩:=nine aee;obtain⟨m0,m1,m2,m3,m4,m5,m6⟩:=jS ad7;have hnl:=ay aee;have hml:=ay ad7;go_upto_block 0 with fail;go_cut [7] from 15 (λj wx=>j= .int .i64 (i:Nat)/\Ge W0 wx)
 case first=>
  go_wp2_with fail;go_loopw [7] (λj wr=>∃x q:Nat,x<=i/\j= .int .i64 x/\wr=W0.drewN q) (λj _=>i - (intOf j).toNat)
  case atStart=>exact⟨0,0,aE7 _,rfl,rfl⟩
  case round=>
   obtain⟨x,q,hx,rfl,rfl⟩:=hrel;have hxl:x < n.seen.length:=Aaa
   obtain⟨b',c',e',hg',⟨u0,_,_⟩,_,_⟩:=eB.three aeb.s x hxl;by_cases hxi:x=i
   .subst hxi;rw [hs0,hfi] at u0;have hnn:(mF != mF)=false:=Aac
    go_wp2_with fail;go_quiet (fail);go_wp2_with fail;go_meet
    case rel=>exact⟨rfl,⟨rfl,rfl,rfl,aER _,λ_ _=>rfl⟩⟩
   .have hne:=hbef x hxl Aaa;generalize n.seen[x].f=fx at *;have hnn:(fx != mF)=true:=by simpa using hne
    go_wp2_with fail;go_quiet (fail);go_wp2_with fail;go_roundw
    case rel=>exact⟨x+1,_,Aaa,Aaf,rfl⟩
    case measure=>simp[intOf];omega
 case rest=>
  obtain⟨rfl,hge⟩:=hcut;have nD:=Hq (aj aee hge);have Sz:=Hq (aj ad7 hge);have BU:=Hq (aj ami hge);have HB1:=Hq (HB0.trans (hge.mono HB0.size));have Xy:=Hq (aeb.kc (k:=9) (KC.of_below hge) Aaa);have ajK:=Hq (HWI.below hge);have hz1:w.heap.size+3<=wc.heap.size:=by have:=ay BU;omega
  obtain⟨t0,t1,t2⟩:=ah HT;have u0:=(hge.cell (p:=⟨G.s,i*3,none⟩) hgs0).trans t0;have u1:=(hge.cell (p:=⟨G.s,i*3+1,none⟩) hgs0).trans t1;have u2:=(hge.cell (p:=⟨G.s,i*3+2,none⟩) hgs0).trans t2;clear t0 t1 t2 hge c0 c1 c2 c3 c4 c5 c6 c7 c8 m0 m1 m2 m3 m4 m5 m6 hnl hml aee ad7 ami HB0 aeb HWI HT;obtain⟨c0,c1,c2,c3,c4,c5,c6,c7,c8⟩:=nine nD;have hnl:=ay nD;have aD1:(i:Int) < (n.seen.length:Int):=Aaa
  go_upto_region 5 with fail;refine wp_at (λW2 hW2=>?_);have hb2:=au wc (.cells #[.int .i64 mF,.int .i64 s0.l,.slice bi s0.ids.length ci] 130);have hs2:=aEP wc (.cells #[.int .i64 mF,.int .i64 s0.l,.slice bi s0.ids.length ci] 130);rw [<-hW2] at hb2 hs2;obtain⟨sb,hsb⟩:∃sb,wc.heap.size=sb:=⟨_,rfl⟩;rw [hsb] at hs2 hz1;have XG:=Hq hs2;open auj in exact agS
theorem adx (n:Nd) (A:bq) (G:aN) (c:Nat->Nat) (mK mF mT mI mL:Int) (mk:ByteArray) (mN:Int) (w:World) (B:Nat) (hB:B<=w.heap.size) (h9:∀x,6 < c x->c x=9)
 (hz:eG n 1048576) (hmk:mk.size<=1048576) (hP:∃g,A.p=some ⟨g,0,none⟩) (yX:n.pu.length<=A.cp) (hok:dV n=true) (hF:dY n mF=true) (h:NQ w B n A G c):
 Calls prog 158 #[gU n A,.agg (bX mK mF mT mI mL mk mN)] w
  (gM w B c ((takeN n ⟨mK,mF,mT,mI,mL,mk,mN⟩).1,if (takeN n ⟨mK,mF,mT,mI,mL,mk,mN⟩).2=true then[Ya n ⟨mK,mF,mT,mI,mL,mk,mN⟩] else[],if (takeN n ⟨mK,mF,mT,mI,mL,mk,mN⟩).2=true then 0 else 1)):=by
 obtain⟨hi,hif⟩:=GH hok hF;have hsn:=Bv hok _ (aE8 hi)
 have hsl:n.seen.length<=1000:=by
  exact ax9
 have hil:n.seen[iU n.seen mF].ids.length<=1000:=by
  unfold wD at hsn;simp only[aEX,aFf] at hsn;omega
 have hbef:∀x (hx:x < n.seen.length),x < iU n.seen mF->n.seen[x].f≠mF:=λx hx hlt=>by
  have:=List.not_of_lt_findIdx (p:=λs:Sn=>decide (s.f=mF)) (xs:=n.seen) hlt
  simpa using this
 obtain⟨ak,ap,ao,as',ar,ck,cp,co,cs,cr⟩:=A;cases hu:dB n.pu mk 0 1 0 mN with
 |mk RL ok=>
  refine NC n ak ap ao as' ar ck cp co cs cr G c mK mF mT mI mL mk mN w B hB h9 _ hi _ rfl hif hbef hsl hil hz hmk hP yX RL ok hu _ (λhh=>?_) (λhh hg=>?_) (λhh ho hg=>?_) h
  .rw [K9 (m:=⟨mK,mF,mT,mI,mL,mk,mN⟩) hi rfl rfl hh];rfl
  .have hgb:mH n n.seen[iU n.seen mF] ⟨mK,mF,mT,mI,mL,mk,mN⟩=false:=by
    unfold mH;dsimp only;rw [hu];rcases hg with rfl|hg
    .rfl
    .rw [aES (λh=>Aaa)];simp
   rw [Rx (m:=⟨mK,mF,mT,mI,mL,mk,mN⟩) hi rfl rfl hh hgb];rfl
  .subst ho
   have hgb:mH n n.seen[iU n.seen mF] ⟨mK,mF,mT,mI,mL,mk,mN⟩=true:=by
    unfold mH;dsimp only;rw [hu,aET hg];rfl
   rw [Hw (m:=⟨mK,mF,mT,mI,mL,mk,mN⟩) hi rfl rfl hh hgb];dsimp only;rw [hu];rfl
theorem Ns (hB:B<=w.heap.size) (h9:∀x,6 < c x->c x=9) (hkl:n.kids.length<=1048600) (hmk:mk.size<=1048576) (hmo:bY ⟨mK,mF,mT,mI,mL,mk,mN⟩=true) (hz:eG n 1048576) (hP:∃g,A.p=some ⟨g,0,none⟩) (yX:n.pu.length<=A.cp) (hok:dV n=true) (h1:mT=n.id) (h2:dY n mF=true) (h3:mK=1) (h:NQ w B n A G c):Calls prog 131 #[gU n A,.agg (bX mK mF mT mI mL mk mN)] w (gM w B c ((takeN n ⟨mK,mF,mT,mI,mL,mk,mN⟩).1,if (takeN n ⟨mK,mF,mT,mI,mL,mk,mN⟩).2=true then[Ya n ⟨mK,mF,mT,mI,mL,mk,mN⟩] else[],if (takeN n ⟨mK,mF,mT,mI,mL,mk,mN⟩).2=true then 0 else 1)):=by
 open awj in exact OV
def Dl (n:Nd) (m:Mg):Nd×List Mg×Int:=if m.T=n.id/\dY n m.F=true then fU n m else(n,[],3)
theorem acD {n:Nd} (hok:dV n=true):hasB n.kids n.par=false:=by
 have h1:=(bJ hok).1;unfold eD at h1;simp only[aEX] at h1;have h2:=Ai h1.2;cases hh:hasB n.kids n.par
 .rfl
 .rw [Au] at hh;have:=h2 _ hh;unfold kU at this;simp at this
theorem adu (hB:B<=w.heap.size) (h9:∀x,6 < c x->c x=9) (hz:eG n 1048576) (hmk:mk.size<=1048576) (hok:dV n=true) (hmo:bY ⟨mK,mF,mT,mI,mL,mk,mN⟩=true) (hP:∃g,A.p=some ⟨g,0,none⟩) (yX:n.pu.length<=A.cp) (h:NQ w B n A G c):
 Calls prog 131 #[gU n A,.agg (bX mK mF mT mI mL mk mN)] w (gM w B c (Dl n ⟨mK,mF,mT,mI,mL,mk,mN⟩)):=by
 have hkl:n.kids.length<=1048600:=aEU hz.k Aaa;have h0:0<=n.next:=by have h:=(bJ hok).2.2.2.1;unfold fJ at h;simp at h;omega
 by_cases h1:mT=n.id
 .cases h2:dY n mF
  .rw [show Dl n ⟨mK,mF,mT,mI,mL,mk,mN⟩=(n,[],3) from aE2 (λh=>by have:=h.2;dsimp only at this;rw [h2] at this;exact absurd this Aac)];exact Jq n A G c mK mF mT mI mL mk mN w B hB h9 hkl hmk hmo h1 h2 h
  .rw [show Dl n ⟨mK,mF,mT,mI,mL,mk,mN⟩=fU n ⟨mK,mF,mT,mI,mL,mk,mN⟩ from aFc ⟨h1,h2⟩];by_cases k1:mK=1
   .rw [show fU n ⟨mK,mF,mT,mI,mL,mk,mN⟩=_ from aFc k1];exact Ns n A G c mK mF mT mI mL mk mN w B hB h9 hkl hmk hmo hz hP yX hok h1 h2 k1 h
   by_cases k2:mK=2
   .rw [show fU n ⟨mK,mF,mT,mI,mL,mk,mN⟩=_ from(aE2 k1).trans (aFc k2)];have:=Jt n A G c mK mF mT mI mL mk mN w B hB h9 hkl hmk hmo hz.o h1 h2 k2 h;rw [k2] at this ⊢;exact this
   have k0:mK=0:=by
    unfold bY at hmo;rw [aEX] at hmo;have q:=hmo.2;dsimp only at q;by_cases k0:mK=0
    .exact k0
    .rw [aE2 k0,aE2 k1,aE2 k2] at q;exact absurd q Aac
   by_cases h4:mF=n.par
   .rw [show fU n ⟨mK,mF,mT,mI,mL,mk,mN⟩=(n,[],1) from(aE2 k1).trans ((aE2 k2).trans (aE2 (by dsimp only;rw [h4,acD hok];simp)))];exact Ro n A G c mK mF mT mI mL mk mN w B hB h9 hkl hmk hmo h1 h2 k0 h4 h
   .have hk:hasB n.kids mF=true:=by
     unfold dY at h2;rw [aES h4,Bool.and_false,Bool.false_or] at h2;exact h2
    rw [show fU n ⟨mK,mF,mT,mI,mL,mk,mN⟩=_ from(aE2 k1).trans ((aE2 k2).trans (aFc hk))];exact Js n A G c mK mF mT mI mL mk mN w B hB h9 hkl hmk hmo hz hP yX h0 h1 h2 k0 h4 h
 .rw [show Dl n ⟨mK,mF,mT,mI,mL,mk,mN⟩=(n,[],3) from aE2 (λh=>h1 h.1)];exact Jr n A G c mK mF mT mI mL mk mN w B hB h9 hkl hmk hmo h1 h
end Go.Proofs.YtbolgdleijjgfaaGreatDoor
