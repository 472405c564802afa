/- Parts. -/
import Derived.Test.YtbolgdleijjgfaaGreatDoorRs36
import Derived.Test.YtbolgdleijjgfaaGreatDoorRs41
namespace Go.Proofs.YtbolgdleijjgfaaGreatDoor
open Go.Proofs.Tryz
set_option maxHeartbeats 16000000
set_option maxRecDepth 100000
open Go.RowKit
open Mth
variable {w:World} {c I:Nat->Nat} {g B sz gi x:Nat} {e:TypeId} {ids:List Int} {a:Option Addr} {l:List Sn} {n:Nd} {v:Value} {xs:List Value}
theorem Nn (n:Nd) (A:bq) (K no:Int) (k:ByteArray) (nn mK mF mT mI mL:Int) (mk:ByteArray) (mN:Int) (w:World) (hz:eF n 1048576) (hk:k.size<=1048576) (hmk:mk.size<=1048576) (hok:dR n=true) (hop:bH ⟨K,no,k,nn,⟨mK,mF,mT,mI,mL,mk,mN⟩⟩=true) (hK:K=1) (ha:bY w A n):Calls prog 99 #[gM n A,.agg (bJ K no k nn mK mF mT mI mL mk mN)] w (jR w ((fK n no k nn).1,[],(fK n no k nn).2)):=by
 subst hK;open aok in exact DU
theorem UK (n:Nd) (A:bq) (K no:Int) (k:ByteArray) (nn mK mF mT mI mL:Int) (mk:ByteArray) (mN:Int) (w:World) (hz:eF n 1048576) (hk:k.size<=1048576) (hmk:mk.size<=1048576) (hok:dR n=true) (hop:bH ⟨K,no,k,nn,⟨mK,mF,mT,mI,mL,mk,mN⟩⟩=true) (hK:K=2) (ha:bY w A n):Calls prog 99 #[gM n A,.agg (bJ K no k nn mK mF mT mI mL mk mN)] w (jR w ((aT n no).1,[],(aT n no).2)):=by
 subst hK;open aoj in exact DU
theorem Q8 (n:Nd) (A:bq) (K no:Int) (k:ByteArray) (nn mK mF mT mI mL:Int) (mk:ByteArray) (mN:Int) (w:World) (hz:eF n 1048576) (hk:k.size<=1048576) (hmk:mk.size<=1048576) (hok:dR n=true) (hop:bH ⟨K,no,k,nn,⟨mK,mF,mT,mI,mL,mk,mN⟩⟩=true) (hK:K=4) (hpar:n.par≠ -1) (ha:bY w A n):Calls prog 99 #[gM n A,.agg (bJ K no k nn mK mF mT mI mL mk mN)] w (jR w ((eY n n.par k nn).1,(eY n n.par k nn).2.1,if (eY n n.par k nn).2.2=true then 0 else 1)):=by
 subst hK;open aol in exact DU
def wE (gi:Nat) (ids:List Int) (c:Nat->Nat):Nat->Nat:=λx=>if x∈fp gi ids then 5 else c x
theorem ae6 (h:x∈fp gi ids):wE gi ids c x=5:=aE7 h
theorem wF (h:x∉fp gi ids):wE gi ids c x=c x:=aEX h
theorem pO.store (h:pO w a g I l) (k:Nat) (hk:k < l.length) (s:Sn) (b:Option Addr) (cc gi:Nat) (hi:WO w b cc gi s.ids) (hg4:∀x∈mX I l,x≠g) (hgi:∀x∈fp gi s.ids,x≠g):
 pO (GR.setW w g (k*3) [.int .i64 s.f,.int .i64 s.l,.slice b s.ids.length cc]) a g (vF I k gi) (l.set k s):=by
 obtain⟨⟨T,hT,hl,hr⟩,hy⟩:=h;have Sk:k < T.length:=Aaa
 have hkp:=gB (g:=g) [.int .i64 s.f,.int .i64 s.l,.slice b s.ids.length cc] w (k*3)
 refine⟨⟨T.set k ⟨s.f,s.l,.slice b s.ids.length cc⟩,GR.W.set bg hT k ⟨s.f,s.l,.slice b s.ids.length cc⟩ Sk,by simpa using hl,λi hi'=>?_⟩,λ_=>by
  obtain⟨cs,hc⟩:=hy Aaa
  exact⟨_,GR.setW_blk [.int .i64 s.f,.int .i64 s.l,.slice b s.ids.length cc] (o:=k*3) (xs:=cs.toList) (by simpa using hc)⟩⟩
 have hil:i < l.length:=by simpa using hi'
 by_cases e:i=k
 .subst e;refine⟨b,cc,?_,?_⟩
  .rw [aFi,aGr Sk]
  .exact aiC
 .obtain⟨b',c',ht,hi2⟩:=hr i hil;refine⟨b',c',?_,?_⟩
  .rw [aFj Aaa,aF5 Aaa];exact ht
  .exact aij
theorem NQ.seenPut {A:bq} {G:aK} (h:NQ w B n A G c) (k:Nat) (hk:k < n.seen.length) (s:Sn) (b:Option Addr) (cc gi:Nat) (hi:WO w b cc gi s.ids) (h9:∀x∈fp gi s.ids,c x=9):
 NQ (GR.setW w G.s (k*3) [.int .i64 s.f,.int .i64 s.l,.slice b s.ids.length cc]) B (dU n (n.seen.set k s)) A ⟨G.k,G.p,G.o,G.s,G.r,vF G.i k gi⟩ (wE gi s.ids c):=by
 have c4:c G.s=4:=h.c4 G.s (dB Aaa);have hkc:KC c 4 w (GR.setW w G.s (k*3) [.int .i64 s.f,.int .i64 s.l,.slice b s.ids.length cc]):=KC.setW _ c4;have hlen:(n.seen.set k s).length=n.seen.length:=aF1 ..;have same:∀x,c x≠9->wE gi s.ids c x=c x:=λx hx=>wF (λhm=>hx (h9 x hm))
 have hSQ:pO (GR.setW w G.s (k*3) [.int .i64 s.f,.int .i64 s.l,.slice b s.ids.length cc]) A.s G.s (vF G.i k gi) (n.seen.set k s):=by
  refine h.sq.store k hk s b cc gi hi (λx hx e=>?_) (λx hx e=>?_)
  .have:=h.ci x hx;rw [e,c4] at this;omega
  .have:=h9 x hx;rw [e,c4] at this;omega
 refine⟨⟨hkc.w h.k h.ck Aaa,hkc.w h.p h.cp Aaa,hkc.own h.o h.co Aaa,hSQ.w,hkc.own h.r h.cr Aaa,?_,?_,?_,?_,?_,?_,?_,?_⟩,hSQ⟩
 .intro x hx;have:=h.lo x hx;rw [same x Aaa];exact this
 .intro x hx;have:=h.ck x hx;rw [same x Aaa];exact this
 .intro x hx;have:=h.cp x hx;rw [same x Aaa];exact this
 .intro x hx;have:=h.co x hx;rw [same x Aaa];exact this
 .intro x hx;have hx':x∈fp G.s n.seen:=by rw [<-LQ hlen];exact hx
  have:=h.c4 x hx';rw [same x Aaa];exact this
 .intro x hx;obtain⟨i,hi',rfl,hpos⟩:=rY hx;by_cases e:i=k
  .subst e
   have hpos':0 < s.ids.length:=by
    simp only[dU] at hpos;rw [aFi] at hpos;exact hpos
   have e:vF G.i i gi i=gi:=aE7 rfl;show wE gi s.ids c (vF G.i i gi i)=5
   rw [e];exact ae6 (dB hpos')
  .have e':vF G.i k gi i=G.i i:=aEX e;show wE gi s.ids c (vF G.i k gi i)=5
   rw [e']
   have hpos':0 < (n.seen[i]'(by simpa [dU] using hi')).ids.length:=by
    simp only[dU] at hpos;rw [aFj Aaa] at hpos;exact hpos
   have:=h.ci _ (jw (by simpa [dU] using hi') _ (dB hpos'));rw [same _ Aaa];exact this
 .intro x hx;have:=h.cr x hx;rw [same x Aaa];exact this
 .refine(qh _ _).2 (λi j hi' hj' hij h1 h2=>?_);have hni:=(qh _ _).1 h.ni;simp only[dU] at hi' hj' h1 h2;have hi2:i < n.seen.length:=by simpa using hi'
  have hj2:j < n.seen.length:=by simpa using hj'
  dsimp only[vF];by_cases e1:i=k
  .by_cases e2:j=k
   .omega
   .rw [aE7 e1,aEX e2];subst e1;rw [aFi] at h1;rw [aFj Aaa] at h2;intro e;have a1:=h9 gi (dB h1);have a2:=h.ci _ (jw hj2 _ (dB h2));rw [<-e] at a2;omega
  .rw [aEX e1];rw [aFj Aaa] at h1;by_cases e2:j=k
   .rw [aE7 e2];subst e2;rw [aFi] at h2;intro e;have a1:=h9 gi (dB h2);have a2:=h.ci _ (jw hi2 _ (dB h1));rw [e] at a2;omega
   .rw [aEX e2];rw [aFj Aaa] at h2;exact hni i j hi2 hj2 hij h1 h2
def pQ (s:Sn) (low:Int) (k:Nat):List Int:=(s.ids.take k).filter (λx=>decide (fQ s low<=x))
theorem Ci (s:Sn) (low:Int):pQ s low s.ids.length=bX s low:=by unfold pQ bX;rw [aFd]
theorem Yx (s:Sn) (low:Int) (k:Nat) (hk:k < s.ids.length) (h:fQ s low<=s.ids[k]):pQ s low (k+1)=pQ s low k++[s.ids[k]]:=by
 unfold pQ;rw [aEV hk,List.filter_append,List.filter_cons_of_pos Abm];rfl
theorem ach (s:Sn) (low:Int) (k:Nat) (hk:k < s.ids.length) (h:¬fQ s low<=s.ids[k]):pQ s low (k+1)=pQ s low k:=by
 unfold pQ;rw [aEV hk,List.filter_append,List.filter_cons_of_neg Abm];simp
theorem Yw (s:Sn) (low:Int) (k:Nat):(pQ s low k).length<=k:=by
 unfold pQ;exact aEP (aGE _ _) Abk
theorem Ec {q:Nat} {n:Nat} {o:Obj} (h:w.ownsRow B e sz v n xs):((w.drewN q).alloc o).ownsRow B e sz v n xs:=World.ownsRow.alloc (w:=w.drewN q) h o
theorem agv {α:Type} {en:α->List Value} {cp:Nat} {l:List α} (hs:∀x,(en x).length=sz) (h:w.ownsRow B e sz (.slice (some ⟨g,0,none⟩) l.length cp) l.length (GR.flat en l)):GR.W en sz w (some ⟨g,0,none⟩) g l:=λi hi=>by
 obtain⟨a,c',g',hv,hW,_,ho⟩:=GR.W.of_own hs h;simp only[aFI] at hv;obtain⟨rfl,_,_⟩:=hv;have hg:=ho g' (dB Aaa);simp[Value.ownBlock] at hg;subst hg;exact hW i hi
theorem Ti {W' W'':World} {ab:Nat} {a0 a1 a2 a3 a4:Int} {a5:ByteArray} {a6:Int} (h:W'.heap[ab]?=some (.cells (bQ a0 a1 a2 a3 a4 a5 a6) 70 (0,0))) (ho:Out c w W' W'') (hab:w.heap.size<=ab):GR.At jh 7 W'' (some ⟨ab,0,none⟩) [⟨a0,a1,a2,a3,a4,a5,a6⟩]:=λi hi=>by
 obtain⟨F,hk2,hF⟩:=ho;have hm2:=hk2.obj h (λhx=>by have:=(hF ab hx).1;omega);refine⟨ab,0,rfl,ay hm2,λj hj=>?_⟩;have hi0:i=0:=Abt
 subst hi0;have h1:=aEW W'' ab (0+(0*7+j)) _ _ (0,0) hm2;rw [h1];simp[jh]
theorem ac9 {w':World} {F:List Nat} {n:Nat} (h:w.ownsRow B e sz v n xs) (hk:aA F w w') (hF:∀x,v.ownBlock=some x->x∉F):w'.ownsRow B e sz v n xs:=by
 refine⟨h.1,?_⟩;rcases h.2 with hn|⟨g,cap,cur,rfl,hb,hgg,rest⟩
 .exact .inl hn
 .exact .inr ⟨g,cap,cur,rfl,hb,hk.obj hgg (hF g rfl),rest⟩
theorem azM (l:List Int) (p:Int->Bool):(l.takeWhile p).length<=l.length:=(List.takeWhile_prefix p).length_le
theorem acy (l:List Int) (x:Int):lq l x=l.take (l.takeWhile (λy=>decide (y < x))).length++([x]++l.drop (l.takeWhile (λy=>decide (y < x))).length):=by
 have h:=aGu (p:=λy=>decide (y < x)) (l:=l);unfold lq;generalize l.takeWhile (λy=>decide (y < x))=a at *;generalize l.dropWhile (λy=>decide (y < x))=b at *;subst h;simp
theorem adL {x:Int}:∀{l:List Int} {j:Nat},j<=l.length->(∀i (hi:i < l.length),i < j->l[i] < x)->(∀hj:j < l.length,¬l[j] < x)->(l.takeWhile (λy=>decide (y < x))).length=j:=by
 intro l;induction l with
 |nil=>intro j hj _ _;simp at hj;simp[hj]
 |cons a l ih=>
  intro j hj h1 h2;cases j with
  |zero=>
   have:=h2 Aac;rw [List.takeWhile_cons_of_neg (by simpa using this)];rfl
  |succ j=>
   have h0:=h1 0 Aac Aaa;rw [List.takeWhile_cons_of_pos (by simpa using h0),aF9,ih Abe (λi hi hij=>h1 (i+1) Aas Aaa) (λhj'=>h2 (by simpa using hj'))]
theorem CV {v0 v1 v2:Value} {t:TypeId} (h:w.heap[g]?=some (.cells #[v0,v1,v2] t (0,0))):w.cell? ⟨g,0,none⟩=some v0/\w.cell? ⟨g,1,none⟩=some v1/\w.cell? ⟨g,2,none⟩=some v2:=
 ⟨by rw [aEW w g _ _ t (0,0) h];rfl,by rw [aEW w g _ _ t (0,0) h];rfl,by rw [aEW w g _ _ t (0,0) h];rfl⟩
theorem ac7 (h:dZ w a g I l) (hl:0 < l.length):g < w.heap.size:=by
 obtain⟨b,c,_,hg,_⟩:=dZ.three h 0 hl;exact hg
theorem Nw (n:Nd) (a_k rG je iU jq:Option Addr) (dz fJ dX dA dK:Nat) (G:aK) (c:Nat->Nat) (mK mF mT mI mL:Int) (mk:ByteArray) (mN:Int) (w:World) (B:Nat) (hB:B<=w.heap.size) (h9:∀x,6 < c x->c x=9) (i:Nat) (hi:i < n.seen.length) (s0:Sn) (hs0:n.seen[i]=s0) (hfi:s0.f=mF) (hbef:∀x (hx:x < n.seen.length),x < i->n.seen[x].f≠mF) (hsl:n.seen.length<=1000) (hil:s0.ids.length<=1000) (hz:eF n 1048576) (hmk:mk.size<=1048576) (hP:∃g,rG=some ⟨g,0,none⟩) (yP:n.pu.length<=fJ) (RL:List Pu) (ok:Bool) (hu:dw n.pu mk 0 1 0 mN=(RL,ok)) (RES:Nd×List Mg×Int) (r1:sQ s0 mL mI=true->RES=(dU n (n.seen.set i ⟨mF,fQ s0 mL,bX s0 mL⟩),[⟨2,n.id,mF,mI,0,ByteArray.empty,0⟩],0)) (r2:sQ s0 mL mI=false->(ok=false\/40<=(bX s0 mL).length)->RES=(dU n (n.seen.set i ⟨mF,fQ s0 mL,bX s0 mL⟩),[],1)) (r3:sQ s0 mL mI=false->ok=true->(bX s0 mL).length < 40->RES=(dU (setPu n RL) (n.seen.set i ⟨mF,fQ s0 mL,lq (bX s0 mL) mI⟩),[⟨2,n.id,mF,mI,0,ByteArray.empty,0⟩],0)) (h:NQ w B n (⟨a_k,rG,je,iU,jq,dz,fJ,dX,dA,dK⟩:bq) G c):Calls prog 158 #[gM n (⟨a_k,rG,je,iU,jq,dz,fJ,dX,dA,dK⟩:bq),.agg (bQ mK mF mT mI mL mk mN)] w (gH w B c RES):=by
 obtain⟨gp,hgp⟩:=hP;subst hgp;have Sd:=Hq (λW (ha:aG W (some ⟨gp,0,none⟩) n.pu)=>adv gp 0 fJ n.pu mk mN W (aEP hz.p Aaa) yP hz.pk hmk ha);unfold iV at Sd;rw [hu] at Sd;clear hu hz yP;unfold gH;have H9:=Hq h9;clear h9;have mP:=Hq (h.nine hB);have HGS:=Hq (h.s);have hc4:c G.s=4:=h.c4 G.s (dB Aaa);clear h;go_in
 go_upto_region 1 with fail;refine wp_at (λW0 hW=>?_);obtain⟨e1,e2,e3,e4⟩:=gu w (.cells (dH n (⟨a_k,(some ⟨gp,0,none⟩),je,iU,jq,dz,fJ,dX,dA,dK⟩:bq)) 39) (.cells (bQ mK mF mT mI mL mk mN) 70) (.cells kR 39);rw [<-hW] at e1 e2 e3 e4;have aej:=Hq e1;have aec:=Hq e2;have ams:=Hq e3;have HB0:=Hq e4;have aeg:=Hq (mP.kc (k:=9) (KC.of_below e4) Aaa);clear hW e1 e2 e3 e4;obtain⟨bi,ci,eA,hgs0,⟨t0,t1,t2⟩,_,hWi⟩:=dZ.three aeg.s i hi;rw [hs0] at t0 t1 t2 hWi;rw [hfi] at t0;have aDQ:G.s < w.heap.size:=ac7 HGS Aaa;have HWI:=Hq hWi;have HT:=Hq (And.intro t0 (And.intro t1 t2));clear hWi t0 t1 t2;dsimp only at eA;subst eA;obtain⟨c0,c1,c2,c3,c4,c5,c6,c7,c8⟩:=nine aej;obtain⟨m0,m1,m2,m3,m4,m5,m6⟩:=jM aec;have hnl:=ay aej;have hml:=ay aec;go_upto_block 0 with fail;go_cut [7] from 15 (λj wx=>j= .int .i64 (i:Nat)/\Ge W0 wx)
 case first=>
  go_wp2_with fail;go_loopw [7] (λj wr=>∃x q:Nat,x<=i/\j= .int .i64 x/\wr=W0.drewN q) (λj _=>i - (intOf j).toNat)
  case atStart=>exact⟨0,0,aE1 _,rfl,rfl⟩
  case round=>
   obtain⟨x,q,hx,rfl,rfl⟩:=hrel;have hxl:x < n.seen.length:=Aaa
   obtain⟨b',c',e',hg',⟨u0,_,_⟩,_,_⟩:=dZ.three aeg.s x hxl;by_cases hxi:x=i
   .subst hxi;rw [hs0,hfi] at u0;have hnn:(mF != mF)=false:=Aac
    go_wp2_with fail;go_quiet (fail);go_wp2_with fail;go_meet
    case rel=>exact⟨rfl,⟨rfl,rfl,rfl,aEM _,λ_ _=>rfl⟩⟩
   .have hne:=hbef x hxl Aaa;generalize n.seen[x].f=fx at *;have hnn:(fx != mF)=true:=by simpa using hne
    go_wp2_with fail;go_quiet (fail);go_wp2_with fail;go_roundw
    case rel=>exact⟨x+1,_,Aaa,Aaf,rfl⟩
    case measure=>simp[intOf];omega
 case rest=>
  obtain⟨rfl,hge⟩:=hcut;have mU:=Hq (aj aej hge);have Sv:=Hq (aj aec hge);have BM:=Hq (aj ams hge);have HB1:=Hq (HB0.trans (hge.mono HB0.size));have Xw:=Hq (aeg.kc (k:=9) (KC.of_below hge) Aaa);have ajN:=Hq (HWI.below hge);have hz1:w.heap.size+3<=wc.heap.size:=by have:=ay BM;omega
  obtain⟨t0,t1,t2⟩:=ah HT;have u0:=(hge.cell (p:=⟨G.s,i*3,none⟩) hgs0).trans t0;have u1:=(hge.cell (p:=⟨G.s,i*3+1,none⟩) hgs0).trans t1;have u2:=(hge.cell (p:=⟨G.s,i*3+2,none⟩) hgs0).trans t2;clear t0 t1 t2 hge c0 c1 c2 c3 c4 c5 c6 c7 c8 m0 m1 m2 m3 m4 m5 m6 hnl hml aej aec ams HB0 aeg HWI HT;obtain⟨c0,c1,c2,c3,c4,c5,c6,c7,c8⟩:=nine mU;have hnl:=ay mU;have aDW:(i:Int) < (n.seen.length:Int):=Aaa
  go_upto_region 5 with fail;refine wp_at (λW2 hW2=>?_);have hb2:=au wc (.cells #[.int .i64 mF,.int .i64 s0.l,.slice bi s0.ids.length ci] 130);have hs2:=aEK wc (.cells #[.int .i64 mF,.int .i64 s0.l,.slice bi s0.ids.length ci] 130);rw [<-hW2] at hb2 hs2;obtain⟨sb,hsb⟩:∃sb,wc.heap.size=sb:=⟨_,rfl⟩;rw [hsb] at hs2 hz1;have XE:=Hq hs2;open aub in exact ag0
theorem adz (n:Nd) (A:bq) (G:aK) (c:Nat->Nat) (mK mF mT mI mL:Int) (mk:ByteArray) (mN:Int) (w:World) (B:Nat) (hB:B<=w.heap.size) (h9:∀x,6 < c x->c x=9)
 (hz:eF n 1048576) (hmk:mk.size<=1048576) (hP:∃g,A.p=some ⟨g,0,none⟩) (yP:n.pu.length<=A.cp) (hok:dR n=true) (hF:dV n mF=true) (h:NQ w B n A G c):
 Calls prog 158 #[gM n A,.agg (bQ mK mF mT mI mL mk mN)] w
  (gH w B c ((takeN n ⟨mK,mF,mT,mI,mL,mk,mN⟩).1,if (takeN n ⟨mK,mF,mT,mI,mL,mk,mN⟩).2=true then[XY n ⟨mK,mF,mT,mI,mL,mk,mN⟩] else[],if (takeN n ⟨mK,mF,mT,mI,mL,mk,mN⟩).2=true then 0 else 1)):=by
 obtain⟨hi,hif⟩:=Gq hok hF;have hsn:=Bh hok _ (aE2 hi)
 have hsl:n.seen.length<=1000:=by
  exact ax3
 have hil:n.seen[iN n.seen mF].ids.length<=1000:=by
  unfold vX at hsn;simp only[aES,aFa] at hsn;omega
 have hbef:∀x (hx:x < n.seen.length),x < iN n.seen mF->n.seen[x].f≠mF:=λx hx hlt=>by
  have:=List.not_of_lt_findIdx (p:=λs:Sn=>decide (s.f=mF)) (xs:=n.seen) hlt
  simpa using this
 obtain⟨ak,ap,ao,as',ar,ck,cp,co,cs,cr⟩:=A;cases hu:dw n.pu mk 0 1 0 mN with
 |mk RL ok=>
  refine Nw n ak ap ao as' ar ck cp co cs cr G c mK mF mT mI mL mk mN w B hB h9 _ hi _ rfl hif hbef hsl hil hz hmk hP yP RL ok hu _ (λhh=>?_) (λhh hg=>?_) (λhh ho hg=>?_) h
  .rw [KT (m:=⟨mK,mF,mT,mI,mL,mk,mN⟩) hi rfl rfl hh];rfl
  .have hgb:lY n n.seen[iN n.seen mF] ⟨mK,mF,mT,mI,mL,mk,mN⟩=false:=by
    unfold lY;dsimp only;rw [hu];rcases hg with rfl|hg
    .rfl
    .rw [aEN (λh=>Aaa)];simp
   rw [Rx (m:=⟨mK,mF,mT,mI,mL,mk,mN⟩) hi rfl rfl hh hgb];rfl
  .subst ho
   have hgb:lY n n.seen[iN n.seen mF] ⟨mK,mF,mT,mI,mL,mk,mN⟩=true:=by
    unfold lY;dsimp only;rw [hu,aEO hg];rfl
   rw [Hf (m:=⟨mK,mF,mT,mI,mL,mk,mN⟩) hi rfl rfl hh hgb];dsimp only;rw [hu];rfl
theorem Np (n:Nd) (A:bq) (G:aK) (c:Nat->Nat) (mK mF mT mI mL:Int) (mk:ByteArray) (mN:Int) (w:World) (B:Nat) (hB:B<=w.heap.size) (h9:∀x,6 < c x->c x=9) (hkl:n.kids.length<=1048600) (hmk:mk.size<=1048576) (hmo:bV ⟨mK,mF,mT,mI,mL,mk,mN⟩=true) (hz:eF n 1048576) (hP:∃g,A.p=some ⟨g,0,none⟩) (yP:n.pu.length<=A.cp) (hok:dR n=true) (h1:mT=n.id) (h2:dV n mF=true) (h3:mK=1) (h:NQ w B n A G c):Calls prog 131 #[gM n A,.agg (bQ mK mF mT mI mL mk mN)] w (gH w B c ((takeN n ⟨mK,mF,mT,mI,mL,mk,mN⟩).1,if (takeN n ⟨mK,mF,mT,mI,mL,mk,mN⟩).2=true then[XY n ⟨mK,mF,mT,mI,mL,mk,mN⟩] else[],if (takeN n ⟨mK,mF,mT,mI,mL,mk,mN⟩).2=true then 0 else 1)):=by
 open awc in exact OO
def Dc (n:Nd) (m:Mg):Nd×List Mg×Int:=if m.T=n.id/\dV n m.F=true then fO n m else(n,[],3)
theorem acG (hok:dR n=true):hasB n.kids n.par=false:=by
 have h1:=(bE hok).1;unfold eu at h1;simp only[aES] at h1;have h2:=zX h1.2;cases hh:hasB n.kids n.par
 .rfl
 .rw [Aj] at hh;have:=h2 _ hh;unfold kE at this;simp at this
theorem adw (n:Nd) (A:bq) (G:aK) (c:Nat->Nat) (mK mF mT mI mL:Int) (mk:ByteArray) (mN:Int) (w:World) (B:Nat) (hB:B<=w.heap.size) (h9:∀x,6 < c x->c x=9) (hz:eF n 1048576) (hmk:mk.size<=1048576) (hok:dR n=true) (hmo:bV ⟨mK,mF,mT,mI,mL,mk,mN⟩=true) (hP:∃g,A.p=some ⟨g,0,none⟩) (yP:n.pu.length<=A.cp) (h:NQ w B n A G c):
 Calls prog 131 #[gM n A,.agg (bQ mK mF mT mI mL mk mN)] w (gH w B c (Dc n ⟨mK,mF,mT,mI,mL,mk,mN⟩)):=by
 have hkl:n.kids.length<=1048600:=aEP hz.k Aaa;have h0:0<=n.next:=by have h:=(bE hok).2.2.2.1;unfold fH at h;simp at h;omega
 by_cases h1:mT=n.id
 .cases h2:dV n mF
  .rw [show Dc n ⟨mK,mF,mT,mI,mL,mk,mN⟩=(n,[],3) from aEX (λh=>by have:=h.2;dsimp only at this;rw [h2] at this;exact absurd this Aac)];exact Ji n A G c mK mF mT mI mL mk mN w B hB h9 hkl hmk hmo h1 h2 h
  .rw [show Dc n ⟨mK,mF,mT,mI,mL,mk,mN⟩=fO n ⟨mK,mF,mT,mI,mL,mk,mN⟩ from aE7 ⟨h1,h2⟩];by_cases k1:mK=1
   .rw [show fO n ⟨mK,mF,mT,mI,mL,mk,mN⟩=_ from aE7 k1];exact Np n A G c mK mF mT mI mL mk mN w B hB h9 hkl hmk hmo hz hP yP hok h1 h2 k1 h
   by_cases k2:mK=2
   .rw [show fO n ⟨mK,mF,mT,mI,mL,mk,mN⟩=_ from(aEX k1).trans (aE7 k2)];have:=Jl n A G c mK mF mT mI mL mk mN w B hB h9 hkl hmk hmo hz.o h1 h2 k2 h;rw [k2] at this ⊢;exact this
   have k0:mK=0:=by
    unfold bV at hmo;rw [aES] at hmo;have q:=hmo.2;dsimp only at q;by_cases k0:mK=0
    .exact k0
    .rw [aEX k0,aEX k1,aEX k2] at q;exact absurd q Aac
   by_cases h4:mF=n.par
   .rw [show fO n ⟨mK,mF,mT,mI,mL,mk,mN⟩=(n,[],1) from(aEX k1).trans ((aEX k2).trans (aEX (by dsimp only;rw [h4,acG hok];simp)))];exact Ro n A G c mK mF mT mI mL mk mN w B hB h9 hkl hmk hmo h1 h2 k0 h4 h
   .have hk:hasB n.kids mF=true:=by
     unfold dV at h2;rw [aEN h4,Bool.and_false,Bool.false_or] at h2;exact h2
    rw [show fO n ⟨mK,mF,mT,mI,mL,mk,mN⟩=_ from(aEX k1).trans ((aEX k2).trans (aE7 hk))];exact Jk n A G c mK mF mT mI mL mk mN w B hB h9 hkl hmk hmo hz hP yP h0 h1 h2 k0 h4 h
 .rw [show Dc n ⟨mK,mF,mT,mI,mL,mk,mN⟩=(n,[],3) from aEX (λh=>h1 h.1)];exact Jj n A G c mK mF mT mI mL mk mN w B hB h9 hkl hmk hmo h1 h
theorem Rb (n:Nd) (A:bq) (K no:Int) (k:ByteArray) (nn mK mF mT mI mL:Int) (mk:ByteArray) (mN:Int) (w:World) (hz:eF n 1048576) (hk:k.size<=1048576) (hmk:mk.size<=1048576) (hok:dR n=true) (hop:bH ⟨K,no,k,nn,⟨mK,mF,mT,mI,mL,mk,mN⟩⟩=true) (hK:K=6) (ha:bY w A n):Calls prog 99 #[gM n A,.agg (bJ K no k nn mK mF mT mI mL mk mN)] w (jR w (Dc n ⟨mK,mF,mT,mI,mL,mk,mN⟩)):=by
 subst hK;open aom in exact DU
theorem Ri (n:Nd) (A:bq) (K no:Int) (k:ByteArray) (nn mK mF mT mI mL:Int) (mk:ByteArray) (mN:Int) (w:World) (hz:eF n 1048576) (hk:k.size<=1048576) (hmk:mk.size<=1048576) (hok:dR n=true) (hop:bH ⟨K,no,k,nn,⟨mK,mF,mT,mI,mL,mk,mN⟩⟩=true) (hK:K=3) (hpar:n.par≠ -1) (ha:bY w A n):Calls prog 99 #[gM n A,.agg (bJ K no k nn mK mF mT mI mL mk mN)] w (jR w (n,[⟨0,n.id,n.par,0,0,k,nn⟩],0)):=by
 subst hK;have mW:=Hq (λW (h:aH w W)=>qQ n A W (hz.mono Aaa) (ha.below h));rw [hok] at mW
 have hpz:(decide (n.par < 0))=false:=by
  exact ais
 have EG:=Hq (λW=>jE ⟨3,no,k,nn,⟨mK,mF,mT,mI,mL,mk,mN⟩⟩ W Aal Aal);open aBn in exact ES
theorem alm {o:gJ} (h:bH o=true):o.K=0\/o.K=1\/o.K=2\/o.K=3\/o.K=4\/o.K=5\/o.K=6:=by
 unfold bH at h;by_cases h0:o.K=0\/o.K=3\/o.K=4
 .omega
 rw [aEX h0] at h;by_cases h1:o.K=1
 .omega
 rw [aEX h1] at h;by_cases h2:o.K=2
 .omega
 rw [aEX h2] at h;by_cases h5:o.K=5
 .omega
 rw [aEX h5] at h;by_cases h6:o.K=6
 .omega
 rw [aEX h6] at h;exact absurd h Aac
theorem UQ (n:Nd) (A:bq) (K no:Int) (k:ByteArray) (nn mK mF mT mI mL:Int) (mk:ByteArray) (mN:Int) (w:World) (hz:eF n 1048576) (hk:k.size<=1048576) (hmk:mk.size<=1048576) (ha:bY w A n):
 Calls prog 99 #[gM n A,.agg (bJ K no k nn mK mF mT mI mL mk mN)] w (jR w (doN n ⟨K,no,k,nn,⟨mK,mF,mT,mI,mL,mk,mN⟩⟩)):=by
 cases hok:dR n
 .rw [LK hok];exact Q9 n A K no k nn mK mF mT mI mL mk mN w hz hok ha
 rw [TG hok];cases hop:bH ⟨K,no,k,nn,⟨mK,mF,mT,mI,mL,mk,mN⟩⟩
 .rw [show nN n ⟨K,no,k,nn,⟨mK,mF,mT,mI,mL,mk,mN⟩⟩=(n,[],3) from aEX (by rw [hop];simp)];exact Ra n A K no k nn mK mF mT mI mL mk mN w hz hk hmk hok hop ha
 by_cases h6:K=6
 .have e:nN n ⟨K,no,k,nn,⟨mK,mF,mT,mI,mL,mk,mN⟩⟩=Dc n ⟨mK,mF,mT,mI,mL,mk,mN⟩:=by
   unfold nN Dc yB fD;rw [hop,h6];dsimp only;by_cases hc:mT=n.id/\dV n mF=true
   .rw [aE7 hc,aE7 (by rw [hc.2,aEO hc.1];rfl),aEX Aaa,aEX Aaa,aEX Aaa,aEX Aaa,aEX Aaa,aEX Aaa]
   .rw [aEX hc,aEX (by simp only[decide_true,Bool.not_true,Bool.false_or,Bool.true_and,aES,aFa];exact hc)]
  rw [e];exact Rb n A K no k nn mK mF mT mI mL mk mN w hz hk hmk hok hop h6 ha
 rw [show nN n ⟨K,no,k,nn,⟨mK,mF,mT,mI,mL,mk,mN⟩⟩=fD n ⟨K,no,k,nn,⟨mK,mF,mT,mI,mL,mk,mN⟩⟩ from aE7 (by rw [hop];unfold yB;rw [aEN h6];rfl)];have hK:=alm hop;dsimp only at hK;by_cases h0:K=0
 .rw [show fD n ⟨K,no,k,nn,⟨mK,mF,mT,mI,mL,mk,mN⟩⟩=_ from aE7 h0];dsimp only;cases hu:dw n.pu k 1 1 0 nn with
  |mk RL ok=>
   by_cases hp:n.par= -1
   .cases ok
    .rw [aEX (λh=>absurd h.2 Aac)];exact Jf n A K no k nn mK mF mT mI mL mk mN w hz hk hmk hok hop h0 RL hu hp ha
    .rw [aE7 ⟨hp,rfl⟩];exact Gz n A K no k nn mK mF mT mI mL mk mN w hz hk hmk hok hop h0 RL hu hp ha
   .rw [aEX (λh=>hp h.1)];exact Jg n A K no k nn mK mF mT mI mL mk mN w hz hk hmk hok hop h0 RL ok hu hp ha
 by_cases h1:K=1
 .rw [show fD n ⟨K,no,k,nn,⟨mK,mF,mT,mI,mL,mk,mN⟩⟩=_ from(aEX h0).trans (aE7 h1)];exact Nn n A K no k nn mK mF mT mI mL mk mN w hz hk hmk hok hop h1 ha
 by_cases h2:K=2
 .rw [show fD n ⟨K,no,k,nn,⟨mK,mF,mT,mI,mL,mk,mN⟩⟩=_ from(aEX h0).trans ((aEX h1).trans (aE7 h2))];exact UK n A K no k nn mK mF mT mI mL mk mN w hz hk hmk hok hop h2 ha
 by_cases h3:K=3
 .rw [show fD n ⟨K,no,k,nn,⟨mK,mF,mT,mI,mL,mk,mN⟩⟩=_ from(aEX h0).trans ((aEX h1).trans ((aEX h2).trans (aE7 h3)))];by_cases hp:n.par= -1
  .rw [aE7 hp];exact Rc n A K no k nn mK mF mT mI mL mk mN w hz hk hmk hok hop h3 hp ha
  .rw [aEX hp];exact Ri n A K no k nn mK mF mT mI mL mk mN w hz hk hmk hok hop h3 hp ha
 by_cases h4:K=4
 .rw [show fD n ⟨K,no,k,nn,⟨mK,mF,mT,mI,mL,mk,mN⟩⟩=_ from(aEX h0).trans ((aEX h1).trans ((aEX h2).trans ((aEX h3).trans (aE7 h4))))];by_cases hp:n.par= -1
  .rw [aE7 hp];exact Rf n A K no k nn mK mF mT mI mL mk mN w hz hk hmk hok hop h4 hp ha
  .rw [aEX hp];exact Q8 n A K no k nn mK mF mT mI mL mk mN w hz hk hmk hok hop h4 hp ha
 have h5:K=5:=Aaa
 rw [show fD n ⟨K,no,k,nn,⟨mK,mF,mT,mI,mL,mk,mN⟩⟩=_ from(aEX h0).trans ((aEX h1).trans ((aEX h2).trans ((aEX h3).trans ((aEX h4).trans (aE7 h5)))))];exact Rh n A K no k nn mK mF mT mI mL mk mN w hz hk hmk hok hop h5 ha
end Go.Proofs.YtbolgdleijjgfaaGreatDoor
