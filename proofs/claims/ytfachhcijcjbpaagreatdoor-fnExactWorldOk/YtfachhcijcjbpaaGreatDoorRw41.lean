/- Parts. -/
import Derived.Test.YtfachhcijcjbpaaGreatDoorRw39
import Derived.Test.YtfachhcijcjbpaaGreatDoorRw40
namespace Go.Proofs.YtfachhcijcjbpaaGreatDoor
open Go.Proofs.Tryz
set_option maxHeartbeats 16000000
set_option maxRecDepth 100000
open Go.RowKit
open Mth
variable (n:Nd) (A:bg) (G:aR) (c:Nat->Nat) (mK mF mT mI mL:Int) (mk:ByteArray) (mN:Int) (w:World) (B:Nat) {g sz gi x:Nat} {e:TypeId} {ids:List Int} {a:Option Addr} {I:Nat->Nat} {l:List Sn} {v:Value} {xs:List Value}
def vS (gi:Nat) (ids:List Int) (c:Nat->Nat):Nat->Nat:=λx=>if x∈fp gi ids then 5 else c x
theorem ae5 {c:Nat->Nat} (h:x∈fp gi ids):vS gi ids c x=5:=aER h
theorem vT {c:Nat->Nat} (h:x∉fp gi ids):vS gi ids c x=c x:=aEG h
theorem oH.store {w:World} (h:oH w a g I l) (k:Nat) (hk:k < l.length) (s:Sn) (b:Option Addr) (cc gi:Nat) (hi:WO w b cc gi s.ids) (hg4:∀x∈uo I l,x≠g) (hgi:∀x∈fp gi s.ids,x≠g):
 oH (GR.setW w g (k*3) [.int .i64 s.f,.int .i64 s.l,.slice b s.ids.length cc]) a g (uQ I k gi) (l.set k s):=by
 obtain⟨⟨T,hT,hl,hr⟩,hy⟩:=h;have Te:k < T.length:=Aaa
 have hkp:=eP (g:=g) [.int .i64 s.f,.int .i64 s.l,.slice b s.ids.length cc] w (k*3)
 refine⟨⟨T.set k ⟨s.f,s.l,.slice b s.ids.length cc⟩,GR.W.set bf hT k ⟨s.f,s.l,.slice b s.ids.length cc⟩ Te,by simpa using hl,λi hi'=>?_⟩,λ_=>by
  obtain⟨cs,hc⟩:=hy Aaa
  exact⟨_,GR.setW_blk [.int .i64 s.f,.int .i64 s.l,.slice b s.ids.length cc] (o:=k*3) (xs:=cs.toList) (by simpa using hc)⟩⟩
 have hil:i < l.length:=by simpa using hi'
 by_cases e:i=k
 .subst e;refine⟨b,cc,?_,?_⟩
  .rw [aFi,aF7 Te]
  .exact aiJ
 .obtain⟨b',c',ht,hi2⟩:=hr i hil;refine⟨b',c',?_,?_⟩
  .rw [aE4 Aaa,aFK Aaa];exact ht
  .exact ais
theorem NQ.seenPut {w:World} {B:Nat} {n:Nd} {A:bg} {G:aR} {c:Nat->Nat} (h:NQ w B n A G c) (k:Nat) (hk:k < n.seen.length) (s:Sn) (b:Option Addr) (cc gi:Nat) (hi:WO w b cc gi s.ids) (h9:∀x∈fp gi s.ids,c x=9):
 NQ (GR.setW w G.s (k*3) [.int .i64 s.f,.int .i64 s.l,.slice b s.ids.length cc]) B (dS n (n.seen.set k s)) A ⟨G.k,G.p,G.o,G.s,G.r,uQ G.i k gi⟩ (vS gi s.ids c):=by
 have c4:c G.s=4:=h.c4 G.s (dH Aaa);have hkc:KC c 4 w (GR.setW w G.s (k*3) [.int .i64 s.f,.int .i64 s.l,.slice b s.ids.length cc]):=KC.setW _ c4;have hlen:(n.seen.set k s).length=n.seen.length:=aGd ..;have same:∀x,c x≠9->vS gi s.ids c x=c x:=λx hx=>vT (λhm=>hx (h9 x hm))
 have hSQ:oH (GR.setW w G.s (k*3) [.int .i64 s.f,.int .i64 s.l,.slice b s.ids.length cc]) A.s G.s (uQ G.i k gi) (n.seen.set k s):=by
  refine h.sq.store k hk s b cc gi hi (λx hx e=>?_) (λx hx e=>?_)
  .have:=h.ci x hx;rw [e,c4] at this;omega
  .have:=h9 x hx;rw [e,c4] at this;omega
 refine⟨⟨hkc.w h.k h.ck Aaa,hkc.w h.p h.cp Aaa,hkc.own h.o h.co Aaa,hSQ.w,hkc.own h.r h.cr Aaa,?_,?_,?_,?_,?_,?_,?_,?_⟩,hSQ⟩
 .intro x hx;have:=h.lo x hx;rw [same x Aaa];exact this
 .intro x hx;have:=h.ck x hx;rw [same x Aaa];exact this
 .intro x hx;have:=h.cp x hx;rw [same x Aaa];exact this
 .intro x hx;have:=h.co x hx;rw [same x Aaa];exact this
 .intro x hx;have hx':x∈fp G.s n.seen:=by rw [<-akG hlen];exact hx
  have:=h.c4 x hx';rw [same x Aaa];exact this
 .intro x hx;obtain⟨i,hi',rfl,hpos⟩:=uK hx;by_cases e:i=k
  .subst e
   have hpos':0 < s.ids.length:=by
    simp only[dS] at hpos;rw [aFi] at hpos;exact hpos
   have e:uQ G.i i gi i=gi:=aER rfl;show vS gi s.ids c (uQ G.i i gi i)=5
   rw [e];exact ae5 (dH hpos')
  .have e':uQ G.i k gi i=G.i i:=aEG e;show vS gi s.ids c (uQ G.i k gi i)=5
   rw [e']
   have hpos':0 < (n.seen[i]'(by simpa [dS] using hi')).ids.length:=by
    simp only[dS] at hpos;rw [aE4 Aaa] at hpos;exact hpos
   have:=h.ci _ (jE (by simpa [dS] using hi') _ (dH hpos'));rw [same _ Aaa];exact this
 .intro x hx;have:=h.cr x hx;rw [same x Aaa];exact this
 .refine(pR _ _).2 (λi j hi' hj' hij h1 h2=>?_);have hni:=(pR _ _).1 h.ni;simp only[dS] at hi' hj' h1 h2;have hi2:i < n.seen.length:=by simpa using hi'
  have hj2:j < n.seen.length:=by simpa using hj'
  dsimp only[uQ];by_cases e1:i=k
  .by_cases e2:j=k
   .omega
   .rw [aER e1,aEG e2];subst e1;rw [aFi] at h1;rw [aE4 Aaa] at h2;intro e;have a1:=h9 gi (dH h1);have a2:=h.ci _ (jE hj2 _ (dH h2));rw [<-e] at a2;omega
  .rw [aEG e1];rw [aE4 Aaa] at h1;by_cases e2:j=k
   .rw [aER e2];subst e2;rw [aFi] at h2;intro e;have a1:=h9 gi (dH h2);have a2:=h.ci _ (jE hi2 _ (dH h1));rw [e] at a2;omega
   .rw [aEG e2];rw [aE4 Aaa] at h2;exact hni i j hi2 hj2 hij h1 h2
def oJ (s:Sn) (low:Int) (k:Nat):List Int:=(s.ids.take k).filter (λx=>decide (fH s low<=x))
theorem Cb (s:Sn) (low:Int):oJ s low s.ids.length=bV s low:=by unfold oJ bV;rw [aEW]
theorem Yy (s:Sn) (low:Int) (k:Nat) (hk:k < s.ids.length) (h:fH s low<=s.ids[k]):oJ s low (k+1)=oJ s low k++[s.ids[k]]:=by
 unfold oJ;rw [aEF hk,List.filter_append,List.filter_cons_of_pos Abk];rfl
theorem acj (s:Sn) (low:Int) (k:Nat) (hk:k < s.ids.length) (h:¬fH s low<=s.ids[k]):oJ s low (k+1)=oJ s low k:=by
 unfold oJ;rw [aEF hk,List.filter_append,List.filter_cons_of_neg Abk];simp
theorem Yx (s:Sn) (low:Int) (k:Nat):(oJ s low k).length<=k:=by
 unfold oJ;exact aEA (aGa _ _) Abi
theorem D7 {w:World} {q:Nat} {B:Nat} {n:Nat} {o:Obj} (h:w.ownsRow B e sz v n xs):((w.drewN q).alloc o).ownsRow B e sz v n xs:=World.ownsRow.alloc (w:=w.drewN q) h o
theorem agA {α:Type} {en:α->List Value} {B:Nat} {w:World} {cp:Nat} {l:List α} (hs:∀x,(en x).length=sz) (h:w.ownsRow B e sz (.slice (some ⟨g,0,none⟩) l.length cp) l.length (GR.flat en l)):GR.W en sz w (some ⟨g,0,none⟩) g l:=λi hi=>by
 obtain⟨a,c',g',hv,hW,_,ho⟩:=GR.W.of_own hs h;simp only[aFz] at hv;obtain⟨rfl,_,_⟩:=hv;have hg:=ho g' (dH Aaa);simp[Value.ownBlock] at hg;subst hg;exact hW i hi
theorem TI {w W' W'':World} {c:Nat->Nat} {ab:Nat} {a0 a1 a2 a3 a4:Int} {a5:ByteArray} {a6:Int} (h:W'.heap[ab]?=some (.cells (bH a0 a1 a2 a3 a4 a5 a6) 104 (0,0))) (ho:Out c w W' W'') (hab:w.heap.size<=ab):GR.At lQ 7 W'' (some ⟨ab,0,none⟩) [⟨a0,a1,a2,a3,a4,a5,a6⟩]:=λi hi=>by
 obtain⟨F,hk2,hF⟩:=ho;have hm2:=hk2.obj h (λhx=>by have:=(hF ab hx).1;omega);refine⟨ab,0,rfl,ay hm2,λj hj=>?_⟩;have hi0:i=0:=Abq
 subst hi0;have h1:=aEz W'' ab (0+(0*7+j)) _ _ (0,0) hm2;rw [h1];simp[lQ]
theorem ada {w w':World} {F:List Nat} {B:Nat} {n:Nat} (h:w.ownsRow B e sz v n xs) (hk:aC F w w') (hF:∀x,v.ownBlock=some x->x∉F):w'.ownsRow B e sz v n xs:=by
 refine⟨h.1,?_⟩;rcases h.2 with hn|⟨g,cap,cur,rfl,hb,hgg,rest⟩
 .exact .inl hn
 .exact .inr ⟨g,cap,cur,rfl,hb,hk.obj hgg (hF g rfl),rest⟩
theorem azv (l:List Int) (p:Int->Bool):(l.takeWhile p).length<=l.length:=(List.takeWhile_prefix p).length_le
theorem acD (l:List Int) (x:Int):kW l x=l.take (l.takeWhile (λy=>decide (y < x))).length++([x]++l.drop (l.takeWhile (λy=>decide (y < x))).length):=by
 have h:=aGe (p:=λy=>decide (y < x)) (l:=l);unfold kW;generalize l.takeWhile (λy=>decide (y < x))=a at *;generalize l.dropWhile (λy=>decide (y < x))=b at *;subst h;simp
theorem adQ {x:Int}:∀{l:List Int} {j:Nat},j<=l.length->(∀i (hi:i < l.length),i < j->l[i] < x)->(∀hj:j < l.length,¬l[j] < x)->(l.takeWhile (λy=>decide (y < x))).length=j:=by
 intro l;induction l with
 |nil=>intro j hj _ _;simp at hj;simp[hj]
 |cons a l ih=>
  intro j hj h1 h2;cases j with
  |zero=>
   have:=h2 Aac;rw [List.takeWhile_cons_of_neg (by simpa using this)];rfl
  |succ j=>
   have h0:=h1 0 Aac Aaa;rw [List.takeWhile_cons_of_pos Acb,aFU,ih Abg (λi hi hij=>h1 (i+1) Aas Aaa) (λhj'=>h2 (by simpa using hj'))]
theorem CP {w:World} {v0 v1 v2:Value} {t:TypeId} (h:w.heap[g]?=some (.cells #[v0,v1,v2] t (0,0))):w.cell? ⟨g,0,none⟩=some v0/\w.cell? ⟨g,1,none⟩=some v1/\w.cell? ⟨g,2,none⟩=some v2:=
 ⟨by rw [aEz w g _ _ t (0,0) h];rfl,by rw [aEz w g _ _ t (0,0) h];rfl,by rw [aEz w g _ _ t (0,0) h];rfl⟩
theorem ac8 {w:World} (h:fU w a g I l) (hl:0 < l.length):g < w.heap.size:=by
 obtain⟨b,c,_,hg,_⟩:=fU.three h 0 hl;exact hg
theorem NW (n:Nd) (a_k qV iV iM jd:Option Addr) (cZ fD dW dw dG:Nat) (G:aR) (c:Nat->Nat) (mK mF mT mI mL:Int) (mk:ByteArray) (mN:Int) (w:World) (B:Nat) (hB:B<=w.heap.size) (h9:∀x,6 < c x->c x=9) (i:Nat) (hi:i < n.seen.length) (s0:Sn) (hs0:n.seen[i]=s0) (hfi:s0.f=mF) (hbef:∀x (hx:x < n.seen.length),x < i->n.seen[x].f≠mF) (hsl:n.seen.length<=1000) (hil:s0.ids.length<=1000) (hz:eH n 1048576) (hmk:mk.size<=1048576) (hP:∃g,qV=some ⟨g,0,none⟩) (yI:n.pu.length<=fD) (RL:List Pu) (ok:Bool) (hu:cK n.pu mk 0 1 0 mN=(RL,ok)) (RES:Nd×List Mg×Int) (r1:rX s0 mL mI=true->RES=(dS n (n.seen.set i ⟨mF,fH s0 mL,bV s0 mL⟩),[⟨2,n.id,mF,mI,0,ByteArray.empty,0⟩],0)) (r2:rX s0 mL mI=false->(ok=false\/40<=(bV s0 mL).length)->RES=(dS n (n.seen.set i ⟨mF,fH s0 mL,bV s0 mL⟩),[],1)) (r3:rX s0 mL mI=false->ok=true->(bV s0 mL).length < 40->RES=(dS (setPu n RL) (n.seen.set i ⟨mF,fH s0 mL,kW (bV s0 mL) mI⟩),[⟨2,n.id,mF,mI,0,ByteArray.empty,0⟩],0)) (h:NQ w B n (⟨a_k,qV,iV,iM,jd,cZ,fD,dW,dw,dG⟩:bg) G c):Calls prog 142 #[gP n (⟨a_k,qV,iV,iM,jd,cZ,fD,dW,dw,dG⟩:bg),.agg (bH mK mF mT mI mL mk mN)] w (fZ w B c RES):=by
 obtain⟨gp,hgp⟩:=hP;subst hgp;have SL:=Hq (λW (ha:aH W (some ⟨gp,0,none⟩) n.pu)=>adA gp 0 fD n.pu mk mN W (aEA hz.p Aaa) yI hz.pk hmk ha);unfold iN at SL;rw [hu] at SL;clear hu hz yI;unfold fZ;have H9:=Hq h9;clear h9;have jD:=Hq (h.nine hB);have HGS:=Hq (h.s);have hc4:c G.s=4:=h.c4 G.s (dH Aaa);clear h;go_in
 go_upto_region 1 with fail;refine wp_at (λW0 hW=>?_);obtain⟨e1,e2,e3,e4⟩:=fP w (.cells (dR n (⟨a_k,(some ⟨gp,0,none⟩),iV,iM,jd,cZ,fD,dW,dw,dG⟩:bg)) 53) (.cells (bH mK mF mT mI mL mk mN) 104) (.cells kH 53);rw [<-hW] at e1 e2 e3 e4;have aep:=Hq e1;have aei:=Hq e2;have amK:=Hq e3;have HB0:=Hq e4;have aem:=Hq (jD.kc (k:=9) (KC.of_below e4) Aaa);clear hW e1 e2 e3 e4;obtain⟨bi,ci,eA,hgs0,⟨t0,t1,t2⟩,_,hWi⟩:=fU.three aem.s i hi;rw [hs0] at t0 t1 t2 hWi;rw [hfi] at t0;have aDB:G.s < w.heap.size:=ac8 HGS Aaa;have HWI:=Hq hWi;have HT:=Hq (And.intro t0 (And.intro t1 t2));clear hWi t0 t1 t2;dsimp only at eA;subst eA;obtain⟨c0,c1,c2,c3,c4,c5,c6,c7,c8⟩:=nine aep;obtain⟨m0,m1,m2,m3,m4,m5,m6⟩:=jA aei;have hnl:=ay aep;have hml:=ay aei;go_upto_block 0 with fail;go_cut [7] from 15 (λj wx=>j= .int .i64 (i:Nat)/\Ge W0 wx)
 case first=>
  go_wp2_with fail;go_loopw [7] (λj wr=>∃x q:Nat,x<=i/\j= .int .i64 x/\wr=W0.drewN q) (λj _=>i - (intOf j).toNat)
  case atStart=>exact⟨0,0,aEN _,rfl,rfl⟩
  case round=>
   obtain⟨x,q,hx,rfl,rfl⟩:=hrel;have hxl:x < n.seen.length:=Aaa
   obtain⟨b',c',e',hg',⟨u0,_,_⟩,_,_⟩:=fU.three aem.s x hxl;by_cases hxi:x=i
   .subst hxi;rw [hs0,hfi] at u0;have hnn:(mF != mF)=false:=Aac
    go_wp2_with fail;go_quiet (fail);go_wp2_with fail;go_meet
    case rel=>exact⟨rfl,⟨rfl,rfl,rfl,aEx _,λ_ _=>rfl⟩⟩
   .have hne:=hbef x hxl Aaa;generalize n.seen[x].f=fx at *;have hnn:(fx != mF)=true:=by simpa using hne
    go_wp2_with fail;go_quiet (fail);go_wp2_with fail;go_roundw
    case rel=>exact⟨x+1,_,Aaa,Aaf,rfl⟩
    case measure=>simp[intOf];omega
 case rest=>
  obtain⟨rfl,hge⟩:=hcut;have mq:=Hq (aj aep hge);have Tj:=Hq (aj aei hge);have BH:=Hq (aj amK hge);have HB1:=Hq (HB0.trans (hge.mono HB0.size));have XE:=Hq (aem.kc (k:=9) (KC.of_below hge) Aaa);have ajW:=Hq (HWI.below hge);have hz1:w.heap.size+3<=wc.heap.size:=by have:=ay BH;omega
  obtain⟨t0,t1,t2⟩:=ah HT;have u0:=(hge.cell (p:=⟨G.s,i*3,none⟩) hgs0).trans t0;have u1:=(hge.cell (p:=⟨G.s,i*3+1,none⟩) hgs0).trans t1;have u2:=(hge.cell (p:=⟨G.s,i*3+2,none⟩) hgs0).trans t2;clear t0 t1 t2 hge c0 c1 c2 c3 c4 c5 c6 c7 c8 m0 m1 m2 m3 m4 m5 m6 hnl hml aep aei amK HB0 aem HWI HT;obtain⟨c0,c1,c2,c3,c4,c5,c6,c7,c8⟩:=nine mq;have hnl:=ay mq;have aDH:(i:Int) < (n.seen.length:Int):=Aaa
  go_upto_region 5 with fail;refine wp_at (λW2 hW2=>?_);have hb2:=au wc (.cells #[.int .i64 mF,.int .i64 s0.l,.slice bi s0.ids.length ci] 144);have hs2:=aEu wc (.cells #[.int .i64 mF,.int .i64 s0.l,.slice bi s0.ids.length ci] 144);rw [<-hW2] at hb2 hs2;obtain⟨sb,hsb⟩:∃sb,wc.heap.size=sb:=⟨_,rfl⟩;rw [hsb] at hs2 hz1;have XJ:=Hq hs2;open atJ in exact ag2
theorem adF (n:Nd) (A:bg) (G:aR) (c:Nat->Nat) (mK mF mT mI mL:Int) (mk:ByteArray) (mN:Int) (w:World) (B:Nat) (hB:B<=w.heap.size) (h9:∀x,6 < c x->c x=9)
 (hz:eH n 1048576) (hmk:mk.size<=1048576) (hP:∃g,A.p=some ⟨g,0,none⟩) (yI:n.pu.length<=A.cp) (hok:dQ n=true) (hF:dU n mF=true) (h:NQ w B n A G c):
 Calls prog 142 #[gP n A,.agg (bH mK mF mT mI mL mk mN)] w
  (fZ w B c ((takeN n ⟨mK,mF,mT,mI,mL,mk,mN⟩).1,if (takeN n ⟨mK,mF,mT,mI,mL,mk,mN⟩).2=true then[XY n ⟨mK,mF,mT,mI,mL,mk,mN⟩] else[],if (takeN n ⟨mK,mF,mT,mI,mL,mk,mN⟩).2=true then 0 else 1)):=by
 obtain⟨hi,hif⟩:=Gq hok hF;have hsn:=AZ hok _ (aEL hi)
 have hsl:n.seen.length<=1000:=by
  exact axG
 have hil:n.seen[iH n.seen mF].ids.length<=1000:=by
  unfold vK at hsn;simp only[aED,aES] at hsn;omega
 have hbef:∀x (hx:x < n.seen.length),x < iH n.seen mF->n.seen[x].f≠mF:=λx hx hlt=>by
  have:=List.not_of_lt_findIdx (p:=λs:Sn=>decide (s.f=mF)) (xs:=n.seen) hlt
  simpa using this
 obtain⟨ak,ap,ao,as',ar,ck,cp,co,cs,cr⟩:=A;cases hu:cK n.pu mk 0 1 0 mN with
 |mk RL ok=>
  refine NW n ak ap ao as' ar ck cp co cs cr G c mK mF mT mI mL mk mN w B hB h9 _ hi _ rfl hif hbef hsl hil hz hmk hP yI RL ok hu _ (λhh=>?_) (λhh hg=>?_) (λhh ho hg=>?_) h
  .rw [K9 (m:=⟨mK,mF,mT,mI,mL,mk,mN⟩) hi rfl rfl hh];rfl
  .have hgb:lS n n.seen[iH n.seen mF] ⟨mK,mF,mT,mI,mL,mk,mN⟩=false:=by
    unfold lS;dsimp only;rw [hu];rcases hg with rfl|hg
    .rfl
    .rw [aEw (λh=>Aaa)];simp
   rw [R8 (m:=⟨mK,mF,mT,mI,mL,mk,mN⟩) hi rfl rfl hh hgb];rfl
  .subst ho
   have hgb:lS n n.seen[iH n.seen mF] ⟨mK,mF,mT,mI,mL,mk,mN⟩=true:=by
    unfold lS;dsimp only;rw [hu,aEy hg];rfl
   rw [Hf (m:=⟨mK,mF,mT,mI,mL,mk,mN⟩) hi rfl rfl hh hgb];dsimp only;rw [hu];rfl
theorem ND (hB:B<=w.heap.size) (h9:∀x,6 < c x->c x=9) (hkl:n.kids.length<=1048600) (hmk:mk.size<=1048576) (hmo:bJ ⟨mK,mF,mT,mI,mL,mk,mN⟩=true) (hz:eH n 1048576) (hP:∃g,A.p=some ⟨g,0,none⟩) (yI:n.pu.length<=A.cp) (hok:dQ n=true) (h1:mT=n.id) (h2:dU n mF=true) (h3:mK=1) (h:NQ w B n A G c):Calls prog 101 #[gP n A,.agg (bH mK mF mT mI mL mk mN)] w (fZ w B c ((takeN n ⟨mK,mF,mT,mI,mL,mk,mN⟩).1,if (takeN n ⟨mK,mF,mT,mI,mL,mk,mN⟩).2=true then[XY n ⟨mK,mF,mT,mI,mL,mk,mN⟩] else[],if (takeN n ⟨mK,mF,mT,mI,mL,mk,mN⟩).2=true then 0 else 1)):=by
 open avC in exact O9
def CY (n:Nd) (m:Mg):Nd×List Mg×Int:=if m.T=n.id/\dU n m.F=true then fF n m else(n,[],3)
theorem acL {n:Nd} (hok:dQ n=true):hasB n.kids n.par=false:=by
 have h1:=(bq hok).1;unfold dX at h1;simp only[aED] at h1;have h2:=zP h1.2;cases hh:hasB n.kids n.par
 .rfl
 .rw [zY] at hh;have:=h2 _ hh;unfold jZ at this;simp at this
theorem adB (hB:B<=w.heap.size) (h9:∀x,6 < c x->c x=9) (hz:eH n 1048576) (hmk:mk.size<=1048576) (hok:dQ n=true) (hmo:bJ ⟨mK,mF,mT,mI,mL,mk,mN⟩=true) (hP:∃g,A.p=some ⟨g,0,none⟩) (yI:n.pu.length<=A.cp) (h:NQ w B n A G c):
 Calls prog 101 #[gP n A,.agg (bH mK mF mT mI mL mk mN)] w (fZ w B c (CY n ⟨mK,mF,mT,mI,mL,mk,mN⟩)):=by
 have hkl:n.kids.length<=1048600:=aEA hz.k Aaa;have h0:0<=n.next:=by have h:=(bq hok).2.2.2.1;unfold fC at h;simp at h;omega
 by_cases h1:mT=n.id
 .cases h2:dU n mF
  .rw [show CY n ⟨mK,mF,mT,mI,mL,mk,mN⟩=(n,[],3) from aEG (λh=>by have:=h.2;dsimp only at this;rw [h2] at this;exact absurd this Aac)];exact Jq n A G c mK mF mT mI mL mk mN w B hB h9 hkl hmk hmo h1 h2 h
  .rw [show CY n ⟨mK,mF,mT,mI,mL,mk,mN⟩=fF n ⟨mK,mF,mT,mI,mL,mk,mN⟩ from aER ⟨h1,h2⟩];by_cases k1:mK=1
   .rw [show fF n ⟨mK,mF,mT,mI,mL,mk,mN⟩=_ from aER k1];exact ND n A G c mK mF mT mI mL mk mN w B hB h9 hkl hmk hmo hz hP yI hok h1 h2 k1 h
   by_cases k2:mK=2
   .rw [show fF n ⟨mK,mF,mT,mI,mL,mk,mN⟩=_ from(aEG k1).trans (aER k2)];have:=Jt n A G c mK mF mT mI mL mk mN w B hB h9 hkl hmk hmo hz.o h1 h2 k2 h;rw [k2] at this ⊢;exact this
   have k0:mK=0:=by
    unfold bJ at hmo;rw [aED] at hmo;have q:=hmo.2;dsimp only at q;by_cases k0:mK=0
    .exact k0
    .rw [aEG k0,aEG k1,aEG k2] at q;exact absurd q Aac
   by_cases h4:mF=n.par
   .rw [show fF n ⟨mK,mF,mT,mI,mL,mk,mN⟩=(n,[],1) from(aEG k1).trans ((aEG k2).trans (aEG (by dsimp only;rw [h4,acL hok];simp)))];exact RJ n A G c mK mF mT mI mL mk mN w B hB h9 hkl hmk hmo h1 h2 k0 h4 h
   .have hk:hasB n.kids mF=true:=by
     unfold dU at h2;rw [aEw h4,Bool.and_false,Bool.false_or] at h2;exact h2
    rw [show fF n ⟨mK,mF,mT,mI,mL,mk,mN⟩=_ from(aEG k1).trans ((aEG k2).trans (aER hk))];exact Js n A G c mK mF mT mI mL mk mN w B hB h9 hkl hmk hmo hz hP yI h0 h1 h2 k0 h4 h
 .rw [show CY n ⟨mK,mF,mT,mI,mL,mk,mN⟩=(n,[],3) from aEG (λh=>h1 h.1)];exact Jr n A G c mK mF mT mI mL mk mN w B hB h9 hkl hmk hmo h1 h
end Go.Proofs.YtfachhcijcjbpaaGreatDoor
