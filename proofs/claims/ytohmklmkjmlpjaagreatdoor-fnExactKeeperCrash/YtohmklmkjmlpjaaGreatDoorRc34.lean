/- Parts. -/
import Derived.Test.YtohmklmkjmlpjaaGreatDoorRc32
import Derived.Test.YtohmklmkjmlpjaaGreatDoorRc33
namespace Go.Proofs.YtohmklmkjmlpjaaGreatDoor
open Go.Proofs.Tryz
set_option maxHeartbeats 16000000
set_option maxRecDepth 100000
open Go.RowKit
open Mth
variable (n:Nd) (a_k ku fP gN gX:Option Addr) (bf dJ bJ bg bC:Nat) (G:aR) (c:Nat->Nat) (mK mF mT mI mL:Int) (mk:ByteArray) (mN:Int) (w:World) (B:Nat) {g sz gi x:Nat} {e:TypeId} {ids:List Int} {a:Option Addr} {I:Nat->Nat} {l:List Sn} {v:Value} {xs:List Value}
def vV (gi:Nat) (ids:List Int) (c:Nat->Nat):Nat->Nat:=λx=>if x∈fp gi ids then 5 else c x
theorem afe {c:Nat->Nat} (h:x∈fp gi ids):vV gi ids c x=5:=aGC h
theorem wE {c:Nat->Nat} (h:x∉fp gi ids):vV gi ids c x=c x:=aGr h
theorem pQ.store {w:World} (h:pQ w a g I l) (k:Nat) (hk:k < l.length) (s:Sn) (b:Option Addr) (cc gi:Nat) (hi:WO w b cc gi s.ids) (hg4:∀x∈nA I l,x≠g) (hgi:∀x∈fp gi s.ids,x≠g):
 pQ (GR.setW w g (k*3) [.int .i64 s.f,.int .i64 s.l,.slice b s.ids.length cc]) a g (tY I k gi) (l.set k s):=by
 obtain⟨⟨T,hT,hl,hr⟩,hy⟩:=h;have Sz:k < T.length:=Aaa
 have hkp:=aX (g:=g) [.int .i64 s.f,.int .i64 s.l,.slice b s.ids.length cc] w (k*3)
 refine⟨⟨T.set k ⟨s.f,s.l,.slice b s.ids.length cc⟩,GR.W.set bY hT k ⟨s.f,s.l,.slice b s.ids.length cc⟩ Sz,Aci,λi hi'=>?_⟩,λ_=>by
  obtain⟨cs,hc⟩:=hy Aaa
  exact⟨_,GR.setW_blk [.int .i64 s.f,.int .i64 s.l,.slice b s.ids.length cc] (o:=k*3) (xs:=cs.toList) (by simpa using hc)⟩⟩
 exact azJ
theorem NQ.seenPut {w:World} {B:Nat} {n:Nd} {A:bV} {G:aR} {c:Nat->Nat} (h:NQ w B n A G c) (k:Nat) (hk:k < n.seen.length) (s:Sn) (b:Option Addr) (cc gi:Nat) (hi:WO w b cc gi s.ids) (h9:∀x∈fp gi s.ids,c x=9):
 NQ (GR.setW w G.s (k*3) [.int .i64 s.f,.int .i64 s.l,.slice b s.ids.length cc]) B (dM n (n.seen.set k s)) A ⟨G.k,G.p,G.o,G.s,G.r,tY G.i k gi⟩ (vV gi s.ids c):=by
 have c4:c G.s=4:=h.c4 G.s (dX Aaa);have hkc:KC c 4 w (GR.setW w G.s (k*3) [.int .i64 s.f,.int .i64 s.l,.slice b s.ids.length cc]):=KC.setW _ c4;have hlen:(n.seen.set k s).length=n.seen.length:=aHU ..;have same:∀x,c x≠9->vV gi s.ids c x=c x:=λx hx=>wE (λhm=>hx (h9 x hm))
 have hSQ:pQ (GR.setW w G.s (k*3) [.int .i64 s.f,.int .i64 s.l,.slice b s.ids.length cc]) A.s G.s (tY G.i k gi) (n.seen.set k s):=by
  refine h.sq.store k hk s b cc gi hi (λx hx e=>?_) (λx hx e=>?_)
  .have:=h.ci x hx;rw [e,c4] at this;omega
  .have:=h9 x hx;rw [e,c4] at this;omega
 refine⟨⟨hkc.w h.k h.ck Aaa,hkc.w h.p h.cp Aaa,hkc.own h.o h.co Aaa,hSQ.w,hkc.own h.r h.cr Aaa,?_,?_,?_,?_,?_,?_,?_,?_⟩,hSQ⟩
 .intro x hx;have:=h.lo x hx;rw [same x Aaa];exact this
 .intro x hx;have:=h.ck x hx;rw [same x Aaa];exact this
 .intro x hx;have:=h.cp x hx;rw [same x Aaa];exact this
 .intro x hx;have:=h.co x hx;rw [same x Aaa];exact this
 .intro x hx;have hx':x∈fp G.s n.seen:=by rw [<-Me hlen];exact hx
  have:=h.c4 x hx';rw [same x Aaa];exact this
 .intro x hx;obtain⟨i,hi',rfl,hpos⟩:=qM hx;by_cases e:i=k
  .subst e
   have hpos':0 < s.ids.length:=by
    simp only[dM] at hpos;rw [aGO] at hpos;exact hpos
   have e:tY G.i i gi i=gi:=aGC rfl;show vV gi s.ids c (tY G.i i gi i)=5
   rw [e];exact afe (dX hpos')
  .have e':tY G.i k gi i=G.i i:=aGr e;show vV gi s.ids c (tY G.i k gi i)=5
   rw [e']
   have hpos':0 < (n.seen[i]'(by simpa [dM] using hi')).ids.length:=by
    simp only[dM] at hpos;rw [aGQ Aaa] at hpos;exact hpos
   have:=h.ci _ (jI (by simpa [dM] using hi') _ (dX hpos'));rw [same _ Aaa];exact this
 .intro x hx;have:=h.cr x hx;rw [same x Aaa];exact this
 .refine(qj _ _).2 (λi j hi' hj' hij h1 h2=>?_);have hni:=(qj _ _).1 h.ni;simp only[dM] at hi' hj' h1 h2;have hi2:i < n.seen.length:=by simpa using hi'
  have hj2:j < n.seen.length:=by simpa using hj'
  dsimp only[tY];by_cases e1:i=k
  .by_cases e2:j=k
   .omega
   .rw [aGC e1,aGr e2];subst e1;rw [aGO] at h1;rw [aGQ Aaa] at h2;intro e;have a1:=h9 gi (dX h1);have a2:=h.ci _ (jI hj2 _ (dX h2));rw [<-e] at a2;omega
  .rw [aGr e1];rw [aGQ Aaa] at h1;by_cases e2:j=k
   .rw [aGC e2];subst e2;rw [aGO] at h2;intro e;have a1:=h9 gi (dX h2);have a2:=h.ci _ (jI hi2 _ (dX h1));rw [e] at a2;omega
   .rw [aGr e2];rw [aGQ Aaa] at h2;exact hni i j hi2 hj2 hij h1 h2
def pR (s:Sn) (low:Int) (k:Nat):List Int:=(s.ids.take k).filter (λx=>decide (fK s low<=x))
theorem Ck (s:Sn) (low:Int):pR s low s.ids.length=aY s low:=by unfold pR aY;rw [aGL]
theorem Yz (s:Sn) (low:Int) (k:Nat) (hk:k < s.ids.length) (h:fK s low<=s.ids[k]):pR s low (k+1)=pR s low k++[s.ids[k]]:=by
 unfold pR;rw [aGt hk,List.filter_append,List.filter_cons_of_pos Abd];rfl
theorem acK (s:Sn) (low:Int) (k:Nat) (hk:k < s.ids.length) (h:¬fK s low<=s.ids[k]):pR s low (k+1)=pR s low k:=by
 unfold pR;rw [aGt hk,List.filter_append,List.filter_cons_of_neg Abd];simp
theorem Yy (s:Sn) (low:Int) (k:Nat):(pR s low k).length<=k:=by
 unfold pR;exact aGm (aH9 _ _) Abk
theorem Ec {w:World} {q:Nat} {B:Nat} {n:Nat} {o:Obj} (h:w.ownsRow B e sz v n xs):((w.drewN q).alloc o).ownsRow B e sz v n xs:=World.ownsRow.alloc (w:=w.drewN q) h o
theorem agC {α:Type} {en:α->List Value} {B:Nat} {w:World} {cp:Nat} {l:List α} (hs:∀x,(en x).length=sz) (h:w.ownsRow B e sz (.slice (some ⟨g,0,none⟩) l.length cp) l.length (GR.flat en l)):GR.W en sz w (some ⟨g,0,none⟩) g l:=λi hi=>by
 obtain⟨a,c',g',hv,hW,_,ho⟩:=GR.W.of_own hs h;simp only[aG4] at hv;obtain⟨rfl,_,_⟩:=hv;have hg:=ho g' (dX Aaa);simp[Value.ownBlock] at hg;subst hg;exact hW i hi
theorem TG {w W' W'':World} {c:Nat->Nat} {ab:Nat} {a0 a1 a2 a3 a4:Int} {a5:ByteArray} {a6:Int} (h:W'.heap[ab]?=some (.cells (bX a0 a1 a2 a3 a4 a5 a6) 98 (0,0))) (ho:Out c w W' W'') (hab:w.heap.size<=ab):GR.At mE 7 W'' (some ⟨ab,0,none⟩) [⟨a0,a1,a2,a3,a4,a5,a6⟩]:=λi hi=>by
 obtain⟨F,hk2,hF⟩:=ho;have hm2:=hk2.obj h (λhx=>by have:=(hF ab hx).1;omega);refine⟨ab,0,rfl,aA hm2,λj hj=>?_⟩;have hi0:i=0:=Abu
 subst hi0;have h1:=aGu W'' ab (0+(0*7+j)) _ _ (0,0) hm2;rw [h1];simp[mE]
theorem rJ (l:List Int):∀u∈GR.flat aS l,u.oneCell'=true:=GR.flat_oneCell (λy u hu=>by simp at hu;subst hu;rfl) l
theorem ady {w w':World} {F:List Nat} {B:Nat} {n:Nat} (h:w.ownsRow B e sz v n xs) (hk:aC F w w') (hF:∀x,v.ownBlock=some x->x∉F):w'.ownsRow B e sz v n xs:=by
 refine⟨h.1,?_⟩;rcases h.2 with hn|⟨g,cap,cur,rfl,hb,hgg,rest⟩
 .exact .inl hn
 .exact .inr ⟨g,cap,cur,rfl,hb,hk.obj hgg (hF g rfl),rest⟩
theorem aBt (l:List Int) (p:Int->Bool):(l.takeWhile p).length<=l.length:=(List.takeWhile_prefix p).length_le
theorem acU (l:List Int) (x:Int):lX l x=l.take (l.takeWhile (λy=>decide (y < x))).length++([x]++l.drop (l.takeWhile (λy=>decide (y < x))).length):=by
 have h:=aHT (p:=λy=>decide (y < x)) (l:=l);unfold lX;generalize l.takeWhile (λy=>decide (y < x))=a at *;generalize l.dropWhile (λy=>decide (y < x))=b at *;subst h;simp
theorem ad6 {x:Int}:∀{l:List Int} {j:Nat},j<=l.length->(∀i (hi:i < l.length),i < j->l[i] < x)->(∀hj:j < l.length,¬l[j] < x)->(l.takeWhile (λy=>decide (y < x))).length=j:=by
 intro l;induction l with
 |nil=>intro j hj _ _;simp at hj;simp[hj]
 |cons a l ih=>
  intro j hj h1 h2;cases j with
  |zero=>
   have:=h2 Aac;rw [List.takeWhile_cons_of_neg (by simpa using this)];rfl
  |succ j=>
   have h0:=h1 0 Aac Aaa;rw [aH7 (by simpa using h0),aHt,ih Aav (λi hi hij=>h1 (i+1) Aao Aaa) (λhj'=>h2 (by simpa using hj'))]
theorem CU {w:World} {v0 v1 v2:Value} {t:TypeId} (h:w.heap[g]?=some (.cells #[v0,v1,v2] t (0,0))):w.cell? ⟨g,0,none⟩=some v0/\w.cell? ⟨g,1,none⟩=some v1/\w.cell? ⟨g,2,none⟩=some v2:=
 ⟨by rw [aGu w g _ _ t (0,0) h];rfl,by rw [aGu w g _ _ t (0,0) h];rfl,by rw [aGu w g _ _ t (0,0) h];rfl⟩
theorem adw {w:World} (h:eF w a g I l) (hl:0 < l.length):g < w.heap.size:=by
 obtain⟨b,c,_,hg,_⟩:=eF.three h 0 hl;exact hg
theorem NV (hB:B<=w.heap.size) (h9:∀x,6 < c x->c x=9) (i:Nat) (hi:i < n.seen.length) (s0:Sn) (hs0:n.seen[i]=s0) (hfi:s0.f=mF) (hbef:∀x (hx:x < n.seen.length),x < i->n.seen[x].f≠mF) (hsl:n.seen.length<=1000) (hil:s0.ids.length<=1000) (hhas:sV s0 mL mI=true) (h:NQ w B n (⟨a_k,ku,fP,gN,gX,bf,dJ,bJ,bg,bC⟩:bV) G c):Calls prog 150 #[gP n (⟨a_k,ku,fP,gN,gX,bf,dJ,bJ,bg,bC⟩:bV),.agg (bX mK mF mT mI mL mk mN)] w (gJ w B c (dM n (n.seen.set i ⟨mF,fK s0 mL,aY s0 mL⟩),[⟨2,n.id,mF,mI,0,ByteArray.empty,0⟩],0)):=by
 open av1 in exact ahy
theorem RI (hB:B<=w.heap.size) (h9:∀x,6 < c x->c x=9) (i:Nat) (hi:i < n.seen.length) (s0:Sn) (hs0:n.seen[i]=s0) (hfi:s0.f=mF) (hbef:∀x (hx:x < n.seen.length),x < i->n.seen[x].f≠mF) (hsl:n.seen.length<=1000) (hil:s0.ids.length<=1000) (hz:eG n 1048576) (hmk:mk.size<=1048576) (hP:∃g,ku=some ⟨g,0,none⟩) (xR:n.pu.length<=dJ) (RL:List Pu) (ok:Bool) (hu:dK n.pu mk 0 1 0 mN=(RL,ok)) (hhas:sV s0 mL mI=false) (hgn:ok=false\/40<=(aY s0 mL).length) (h:NQ w B n (⟨a_k,ku,fP,gN,gX,bf,dJ,bJ,bg,bC⟩:bV) G c):Calls prog 150 #[gP n (⟨a_k,ku,fP,gN,gX,bf,dJ,bJ,bg,bC⟩:bV),.agg (bX mK mF mT mI mL mk mN)] w (gJ w B c (dM n (n.seen.set i ⟨mF,fK s0 mL,aY s0 mL⟩),[],1)):=by
 open aor in exact ayq
theorem Jy (hB:B<=w.heap.size) (h9:∀x,6 < c x->c x=9) (i:Nat) (hi:i < n.seen.length) (s0:Sn) (hs0:n.seen[i]=s0) (hfi:s0.f=mF) (hbef:∀x (hx:x < n.seen.length),x < i->n.seen[x].f≠mF) (hsl:n.seen.length<=1000) (hil:s0.ids.length<=1000) (hz:eG n 1048576) (hmk:mk.size<=1048576) (hP:∃g,ku=some ⟨g,0,none⟩) (xR:n.pu.length<=dJ) (RL:List Pu) (hu:dK n.pu mk 0 1 0 mN=(RL,true)) (hhas:sV s0 mL mI=false) (hgn:(aY s0 mL).length < 40) (h:NQ w B n (⟨a_k,ku,fP,gN,gX,bf,dJ,bJ,bg,bC⟩:bV) G c):Calls prog 150 #[gP n (⟨a_k,ku,fP,gN,gX,bf,dJ,bJ,bg,bC⟩:bV),.agg (bX mK mF mT mI mL mk mN)] w (gJ w B c (dM (setPu n RL) (n.seen.set i ⟨mF,fK s0 mL,lX (aY s0 mL) mI⟩),[⟨2,n.id,mF,mI,0,ByteArray.empty,0⟩],0)):=by
 open aoq in exact ayq
theorem adT (n:Nd) (A:bV) (G:aR) (c:Nat->Nat) (mK mF mT mI mL:Int) (mk:ByteArray) (mN:Int) (w:World) (B:Nat) (hB:B<=w.heap.size) (h9:∀x,6 < c x->c x=9) (hz:eG n 1048576) (hmk:mk.size<=1048576) (hP:∃g,A.p=some ⟨g,0,none⟩) (xR:n.pu.length<=A.cp) (hok:eH n=true) (hF:eD n mF=true) (h:NQ w B n A G c):
 Calls prog 150 #[gP n A,.agg (bX mK mF mT mI mL mk mN)] w
  (gJ w B c ((takeN n ⟨mK,mF,mT,mI,mL,mk,mN⟩).1,if (takeN n ⟨mK,mF,mT,mI,mL,mk,mN⟩).2=true then[XZ n ⟨mK,mF,mT,mI,mL,mk,mN⟩] else[],if (takeN n ⟨mK,mF,mT,mI,mL,mk,mN⟩).2=true then 0 else 1)):=by
 obtain⟨hi,hif⟩:=Gq hok hF;have hsn:=AV hok _ (aGz hi)
 have hsl:n.seen.length<=1000:=by
  exact azY
 have hil:n.seen[iJ n.seen mF].ids.length<=1000:=by
  unfold wu at hsn;simp only[aGl,aGy] at hsn;omega
 have hbef:∀x (hx:x < n.seen.length),x < iJ n.seen mF->n.seen[x].f≠mF:=λx hx hlt=>by
  have:=List.not_of_lt_findIdx (p:=λs:Sn=>decide (s.f=mF)) (xs:=n.seen) hlt
  simpa using this
 obtain⟨ak,ap,ao,as',ar,ck,cp,co,cs,cr⟩:=A;cases hh:sV n.seen[iJ n.seen mF] mL mI
 .cases hu:dK n.pu mk 0 1 0 mN with
  |mk RL ok=>
   by_cases hg:ok=true/\(aY n.seen[iJ n.seen mF] mL).length < 40
   .have hgb:mG n n.seen[iJ n.seen mF] ⟨mK,mF,mT,mI,mL,mk,mN⟩=true:=by
     unfold mG;dsimp only;rw [hu,hg.1,aGk hg.2];rfl
    rw [GZ (m:=⟨mK,mF,mT,mI,mL,mk,mN⟩) hi rfl rfl hh hgb];obtain⟨rfl,hg2⟩:=hg;have hres:=Jy n ak ap ao as' ar ck cp co cs cr G c mK mF mT mI mL mk mN w B hB h9 _ hi _ rfl hif hbef hsl hil hz hmk hP xR RL hu hh hg2 h;dsimp only;rw [hu];exact hres
   .have hgb:mG n n.seen[iJ n.seen mF] ⟨mK,mF,mT,mI,mL,mk,mN⟩=false:=by
     unfold mG;dsimp only;rw [hu];cases ok
     .rfl
     .rw [aGi (λh=>hg ⟨rfl,h⟩)];rfl
    rw [RY (m:=⟨mK,mF,mT,mI,mL,mk,mN⟩) hi rfl rfl hh hgb]
    exact RI n ak ap ao as' ar ck cp co cs cr G c mK mF mT mI mL mk mN w B hB h9 _ hi _ rfl hif hbef hsl hil hz hmk hP xR RL ok hu hh (by
     cases ok
     .exact .inl rfl
     .exact .inr (by have:¬(aY n.seen[iJ n.seen mF] mL).length < 40:=λh=>hg ⟨rfl,h⟩;omega)) h
 .rw [Ld (m:=⟨mK,mF,mT,mI,mL,mk,mN⟩) hi rfl rfl hh];exact NV n ak ap ao as' ar ck cp co cs cr G c mK mF mT mI mL mk mN w B hB h9 _ hi _ rfl hif hbef hsl hil hh h
theorem ND (n:Nd) (A:bV) (G:aR) (c:Nat->Nat) (mK mF mT mI mL:Int) (mk:ByteArray) (mN:Int) (w:World) (B:Nat) (hB:B<=w.heap.size) (h9:∀x,6 < c x->c x=9) (hkl:n.kids.length<=1048600) (hmk:mk.size<=1048576) (hmo:cZ ⟨mK,mF,mT,mI,mL,mk,mN⟩=true) (hz:eG n 1048576) (hP:∃g,A.p=some ⟨g,0,none⟩) (xR:n.pu.length<=A.cp) (hok:eH n=true) (h1:mT=n.id) (h2:eD n mF=true) (h3:mK=1) (h:NQ w B n A G c):Calls prog 110 #[gP n A,.agg (bX mK mF mT mI mL mk mN)] w (gJ w B c ((takeN n ⟨mK,mF,mT,mI,mL,mk,mN⟩).1,if (takeN n ⟨mK,mF,mT,mI,mL,mk,mN⟩).2=true then[XZ n ⟨mK,mF,mT,mI,mL,mk,mN⟩] else[],if (takeN n ⟨mK,mF,mT,mI,mL,mk,mN⟩).2=true then 0 else 1)):=by
 open axQ in exact O3
def CZ (n:Nd) (m:Mg):Nd×List Mg×Int:=if m.T=n.id/\eD n m.F=true then fT n m else(n,[],3)
theorem ac3 {n:Nd} (hok:eH n=true):hasB n.kids n.par=false:=by
 have h1:=(bZ hok).1;unfold eO at h1;simp only[aGl] at h1;have h2:=zR h1.2;cases hh:hasB n.kids n.par
 .rfl
 .rw [zZ] at hh;have:=h2 _ hh;unfold kW at this;simp at this
theorem adQ (n:Nd) (A:bV) (G:aR) (c:Nat->Nat) (mK mF mT mI mL:Int) (mk:ByteArray) (mN:Int) (w:World) (B:Nat) (hB:B<=w.heap.size) (h9:∀x,6 < c x->c x=9) (hz:eG n 1048576) (hmk:mk.size<=1048576) (hok:eH n=true) (hmo:cZ ⟨mK,mF,mT,mI,mL,mk,mN⟩=true) (hP:∃g,A.p=some ⟨g,0,none⟩) (xR:n.pu.length<=A.cp) (h:NQ w B n A G c):
 Calls prog 110 #[gP n A,.agg (bX mK mF mT mI mL mk mN)] w (gJ w B c (CZ n ⟨mK,mF,mT,mI,mL,mk,mN⟩)):=by
 have hkl:n.kids.length<=1048600:=aGm hz.k Aaa;have h0:0<=n.next:=by have h:=(bZ hok).2.2.2.1;unfold fO at h;simp at h;omega
 by_cases h1:mT=n.id
 .cases h2:eD n mF
  .rw [show CZ n ⟨mK,mF,mT,mI,mL,mk,mN⟩=(n,[],3) from aGr (λh=>by have:=h.2;dsimp only at this;rw [h2] at this;exact absurd this Aac)];exact Jg n A G c mK mF mT mI mL mk mN w B hB h9 hkl hmk hmo h1 h2 h
  .rw [show CZ n ⟨mK,mF,mT,mI,mL,mk,mN⟩=fT n ⟨mK,mF,mT,mI,mL,mk,mN⟩ from aGC ⟨h1,h2⟩];by_cases k1:mK=1
   .rw [show fT n ⟨mK,mF,mT,mI,mL,mk,mN⟩=_ from aGC k1];exact ND n A G c mK mF mT mI mL mk mN w B hB h9 hkl hmk hmo hz hP xR hok h1 h2 k1 h
   by_cases k2:mK=2
   .rw [show fT n ⟨mK,mF,mT,mI,mL,mk,mN⟩=_ from(aGr k1).trans (aGC k2)];have:=Jj n A G c mK mF mT mI mL mk mN w B hB h9 hkl hmk hmo hz.o h1 h2 k2 h;rw [k2] at this ⊢;exact this
   have k0:mK=0:=by
    unfold cZ at hmo;rw [aGl] at hmo;have q:=hmo.2;dsimp only at q;by_cases k0:mK=0
    .exact k0
    .rw [aGr k0,aGr k1,aGr k2] at q;exact absurd q Aac
   by_cases h4:mF=n.par
   .rw [show fT n ⟨mK,mF,mT,mI,mL,mk,mN⟩=(n,[],1) from(aGr k1).trans ((aGr k2).trans (aGr (by dsimp only;rw [h4,ac3 hok];simp)))];exact Rx n A G c mK mF mT mI mL mk mN w B hB h9 hkl hmk hmo h1 h2 k0 h4 h
   .have hk:hasB n.kids mF=true:=by
     unfold eD at h2;rw [aGi h4,Bool.and_false,Bool.false_or] at h2;exact h2
    rw [show fT n ⟨mK,mF,mT,mI,mL,mk,mN⟩=_ from(aGr k1).trans ((aGr k2).trans (aGC hk))];exact Ji n A G c mK mF mT mI mL mk mN w B hB h9 hkl hmk hmo hz hP xR h0 h1 h2 k0 h4 h
 .rw [show CZ n ⟨mK,mF,mT,mI,mL,mk,mN⟩=(n,[],3) from aGr (λh=>h1 h.1)];exact Jh n A G c mK mF mT mI mL mk mN w B hB h9 hkl hmk hmo h1 h
end Go.Proofs.YtohmklmkjmlpjaaGreatDoor
