/- Parts. -/
import Derived.Test.YtohmklmkjmlpjaaGreatDoorRk32
import Derived.Test.YtohmklmkjmlpjaaGreatDoorRk33
namespace Go.Proofs.YtohmklmkjmlpjaaGreatDoor
open Go.Proofs.Tryz
set_option maxHeartbeats 16000000
set_option maxRecDepth 100000
open Go.RowKit
open Mth
variable (n:Nd) (a_k jH fH gG gM:Option Addr) (aY dH bE aZ bg:Nat) (G:aX) (c:Nat->Nat) (mK mF mT mI mL:Int) (mk:ByteArray) (mN:Int) (w:World) (B:Nat) {g sz gi x:Nat} {e:TypeId} {ids:List Int} {a:Option Addr} {I:Nat->Nat} {l:List Sn} {v:Value} {xs:List Value}
def uP (gi:Nat) (ids:List Int) (c:Nat->Nat):Nat->Nat:=λx=>if x∈fp gi ids then 5 else c x
theorem aed {c:Nat->Nat} (h:x∈fp gi ids):uP gi ids c x=5:=if_pos h
theorem uY {c:Nat->Nat} (h:x∉fp gi ids):uP gi ids c x=c x:=if_neg h
theorem oq.store {w:World} (h:oq w a g I l) (k:Nat) (hk:k < l.length) (s:Sn) (b:Option Addr) (cc gi:Nat) (hi:WO w b cc gi s.ids) (hg4:∀x∈wO I l,x≠g) (hgi:∀x∈fp gi s.ids,x≠g):
 oq (GR.setW w g (k*3) [.int .i64 s.f,.int .i64 s.l,.slice b s.ids.length cc]) a g (su I k gi) (l.set k s):=by
 obtain⟨⟨T,hT,hl,hr⟩,hy⟩:=h;have hkT:k < T.length:=Aaa
 have hkp:=aT (g:=g) [.int .i64 s.f,.int .i64 s.l,.slice b s.ids.length cc] w (k*3)
 refine⟨⟨T.set k ⟨s.f,s.l,.slice b s.ids.length cc⟩,GR.W.set dK hT k ⟨s.f,s.l,.slice b s.ids.length cc⟩ hkT,by simpa using hl,λi hi'=>?_⟩,λ_=>by
  obtain⟨cs,hc⟩:=hy Aaa
  exact⟨_,GR.setW_blk [.int .i64 s.f,.int .i64 s.l,.slice b s.ids.length cc] (o:=k*3) (xs:=cs.toList) (by simpa using hc)⟩⟩
 exact axu
theorem NQ.seenPut {w:World} {B:Nat} {n:Nd} {A:bQ} {G:aX} {c:Nat->Nat} (h:NQ w B n A G c) (k:Nat) (hk:k < n.seen.length) (s:Sn) (b:Option Addr) (cc gi:Nat) (hi:WO w b cc gi s.ids) (h9:∀x∈fp gi s.ids,c x=9):
 NQ (GR.setW w G.s (k*3) [.int .i64 s.f,.int .i64 s.l,.slice b s.ids.length cc]) B (dM n (n.seen.set k s)) A ⟨G.k,G.p,G.o,G.s,G.r,su G.i k gi⟩ (uP gi s.ids c):=by
 have c4:c G.s=4:=h.c4 G.s (eu Aaa);have hkc:KC c 4 w (GR.setW w G.s (k*3) [.int .i64 s.f,.int .i64 s.l,.slice b s.ids.length cc]):=KC.setW _ c4;have hlen:(n.seen.set k s).length=n.seen.length:=List.length_set ..;have same:∀x,c x≠9->uP gi s.ids c x=c x:=λx hx=>uY (λhm=>hx (h9 x hm))
 have hSQ:oq (GR.setW w G.s (k*3) [.int .i64 s.f,.int .i64 s.l,.slice b s.ids.length cc]) A.s G.s (su G.i k gi) (n.seen.set k s):=by
  refine h.sq.store k hk s b cc gi hi (λx hx e=>?_) (λx hx e=>?_)
  .have:=h.ci x hx;rw [e,c4] at this;omega
  .have:=h9 x hx;rw [e,c4] at this;omega
 refine⟨⟨hkc.w h.k h.ck Aaa,hkc.w h.p h.cp Aaa,hkc.own h.o h.co Aaa,hSQ.w,hkc.own h.r h.cr Aaa,?_,?_,?_,?_,?_,?_,?_,?_⟩,hSQ⟩
 .intro x hx;have:=h.lo x hx;rw [same x Aaa];exact this
 .intro x hx;have:=h.ck x hx;rw [same x Aaa];exact this
 .intro x hx;have:=h.cp x hx;rw [same x Aaa];exact this
 .intro x hx;have:=h.co x hx;rw [same x Aaa];exact this
 .intro x hx;have hx':x∈fp G.s n.seen:=by rw [<-akc hlen];exact hx
  have:=h.c4 x hx';rw [same x Aaa];exact this
 .intro x hx;obtain⟨i,hi',rfl,hpos⟩:=uh hx;by_cases e:i=k
  .subst e
   have hpos':0 < s.ids.length:=by
    simp only[dM] at hpos;rw [List.getElem_set_self] at hpos;exact hpos
   have e:su G.i i gi i=gi:=if_pos rfl;show uP gi s.ids c (su G.i i gi i)=5
   rw [e];exact aed (eu hpos')
  .have e':su G.i k gi i=G.i i:=if_neg e;show uP gi s.ids c (su G.i k gi i)=5
   rw [e']
   have hpos':0 < (n.seen[i]'(by simpa [dM] using hi')).ids.length:=by
    simp only[dM] at hpos;rw [List.getElem_set_ne Aaa] at hpos;exact hpos
   have:=h.ci _ (lM (by simpa [dM] using hi') _ (eu hpos'));rw [same _ Aaa];exact this
 .intro x hx;have:=h.cr x hx;rw [same x Aaa];exact this
 .refine(oL _ _).2 (λi j hi' hj' hij h1 h2=>?_);have hni:=(oL _ _).1 h.ni;simp only[dM] at hi' hj' h1 h2;have hi2:i < n.seen.length:=by simpa using hi'
  have hj2:j < n.seen.length:=by simpa using hj'
  dsimp only[su];by_cases e1:i=k
  .by_cases e2:j=k
   .omega
   .rw [if_pos e1,if_neg e2];subst e1;rw [List.getElem_set_self] at h1;rw [List.getElem_set_ne Aaa] at h2;intro e;have a1:=h9 gi (eu h1);have a2:=h.ci _ (lM hj2 _ (eu h2));rw [<-e] at a2;omega
  .rw [if_neg e1];rw [List.getElem_set_ne Aaa] at h1;by_cases e2:j=k
   .rw [if_pos e2];subst e2;rw [List.getElem_set_self] at h2;intro e;have a1:=h9 gi (eu h2);have a2:=h.ci _ (lM hi2 _ (eu h1));rw [e] at a2;omega
   .rw [if_neg e2];rw [List.getElem_set_ne Aaa] at h2;exact hni i j hi2 hj2 hij h1 h2
def ou (s:Sn) (low:Int) (k:Nat):List Int:=(s.ids.take k).filter (λx=>decide (fE s low<=x))
theorem Bj (s:Sn) (low:Int):ou s low s.ids.length=aV s low:=by unfold ou aV;rw [List.take_length]
theorem Xi (s:Sn) (low:Int) (k:Nat) (hk:k < s.ids.length) (h:fE s low<=s.ids[k]):ou s low (k+1)=ou s low k++[s.ids[k]]:=by
 unfold ou;rw [List.take_succ_eq_append_getElem hk,List.filter_append,List.filter_cons_of_pos Abc];rfl
theorem abE (s:Sn) (low:Int) (k:Nat) (hk:k < s.ids.length) (h:¬fE s low<=s.ids[k]):ou s low (k+1)=ou s low k:=by
 unfold ou;rw [List.take_succ_eq_append_getElem hk,List.filter_append,List.filter_cons_of_neg Abc];simp
theorem Xh (s:Sn) (low:Int) (k:Nat):(ou s low k).length<=k:=by
 unfold ou;exact Nat.le_trans (List.length_filter_le _ _) Abj
theorem Dg {w:World} {q:Nat} {B:Nat} {n:Nat} {o:Obj} (h:w.ownsRow B e sz v n xs):((w.drewN q).alloc o).ownsRow B e sz v n xs:=World.ownsRow.alloc (w:=w.drewN q) h o
theorem afy {α:Type} {en:α->List Value} {B:Nat} {w:World} {cp:Nat} {l:List α} (hs:∀x,(en x).length=sz) (h:w.ownsRow B e sz (.slice (some ⟨g,0,none⟩) l.length cp) l.length (GR.flat en l)):GR.W en sz w (some ⟨g,0,none⟩) g l:=λi hi=>by
 obtain⟨a,c',g',hv,hW,_,ho⟩:=GR.W.of_own hs h;simp only[Value.slice.injEq] at hv;obtain⟨rfl,_,_⟩:=hv;have hg:=ho g' (eu Aaa);simp[Value.ownBlock] at hg;subst hg;exact hW i hi
theorem Sb {w W' W'':World} {c:Nat->Nat} {ab:Nat} {a0 a1 a2 a3 a4:Int} {a5:ByteArray} {a6:Int} (h:W'.heap[ab]?=some (.cells (bV a0 a1 a2 a3 a4 a5 a6) 98 (0,0))) (ho:Out c w W' W'') (hab:w.heap.size<=ab):GR.At lK 7 W'' (some ⟨ab,0,none⟩) [⟨a0,a1,a2,a3,a4,a5,a6⟩]:=λi hi=>by
 obtain⟨F,hk2,hF⟩:=ho;have hm2:=hk2.obj h (λhx=>by have:=(hF ab hx).1;omega);refine⟨ab,0,rfl,aA hm2,λj hj=>?_⟩;have hi0:i=0:=Abw
 subst hi0;have h1:=cell_of_row W'' ab (0+(0*7+j)) _ _ (0,0) hm2;rw [h1];simp[lK]
theorem qG (l:List Int):∀u∈GR.flat aU l,u.oneCell'=true:=GR.flat_oneCell (λy u hu=>by simp at hu;subst hu;rfl) l
theorem acr {w w':World} {F:List Nat} {B:Nat} {n:Nat} (h:w.ownsRow B e sz v n xs) (hk:aC F w w') (hF:∀x,v.ownBlock=some x->x∉F):w'.ownsRow B e sz v n xs:=by
 refine⟨h.1,?_⟩;rcases h.2 with hn|⟨g,cap,cur,rfl,hb,hgg,rest⟩
 .exact .inl hn
 .exact .inr ⟨g,cap,cur,rfl,hb,hk.obj hgg (hF g rfl),rest⟩
theorem azq (l:List Int) (p:Int->Bool):(l.takeWhile p).length<=l.length:=(List.takeWhile_prefix p).length_le
theorem abP (l:List Int) (x:Int):lD l x=l.take (l.takeWhile (λy=>decide (y < x))).length++([x]++l.drop (l.takeWhile (λy=>decide (y < x))).length):=by
 have h:=List.takeWhile_append_dropWhile (p:=λy=>decide (y < x)) (l:=l);unfold lD;generalize l.takeWhile (λy=>decide (y < x))=a at *;generalize l.dropWhile (λy=>decide (y < x))=b at *;subst h;simp
theorem ac3 {x:Int}:∀{l:List Int} {j:Nat},j<=l.length->(∀i (hi:i < l.length),i < j->l[i] < x)->(∀hj:j < l.length,¬l[j] < x)->(l.takeWhile (λy=>decide (y < x))).length=j:=by
 intro l;induction l with
 |nil=>intro j hj _ _;simp at hj;simp[hj]
 |cons a l ih=>
  intro j hj h1 h2;cases j with
  |zero=>
   have:=h2 Aac;rw [List.takeWhile_cons_of_neg (by simpa using this)];rfl
  |succ j=>
   have h0:=h1 0 Aac Aaa;rw [List.takeWhile_cons_of_pos (by simpa using h0),List.length_cons,ih Abf (λi hi hij=>h1 (i+1) Aap Aaa) (λhj'=>h2 (by simpa using hj'))]
theorem BQ {w:World} {v0 v1 v2:Value} {t:TypeId} (h:w.heap[g]?=some (.cells #[v0,v1,v2] t (0,0))):w.cell? ⟨g,0,none⟩=some v0/\w.cell? ⟨g,1,none⟩=some v1/\w.cell? ⟨g,2,none⟩=some v2:=
 ⟨by rw [cell_of_row w g _ _ t (0,0) h];rfl,by rw [cell_of_row w g _ _ t (0,0) h];rfl,by rw [cell_of_row w g _ _ t (0,0) h];rfl⟩
theorem aco {w:World} (h:iL w a g I l) (hl:0 < l.length):g < w.heap.size:=by
 obtain⟨b,c,_,hg,_⟩:=iL.three h 0 hl;exact hg
theorem MF (hB:B<=w.heap.size) (h9:∀x,6 < c x->c x=9) (i:Nat) (hi:i < n.seen.length) (s0:Sn) (hs0:n.seen[i]=s0) (hfi:s0.f=mF) (hbef:∀x (hx:x < n.seen.length),x < i->n.seen[x].f≠mF) (hsl:n.seen.length<=1000) (hil:s0.ids.length<=1000) (hhas:rF s0 mL mI=true) (h:NQ w B n (⟨a_k,jH,fH,gG,gM,aY,dH,bE,aZ,bg⟩:bQ) G c):Calls prog 150 #[gB n (⟨a_k,jH,fH,gG,gM,aY,dH,bE,aZ,bg⟩:bQ),.agg (bV mK mF mT mI mL mk mN)] w (gD w B c (dM n (n.seen.set i ⟨mF,fE s0 mL,aV s0 mL⟩),[⟨2,n.id,mF,mI,0,ByteArray.empty,0⟩],0)):=by
 open atU in exact ags
theorem QM (hB:B<=w.heap.size) (h9:∀x,6 < c x->c x=9) (i:Nat) (hi:i < n.seen.length) (s0:Sn) (hs0:n.seen[i]=s0) (hfi:s0.f=mF) (hbef:∀x (hx:x < n.seen.length),x < i->n.seen[x].f≠mF) (hsl:n.seen.length<=1000) (hil:s0.ids.length<=1000) (hz:eU n 1048576) (hmk:mk.size<=1048576) (hP:∃g,jH=some ⟨g,0,none⟩) (wP:n.pu.length<=dH) (RL:List Pu) (ok:Bool) (hu:dJ n.pu mk 0 1 0 mN=(RL,ok)) (hhas:rF s0 mL mI=false) (hgn:ok=false\/40<=(aV s0 mL).length) (h:NQ w B n (⟨a_k,jH,fH,gG,gM,aY,dH,bE,aZ,bg⟩:bQ) G c):Calls prog 150 #[gB n (⟨a_k,jH,fH,gG,gM,aY,dH,bE,aZ,bg⟩:bQ),.agg (bV mK mF mT mI mL mk mN)] w (gD w B c (dM n (n.seen.set i ⟨mF,fE s0 mL,aV s0 mL⟩),[],1)):=by
 open amS in exact awg
theorem IG (hB:B<=w.heap.size) (h9:∀x,6 < c x->c x=9) (i:Nat) (hi:i < n.seen.length) (s0:Sn) (hs0:n.seen[i]=s0) (hfi:s0.f=mF) (hbef:∀x (hx:x < n.seen.length),x < i->n.seen[x].f≠mF) (hsl:n.seen.length<=1000) (hil:s0.ids.length<=1000) (hz:eU n 1048576) (hmk:mk.size<=1048576) (hP:∃g,jH=some ⟨g,0,none⟩) (wP:n.pu.length<=dH) (RL:List Pu) (hu:dJ n.pu mk 0 1 0 mN=(RL,true)) (hhas:rF s0 mL mI=false) (hgn:(aV s0 mL).length < 40) (h:NQ w B n (⟨a_k,jH,fH,gG,gM,aY,dH,bE,aZ,bg⟩:bQ) G c):Calls prog 150 #[gB n (⟨a_k,jH,fH,gG,gM,aY,dH,bE,aZ,bg⟩:bQ),.agg (bV mK mF mT mI mL mk mN)] w (gD w B c (dM (setPu n RL) (n.seen.set i ⟨mF,fE s0 mL,lD (aV s0 mL) mI⟩),[⟨2,n.id,mF,mI,0,ByteArray.empty,0⟩],0)):=by
 open amR in exact awg
theorem acQ (n:Nd) (A:bQ) (G:aX) (c:Nat->Nat) (mK mF mT mI mL:Int) (mk:ByteArray) (mN:Int) (w:World) (B:Nat) (hB:B<=w.heap.size) (h9:∀x,6 < c x->c x=9) (hz:eU n 1048576) (hmk:mk.size<=1048576) (hP:∃g,A.p=some ⟨g,0,none⟩) (wP:n.pu.length<=A.cp) (hok:dW n=true) (hF:dZ n mF=true) (h:NQ w B n A G c):
 Calls prog 150 #[gB n A,.agg (bV mK mF mT mI mL mk mN)] w
  (gD w B c ((takeN n ⟨mK,mF,mT,mI,mL,mk,mN⟩).1,if (takeN n ⟨mK,mF,mT,mI,mL,mk,mN⟩).2=true then[Wx n ⟨mK,mF,mT,mI,mL,mk,mN⟩] else[],if (takeN n ⟨mK,mF,mT,mI,mL,mk,mN⟩).2=true then 0 else 1)):=by
 obtain⟨hi,hif⟩:=Fv hok hF;have hsn:=zX hok _ (List.getElem_mem hi)
 have hsl:n.seen.length<=1000:=by
  exact axJ
 have hil:n.seen[iA n.seen mF].ids.length<=1000:=by
  unfold uU at hsn;simp only[Bool.and_eq_true,decide_eq_true_eq] at hsn;omega
 have hbef:∀x (hx:x < n.seen.length),x < iA n.seen mF->n.seen[x].f≠mF:=λx hx hlt=>by
  have:=List.not_of_lt_findIdx (p:=λs:Sn=>decide (s.f=mF)) (xs:=n.seen) hlt
  simpa using this
 obtain⟨ak,ap,ao,as',ar,ck,cp,co,cs,cr⟩:=A;cases hh:rF n.seen[iA n.seen mF] mL mI
 .cases hu:dJ n.pu mk 0 1 0 mN with
  |mk RL ok=>
   by_cases hg:ok=true/\(aV n.seen[iA n.seen mF] mL).length < 40
   .have hgb:lN n n.seen[iA n.seen mF] ⟨mK,mF,mT,mI,mL,mk,mN⟩=true:=by
     unfold lN;dsimp only;rw [hu,hg.1,decide_eq_true hg.2];rfl
    rw [FX (m:=⟨mK,mF,mT,mI,mL,mk,mN⟩) hi rfl rfl hh hgb];obtain⟨rfl,hg2⟩:=hg;have hres:=IG n ak ap ao as' ar ck cp co cs cr G c mK mF mT mI mL mk mN w B hB h9 _ hi _ rfl hif hbef hsl hil hz hmk hP wP RL hu hh hg2 h;dsimp only;rw [hu];exact hres
   .have hgb:lN n n.seen[iA n.seen mF] ⟨mK,mF,mT,mI,mL,mk,mN⟩=false:=by
     unfold lN;dsimp only;rw [hu];cases ok
     .rfl
     .rw [decide_eq_false (λh=>hg ⟨rfl,h⟩)];rfl
    rw [QS (m:=⟨mK,mF,mT,mI,mL,mk,mN⟩) hi rfl rfl hh hgb]
    exact QM n ak ap ao as' ar ck cp co cs cr G c mK mF mT mI mL mk mN w B hB h9 _ hi _ rfl hif hbef hsl hil hz hmk hP wP RL ok hu hh (by
     cases ok
     .exact .inl rfl
     .exact .inr (by have:¬(aV n.seen[iA n.seen mF] mL).length < 40:=λh=>hg ⟨rfl,h⟩;omega)) h
 .rw [J2 (m:=⟨mK,mF,mT,mI,mL,mk,mN⟩) hi rfl rfl hh];exact MF n ak ap ao as' ar ck cp co cs cr G c mK mF mT mI mL mk mN w B hB h9 _ hi _ rfl hif hbef hsl hil hh h
theorem Mr (n:Nd) (A:bQ) (G:aX) (c:Nat->Nat) (mK mF mT mI mL:Int) (mk:ByteArray) (mN:Int) (w:World) (B:Nat) (hB:B<=w.heap.size) (h9:∀x,6 < c x->c x=9) (hkl:n.kids.length<=1048600) (hmk:mk.size<=1048576) (hmo:cZ ⟨mK,mF,mT,mI,mL,mk,mN⟩=true) (hz:eU n 1048576) (hP:∃g,A.p=some ⟨g,0,none⟩) (wP:n.pu.length<=A.cp) (hok:dW n=true) (h1:mT=n.id) (h2:dZ n mF=true) (h3:mK=1) (h:NQ w B n A G c):Calls prog 110 #[gB n A,.agg (bV mK mF mT mI mL mk mN)] w (gD w B c ((takeN n ⟨mK,mF,mT,mI,mL,mk,mN⟩).1,if (takeN n ⟨mK,mF,mT,mI,mL,mk,mN⟩).2=true then[Wx n ⟨mK,mF,mT,mI,mL,mk,mN⟩] else[],if (takeN n ⟨mK,mF,mT,mI,mL,mk,mN⟩).2=true then 0 else 1)):=by
 open avH in exact N8
def Cc (n:Nd) (m:Mg):Nd×List Mg×Int:=if m.T=n.id/\dZ n m.F=true then fO n m else(n,[],3)
theorem abZ {n:Nd} (hok:dW n=true):hasB n.kids n.par=false:=by
 have h1:=(bY hok).1;unfold eD at h1;simp only[Bool.and_eq_true] at h1;have h2:=zf h1.2;cases hh:hasB n.kids n.par
 .rfl
 .rw [zo] at hh;have:=h2 _ hh;unfold jX at this;simp at this
theorem acN (n:Nd) (A:bQ) (G:aX) (c:Nat->Nat) (mK mF mT mI mL:Int) (mk:ByteArray) (mN:Int) (w:World) (B:Nat) (hB:B<=w.heap.size) (h9:∀x,6 < c x->c x=9) (hz:eU n 1048576) (hmk:mk.size<=1048576) (hok:dW n=true) (hmo:cZ ⟨mK,mF,mT,mI,mL,mk,mN⟩=true) (hP:∃g,A.p=some ⟨g,0,none⟩) (wP:n.pu.length<=A.cp) (h:NQ w B n A G c):
 Calls prog 110 #[gB n A,.agg (bV mK mF mT mI mL mk mN)] w (gD w B c (Cc n ⟨mK,mF,mT,mI,mL,mk,mN⟩)):=by
 have hkl:n.kids.length<=1048600:=Nat.le_trans hz.k Aaa;have h0:0<=n.next:=by have h:=(bY hok).2.2.2.1;unfold fF at h;simp at h;omega
 by_cases h1:mT=n.id
 .cases h2:dZ n mF
  .rw [show Cc n ⟨mK,mF,mT,mI,mL,mk,mN⟩=(n,[],3) from if_neg (λh=>by have:=h.2;dsimp only at this;rw [h2] at this;exact absurd this Aac)];exact Ie n A G c mK mF mT mI mL mk mN w B hB h9 hkl hmk hmo h1 h2 h
  .rw [show Cc n ⟨mK,mF,mT,mI,mL,mk,mN⟩=fO n ⟨mK,mF,mT,mI,mL,mk,mN⟩ from if_pos ⟨h1,h2⟩];by_cases k1:mK=1
   .rw [show fO n ⟨mK,mF,mT,mI,mL,mk,mN⟩=_ from if_pos k1];exact Mr n A G c mK mF mT mI mL mk mN w B hB h9 hkl hmk hmo hz hP wP hok h1 h2 k1 h
   by_cases k2:mK=2
   .rw [show fO n ⟨mK,mF,mT,mI,mL,mk,mN⟩=_ from(if_neg k1).trans (if_pos k2)];have:=Ii n A G c mK mF mT mI mL mk mN w B hB h9 hkl hmk hmo hz.o h1 h2 k2 h;rw [k2] at this ⊢;exact this
   have k0:mK=0:=by
    unfold cZ at hmo;rw [Bool.and_eq_true] at hmo;have q:=hmo.2;dsimp only at q;by_cases k0:mK=0
    .exact k0
    .rw [if_neg k0,if_neg k1,if_neg k2] at q;exact absurd q Aac
   by_cases h4:mF=n.par
   .rw [show fO n ⟨mK,mF,mT,mI,mL,mk,mN⟩=(n,[],1) from(if_neg k1).trans ((if_neg k2).trans (if_neg (by dsimp only;rw [h4,abZ hok];simp)))];exact QG n A G c mK mF mT mI mL mk mN w B hB h9 hkl hmk hmo h1 h2 k0 h4 h
   .have hk:hasB n.kids mF=true:=by
     unfold dZ at h2;rw [decide_eq_false h4,Bool.and_false,Bool.false_or] at h2;exact h2
    rw [show fO n ⟨mK,mF,mT,mI,mL,mk,mN⟩=_ from(if_neg k1).trans ((if_neg k2).trans (if_pos hk))];exact Ih n A G c mK mF mT mI mL mk mN w B hB h9 hkl hmk hmo hz hP wP h0 h1 h2 k0 h4 h
 .rw [show Cc n ⟨mK,mF,mT,mI,mL,mk,mN⟩=(n,[],3) from if_neg (λh=>h1 h.1)];exact Ig n A G c mK mF mT mI mL mk mN w B hB h9 hkl hmk hmo h1 h
end Go.Proofs.YtohmklmkjmlpjaaGreatDoor
