/- Parts. -/
import Derived.Test.YtacgbldlonoaaaaGreatDoorRr31
import Derived.Test.YtacgbldlonoaaaaGreatDoorRr38
namespace Go.Proofs.YtacgbldlonoaaaaGreatDoor
set_option maxHeartbeats 16000000
set_option maxRecDepth 100000
open Go.RowKit
open Mth
def tQ (gi:Nat) (ids:List Int) (c:Nat->Nat):Nat->Nat:=λx=>if x∈fp gi ids then 5 else c x
theorem aaY {gi x:Nat} {ids:List Int} {c:Nat->Nat} (h:x∈fp gi ids):tQ gi ids c x=5:=if_pos h
theorem uq {gi x:Nat} {ids:List Int} {c:Nat->Nat} (h:x∉fp gi ids):tQ gi ids c x=c x:=if_neg h
theorem nN.store {w:World} {a:Option Addr} {g:Nat} {I:Nat->Nat} {l:List Sn} (h:nN w a g I l) (k:Nat) (hk:k < l.length) (s:Sn) (b:Option Addr) (cc gi:Nat) (hi:WO w b cc gi s.ids) (hg4:∀x∈qw I l,x≠g) (hgi:∀x∈fp gi s.ids,x≠g):
 nN (GR.setW w g (k*3) [.int .i64 s.f,.int .i64 s.l,.slice b s.ids.length cc]) a g (qZ I k gi) (l.set k s):=by
 obtain⟨⟨T,hT,hl,hr⟩,hy⟩:=h;have O6:k < T.length:=Aaa
 have hkp:=aL (g:=g) [.int .i64 s.f,.int .i64 s.l,.slice b s.ids.length cc] w (k*3)
 refine⟨⟨T.set k ⟨s.f,s.l,.slice b s.ids.length cc⟩,GR.W.set bZ hT k ⟨s.f,s.l,.slice b s.ids.length cc⟩ O6,Aci,λi hi'=>?_⟩,λ_=>by
  obtain⟨cs,hc⟩:=hy Aaa
  exact⟨_,GR.setW_blk [.int .i64 s.f,.int .i64 s.l,.slice b s.ids.length cc] (o:=k*3) (xs:=cs.toList) Abf⟩⟩
 exact asD
theorem NQ.seenPut {w:World} {B:Nat} {n:Nd} {A:bH} {G:aV} {c:Nat->Nat} (h:NQ w B n A G c) (k:Nat) (hk:k < n.seen.length) (s:Sn) (b:Option Addr) (cc gi:Nat) (hi:WO w b cc gi s.ids) (h9:∀x∈fp gi s.ids,c x=9):
 NQ (GR.setW w G.s (k*3) [.int .i64 s.f,.int .i64 s.l,.slice b s.ids.length cc]) B (dB n (n.seen.set k s)) A ⟨G.k,G.p,G.o,G.s,G.r,qZ G.i k gi⟩ (tQ gi s.ids c):=by
 have c4:c G.s=4:=h.c4 G.s (dQ Aaa);have hkc:KC c 4 w (GR.setW w G.s (k*3) [.int .i64 s.f,.int .i64 s.l,.slice b s.ids.length cc]):=KC.setW _ c4;have hlen:(n.seen.set k s).length=n.seen.length:=List.length_set ..;have same:∀x,c x≠9->tQ gi s.ids c x=c x:=λx hx=>uq (λhm=>hx (h9 x hm))
 have hSQ:nN (GR.setW w G.s (k*3) [.int .i64 s.f,.int .i64 s.l,.slice b s.ids.length cc]) A.s G.s (qZ G.i k gi) (n.seen.set k s):=by
  refine h.sq.store k hk s b cc gi hi (λx hx e=>?_) (λx hx e=>?_)
  .have:=h.ci x hx;rw [e,c4] at this;omega
  .have:=h9 x hx;rw [e,c4] at this;omega
 refine⟨⟨hkc.w h.k h.ck Aaa,hkc.w h.p h.cp Aaa,hkc.own h.o h.co Aaa,hSQ.w,hkc.own h.r h.cr Aaa,?_,?_,?_,?_,?_,?_,?_,?_⟩,hSQ⟩
 .intro x hx;have:=h.lo x hx;rw [same x Aaa];exact this
 .intro x hx;have:=h.ck x hx;rw [same x Aaa];exact this
 .intro x hx;have:=h.cp x hx;rw [same x Aaa];exact this
 .intro x hx;have:=h.co x hx;rw [same x Aaa];exact this
 .intro x hx;have hx':x∈fp G.s n.seen:=by rw [<-PW hlen];exact hx
  have:=h.c4 x hx';rw [same x Aaa];exact this
 .intro x hx;obtain⟨i,hi',rfl,hpos⟩:=uG hx;by_cases e:i=k
  .subst e
   have hpos':0 < s.ids.length:=by
    simp only[dB] at hpos;rw [List.getElem_set_self] at hpos;exact hpos
   have e:qZ G.i i gi i=gi:=if_pos rfl;show tQ gi s.ids c (qZ G.i i gi i)=5
   rw [e];exact aaY (dQ hpos')
  .have e':qZ G.i k gi i=G.i i:=if_neg e;show tQ gi s.ids c (qZ G.i k gi i)=5
   rw [e']
   have hpos':0 < (n.seen[i]'(by simpa [dB] using hi')).ids.length:=by
    simp only[dB] at hpos;rw [List.getElem_set_ne Aaa] at hpos;exact hpos
   have:=h.ci _ (jw (by simpa [dB] using hi') _ (dQ hpos'));rw [same _ Aaa];exact this
 .intro x hx;have:=h.cr x hx;rw [same x Aaa];exact this
 .refine(nZ _ _).2 (λi j hi' hj' hij h1 h2=>?_);have hni:=(nZ _ _).1 h.ni;simp only[dB] at hi' hj' h1 h2;have hi2:i < n.seen.length:=by simpa using hi'
  have hj2:j < n.seen.length:=Ach
  dsimp only[qZ];by_cases e1:i=k
  .by_cases e2:j=k
   .omega
   .rw [if_pos e1,if_neg e2];subst e1;rw [List.getElem_set_self] at h1;rw [List.getElem_set_ne Aaa] at h2;intro e;have a1:=h9 gi (dQ h1);have a2:=h.ci _ (jw hj2 _ (dQ h2));rw [<-e] at a2;omega
  .rw [if_neg e1];rw [List.getElem_set_ne Aaa] at h1;by_cases e2:j=k
   .rw [if_pos e2];subst e2;rw [List.getElem_set_self] at h2;intro e;have a1:=h9 gi (dQ h2);have a2:=h.ci _ (jw hi2 _ (dQ h1));rw [e] at a2;omega
   .rw [if_neg e2];rw [List.getElem_set_ne Aaa] at h2;exact hni i j hi2 hj2 hij h1 h2
def nO (s:Sn) (low:Int) (k:Nat):List Int:=(s.ids.take k).filter (λx=>decide (eH s low<=x))
theorem zR (s:Sn) (low:Int):nO s low s.ids.length=aY s low:=by unfold nO aY;rw [List.take_length]
theorem Ue (s:Sn) (low:Int) (k:Nat) (hk:k < s.ids.length) (h:eH s low<=s.ids[k]):nO s low (k+1)=nO s low k++[s.ids[k]]:=by
 unfold nO;rw [List.take_succ_eq_append_getElem hk,List.filter_append,List.filter_cons_of_pos Abi];rfl
theorem Yu (s:Sn) (low:Int) (k:Nat) (hk:k < s.ids.length) (h:¬eH s low<=s.ids[k]):nO s low (k+1)=nO s low k:=by
 unfold nO;rw [List.take_succ_eq_append_getElem hk,List.filter_append,List.filter_cons_of_neg Abi];simp
theorem Ud (s:Sn) (low:Int) (k:Nat):(nO s low k).length<=k:=by
 unfold nO;exact Nat.le_trans (List.length_filter_le _ _) Abm
theorem BI {w:World} {q:Nat} {B:Nat} {e:TypeId} {sz n:Nat} {v:Value} {xs:List Value} {o:Obj} (h:w.ownsRow B e sz v n xs):((w.drewN q).alloc o).ownsRow B e sz v n xs:=World.ownsRow.alloc (w:=w.drewN q) h o
theorem abV {α:Type} {en:α->List Value} {sz B:Nat} {w:World} {e:TypeId} {g cp:Nat} {l:List α} (hs:∀x,(en x).length=sz) (h:w.ownsRow B e sz (.slice (some ⟨g,0,none⟩) l.length cp) l.length (GR.flat en l)):GR.W en sz w (some ⟨g,0,none⟩) g l:=λi hi=>by
 obtain⟨a,c',g',hv,hW,_,ho⟩:=GR.W.of_own hs h;simp only[Value.slice.injEq] at hv;obtain⟨rfl,_,_⟩:=hv;have hg:=ho g' (dQ Aaa);simp[Value.ownBlock] at hg;subst hg;exact hW i hi
theorem Pw {w W' W'':World} {c:Nat->Nat} {ab:Nat} {a0 a1 a2 a3 a4:Int} {a5:ByteArray} {a6:Int} (h:W'.heap[ab]?=some (.cells (bJ a0 a1 a2 a3 a4 a5 a6) 32 (0,0))) (ho:Out c w W' W'') (hab:w.heap.size<=ab):GR.At jF 7 W'' (some ⟨ab,0,none⟩) [⟨a0,a1,a2,a3,a4,a5,a6⟩]:=λi hi=>by
 obtain⟨F,hk2,hF⟩:=ho;have hm2:=hk2.obj h (λhx=>by have:=(hF ab hx).1;omega);refine⟨ab,0,rfl,aA hm2,λj hj=>?_⟩;have hi0:i=0:=Abn
 subst hi0;have h1:=cell_of_row W'' ab (0+(0*7+j)) _ _ (0,0) hm2;rw [h1];simp[jF]
theorem pY (l:List Int):∀u∈GR.flat aW l,u.oneCell'=true:=GR.flat_oneCell (λy u hu=>by simp at hu;subst hu;rfl) l
theorem Zf {w w':World} {F:List Nat} {B:Nat} {e:TypeId} {sz n:Nat} {v:Value} {xs:List Value} (h:w.ownsRow B e sz v n xs) (hk:aC F w w') (hF:∀x,v.ownBlock=some x->x∉F):w'.ownsRow B e sz v n xs:=by
 refine⟨h.1,?_⟩;rcases h.2 with hn|⟨g,cap,cur,rfl,hb,hgg,rest⟩
 .exact .inl hn
 .exact .inr ⟨g,cap,cur,rfl,hb,hk.obj hgg (hF g rfl),rest⟩
theorem atO (l:List Int) (p:Int->Bool):(l.takeWhile p).length<=l.length:=(List.takeWhile_prefix p).length_le
theorem YE (l:List Int) (x:Int):kW l x=l.take (l.takeWhile (λy=>decide (y < x))).length++([x]++l.drop (l.takeWhile (λy=>decide (y < x))).length):=by
 have h:=List.takeWhile_append_dropWhile (p:=λy=>decide (y < x)) (l:=l);unfold kW;generalize l.takeWhile (λy=>decide (y < x))=a at *;generalize l.dropWhile (λy=>decide (y < x))=b at *;subst h;simp
theorem ZJ {x:Int}:∀{l:List Int} {j:Nat},j<=l.length->(∀i (hi:i < l.length),i < j->l[i] < x)->(∀hj:j < l.length,¬l[j] < x)->(l.takeWhile (λy=>decide (y < x))).length=j:=by
 intro l;induction l with
 |nil=>intro j hj _ _;simp at hj;simp[hj]
 |cons a l ih=>
  intro j hj h1 h2
  cases j with
  |zero=>
   have:=h2 Aac
   rw [List.takeWhile_cons_of_neg (by simpa using this)]
   rfl
  |succ j=>
   have h0:=h1 0 Aac Aaa
   rw [List.takeWhile_cons_of_pos (by simpa using h0),List.length_cons,ih Aat (λi hi hij=>h1 (i+1) Aap Aaa) (λhj'=>h2 Ach)]
theorem Ao {w:World} {g:Nat} {v0 v1 v2:Value} {t:TypeId} (h:w.heap[g]?=some (.cells #[v0,v1,v2] t (0,0))):w.cell? ⟨g,0,none⟩=some v0/\w.cell? ⟨g,1,none⟩=some v1/\w.cell? ⟨g,2,none⟩=some v2:=
 ⟨by rw [cell_of_row w g _ _ t (0,0) h];rfl,by rw [cell_of_row w g _ _ t (0,0) h];rfl,by rw [cell_of_row w g _ _ t (0,0) h];rfl⟩
theorem Zd {w:World} {a:Option Addr} {g:Nat} {I:Nat->Nat} {l:List Sn} (h:fP w a g I l) (hl:0 < l.length):g < w.heap.size:=by
 obtain⟨b,c,_,hg,_⟩:=fP.three h 0 hl;exact hg
theorem Kg (n:Nd) (a_k iX dR dY fU:Option Addr) (aJ bq aO aK aP:Nat) (G:aV) (c:Nat->Nat) (mK mF mT mI mL:Int) (mk:ByteArray) (mN:Int) (w:World) (B:Nat) (hB:B<=w.heap.size) (h9:∀x,6 < c x->c x=9) (i:Nat) (hi:i < n.seen.length) (s0:Sn) (hs0:n.seen[i]=s0) (hfi:s0.f=mF) (hbef:∀x (hx:x < n.seen.length),x < i->n.seen[x].f≠mF) (hsl:n.seen.length<=1000) (hil:s0.ids.length<=1000) (hhas:qH s0 mL mI=true) (h:NQ w B n (⟨a_k,iX,dR,dY,fU,aJ,bq,aO,aK,aP⟩:bH) G c):Calls Tryz.prog 119 #[fI n (⟨a_k,iX,dR,dY,fU,aJ,bq,aO,aK,aP⟩:bH),.agg (bJ mK mF mT mI mL mk mN)] w (fq w B c (dB n (n.seen.set i ⟨mF,eH s0 mL,aY s0 mL⟩),[⟨2,n.id,mF,mI,0,ByteArray.empty,0⟩],0)):=by
 open apb in exact ac5
theorem OA (n:Nd) (a_k iX dR dY fU:Option Addr) (aJ bq aO aK aP:Nat) (G:aV) (c:Nat->Nat) (mK mF mT mI mL:Int) (mk:ByteArray) (mN:Int) (w:World) (B:Nat) (hB:B<=w.heap.size) (h9:∀x,6 < c x->c x=9) (i:Nat) (hi:i < n.seen.length) (s0:Sn) (hs0:n.seen[i]=s0) (hfi:s0.f=mF) (hbef:∀x (hx:x < n.seen.length),x < i->n.seen[x].f≠mF) (hsl:n.seen.length<=1000) (hil:s0.ids.length<=1000) (hz:fu n 1048576) (hmk:mk.size<=1048576) (hP:∃g,iX=some ⟨g,0,none⟩) (tu:n.pu.length<=bq) (RL:List Pu) (ok:Bool) (hu:dx n.pu mk 0 1 0 mN=(RL,ok)) (hhas:qH s0 mL mI=false) (hgn:ok=false\/40<=(aY s0 mL).length) (h:NQ w B n (⟨a_k,iX,dR,dY,fU,aJ,bq,aO,aK,aP⟩:bH) G c):Calls Tryz.prog 119 #[fI n (⟨a_k,iX,dR,dY,fU,aJ,bq,aO,aK,aP⟩:bH),.agg (bJ mK mF mT mI mL mk mN)] w (fq w B c (dB n (n.seen.set i ⟨mF,eH s0 mL,aY s0 mL⟩),[],1)):=by
 open aic in exact arv
theorem F9 (n:Nd) (a_k iX dR dY fU:Option Addr) (aJ bq aO aK aP:Nat) (G:aV) (c:Nat->Nat) (mK mF mT mI mL:Int) (mk:ByteArray) (mN:Int) (w:World) (B:Nat) (hB:B<=w.heap.size) (h9:∀x,6 < c x->c x=9) (i:Nat) (hi:i < n.seen.length) (s0:Sn) (hs0:n.seen[i]=s0) (hfi:s0.f=mF) (hbef:∀x (hx:x < n.seen.length),x < i->n.seen[x].f≠mF) (hsl:n.seen.length<=1000) (hil:s0.ids.length<=1000) (hz:fu n 1048576) (hmk:mk.size<=1048576) (hP:∃g,iX=some ⟨g,0,none⟩) (tu:n.pu.length<=bq) (RL:List Pu) (hu:dx n.pu mk 0 1 0 mN=(RL,true)) (hhas:qH s0 mL mI=false) (hgn:(aY s0 mL).length < 40) (h:NQ w B n (⟨a_k,iX,dR,dY,fU,aJ,bq,aO,aK,aP⟩:bH) G c):Calls Tryz.prog 119 #[fI n (⟨a_k,iX,dR,dY,fU,aJ,bq,aO,aK,aP⟩:bH),.agg (bJ mK mF mT mI mL mk mN)] w (fq w B c (dB (setPu n RL) (n.seen.set i ⟨mF,eH s0 mL,kW (aY s0 mL) mI⟩),[⟨2,n.id,mF,mI,0,ByteArray.empty,0⟩],0)):=by
 open aib in exact arv
theorem ZE (n:Nd) (A:bH) (G:aV) (c:Nat->Nat) (mK mF mT mI mL:Int) (mk:ByteArray) (mN:Int) (w:World) (B:Nat) (hB:B<=w.heap.size) (h9:∀x,6 < c x->c x=9)
 (hz:fu n 1048576) (hmk:mk.size<=1048576) (hP:∃g,A.p=some ⟨g,0,none⟩) (tu:n.pu.length<=A.cp) (hok:dU n=true) (hF:dV n mF=true) (h:NQ w B n A G c):
 Calls Tryz.prog 119 #[fI n A,.agg (bJ mK mF mT mI mL mk mN)] w
  (fq w B c ((takeN n ⟨mK,mF,mT,mI,mL,mk,mN⟩).1,if (takeN n ⟨mK,mF,mT,mI,mL,mk,mN⟩).2=true then[Tp n ⟨mK,mF,mT,mI,mL,mk,mN⟩] else[],if (takeN n ⟨mK,mF,mT,mI,mL,mk,mN⟩).2=true then 0 else 1)):=by
 obtain⟨hi,hif⟩:=D6 hok hF;have hsn:=yL hok _ (List.getElem_mem hi)
 have hsl:n.seen.length<=1000:=by
  exact asG
 have hil:n.seen[gW n.seen mF].ids.length<=1000:=by
  unfold uh at hsn;simp only[Bool.and_eq_true,decide_eq_true_eq] at hsn;omega
 have hbef:∀x (hx:x < n.seen.length),x < gW n.seen mF->n.seen[x].f≠mF:=λx hx hlt=>by
  have:=List.not_of_lt_findIdx (p:=λs:Sn=>decide (s.f=mF)) (xs:=n.seen) hlt
  simpa using this
 obtain⟨ak,ap,ao,as',ar,ck,cp,co,cs,cr⟩:=A;cases hh:qH n.seen[gW n.seen mF] mL mI
 .cases hu:dx n.pu mk 0 1 0 mN with
  |mk RL ok=>
   by_cases hg:ok=true/\(aY n.seen[gW n.seen mF] mL).length < 40
   .have hgb:lD n n.seen[gW n.seen mF] ⟨mK,mF,mT,mI,mL,mk,mN⟩=true:=by
     unfold lD;dsimp only;rw [hu,hg.1,decide_eq_true hg.2];rfl
    rw [Ep (m:=⟨mK,mF,mT,mI,mL,mk,mN⟩) hi rfl rfl hh hgb];obtain⟨rfl,hg2⟩:=hg;have hres:=F9 n ak ap ao as' ar ck cp co cs cr G c mK mF mT mI mL mk mN w B hB h9 _ hi _ rfl hif hbef hsl hil hz hmk hP tu RL hu hh hg2 h;dsimp only;rw [hu];exact hres
   .have hgb:lD n n.seen[gW n.seen mF] ⟨mK,mF,mT,mI,mL,mk,mN⟩=false:=by
     unfold lD;dsimp only;rw [hu];cases ok
     .rfl
     .rw [decide_eq_false (λh=>hg ⟨rfl,h⟩)];rfl
    rw [OE (m:=⟨mK,mF,mT,mI,mL,mk,mN⟩) hi rfl rfl hh hgb]
    exact OA n ak ap ao as' ar ck cp co cs cr G c mK mF mT mI mL mk mN w B hB h9 _ hi _ rfl hif hbef hsl hil hz hmk hP tu RL ok hu hh (by
     cases ok
     .exact .inl rfl
     .exact .inr (by have:¬(aY n.seen[gW n.seen mF] mL).length < 40:=λh=>hg ⟨rfl,h⟩;omega)) h
 .rw [Iu (m:=⟨mK,mF,mT,mI,mL,mk,mN⟩) hi rfl rfl hh];exact Kg n ak ap ao as' ar ck cp co cs cr G c mK mF mT mI mL mk mN w B hB h9 _ hi _ rfl hif hbef hsl hil hh h
end Go.Proofs.YtacgbldlonoaaaaGreatDoor
