/- Parts. -/
import Derived.Test.YtacgbldlonoaaaaGreatDoorRw30
import Derived.Test.YtacgbldlonoaaaaGreatDoorRw37
namespace Go.Proofs.YtacgbldlonoaaaaGreatDoor
open Go.Proofs.Tryz
set_option maxHeartbeats 16000000
set_option maxRecDepth 100000
open Go.RowKit
open Mth
variable (n:Nd) (a_k jE eD eO gN:Option Addr) (aL bE aP aM aV:Nat) (G:bJ) (c:Nat->Nat) (mK mF mT mI mL:Int) (mk:ByteArray) (mN:Int) (w:World) (B:Nat) {g sz gi x:Nat} {e:TypeId} {ids:List Int} {a:Option Addr} {I:Nat->Nat} {l:List Sn} {v:Value} {xs:List Value}
def vM (gi:Nat) (ids:List Int) (c:Nat->Nat):Nat->Nat:=λx=>if x∈fp gi ids then 5 else c x
theorem ad3 {c:Nat->Nat} (h:x∈fp gi ids):vM gi ids c x=5:=if_pos h
theorem vW {c:Nat->Nat} (h:x∉fp gi ids):vM gi ids c x=c x:=if_neg h
theorem nR.store {w:World} (h:nR w a g I l) (k:Nat) (hk:k < l.length) (s:Sn) (b:Option Addr) (cc gi:Nat) (hi:WO w b cc gi s.ids) (hg4:∀x∈vR I l,x≠g) (hgi:∀x∈fp gi s.ids,x≠g):
 nR (GR.setW w g (k*3) [.int .i64 s.f,.int .i64 s.l,.slice b s.ids.length cc]) a g (lS I k gi) (l.set k s):=by
 obtain⟨⟨T,hT,hl,hr⟩,hy⟩:=h;have hkT:k < T.length:=Aaa
 have hkp:=aK (g:=g) [.int .i64 s.f,.int .i64 s.l,.slice b s.ids.length cc] w (k*3)
 refine⟨⟨T.set k ⟨s.f,s.l,.slice b s.ids.length cc⟩,GR.W.set eF hT k ⟨s.f,s.l,.slice b s.ids.length cc⟩ hkT,by simpa using hl,λi hi'=>?_⟩,λ_=>by
  obtain⟨cs,hc⟩:=hy Aaa
  exact⟨_,GR.setW_blk [.int .i64 s.f,.int .i64 s.l,.slice b s.ids.length cc] (o:=k*3) (xs:=cs.toList) Abj⟩⟩
 exact axr
theorem NQ.seenPut {w:World} {B:Nat} {n:Nd} {A:bC} {G:bJ} {c:Nat->Nat} (h:NQ w B n A G c) (k:Nat) (hk:k < n.seen.length) (s:Sn) (b:Option Addr) (cc gi:Nat) (hi:WO w b cc gi s.ids) (h9:∀x∈fp gi s.ids,c x=9):
 NQ (GR.setW w G.s (k*3) [.int .i64 s.f,.int .i64 s.l,.slice b s.ids.length cc]) B (dA n (n.seen.set k s)) A ⟨G.k,G.p,G.o,G.s,G.r,lS G.i k gi⟩ (vM gi s.ids c):=by
 have c4:c G.s=4:=h.c4 G.s (dK Aaa);have hkc:KC c 4 w (GR.setW w G.s (k*3) [.int .i64 s.f,.int .i64 s.l,.slice b s.ids.length cc]):=KC.setW _ c4;have hlen:(n.seen.set k s).length=n.seen.length:=List.length_set ..;have same:∀x,c x≠9->vM gi s.ids c x=c x:=λx hx=>vW (λhm=>hx (h9 x hm))
 have hSQ:nR (GR.setW w G.s (k*3) [.int .i64 s.f,.int .i64 s.l,.slice b s.ids.length cc]) A.s G.s (lS G.i k gi) (n.seen.set k s):=by
  refine h.sq.store k hk s b cc gi hi (λx hx e=>?_) (λx hx e=>?_)
  .have:=h.ci x hx;rw [e,c4] at this;omega
  .have:=h9 x hx;rw [e,c4] at this;omega
 refine⟨⟨hkc.w h.k h.ck Aaa,hkc.w h.p h.cp Aaa,hkc.own h.o h.co Aaa,hSQ.w,hkc.own h.r h.cr Aaa,?_,?_,?_,?_,?_,?_,?_,?_⟩,hSQ⟩
 .intro x hx;have:=h.lo x hx;rw [same x Aaa];exact this
 .intro x hx;have:=h.ck x hx;rw [same x Aaa];exact this
 .intro x hx;have:=h.cp x hx;rw [same x Aaa];exact this
 .intro x hx;have:=h.co x hx;rw [same x Aaa];exact this
 .intro x hx;have hx':x∈fp G.s n.seen:=by rw [<-SV hlen];exact hx
  have:=h.c4 x hx';rw [same x Aaa];exact this
 .intro x hx;obtain⟨i,hi',rfl,hpos⟩:=uO hx;by_cases e:i=k
  .subst e
   have hpos':0 < s.ids.length:=by
    simp only[dA] at hpos;rw [List.getElem_set_self] at hpos;exact hpos
   have e:lS G.i i gi i=gi:=if_pos rfl;show vM gi s.ids c (lS G.i i gi i)=5
   rw [e];exact ad3 (dK hpos')
  .have e':lS G.i k gi i=G.i i:=if_neg e;show vM gi s.ids c (lS G.i k gi i)=5
   rw [e']
   have hpos':0 < (n.seen[i]'(by simpa [dA] using hi')).ids.length:=by
    exact ahG
   have:=h.ci _ (jH (by simpa [dA] using hi') _ (dK hpos'));rw [same _ Aaa];exact this
 .intro x hx;have:=h.cr x hx;rw [same x Aaa];exact this
 .refine(mq _ _).2 (λi j hi' hj' hij h1 h2=>?_);have hni:=(mq _ _).1 h.ni;simp only[dA] at hi' hj' h1 h2;have hi2:i < n.seen.length:=by simpa using hi'
  have hj2:j < n.seen.length:=Acp
  dsimp only[lS];by_cases e1:i=k
  .by_cases e2:j=k
   .omega
   .rw [if_pos e1,if_neg e2];subst e1;rw [List.getElem_set_self] at h1;rw [List.getElem_set_ne Aaa] at h2;intro e;have a1:=h9 gi (dK h1);have a2:=h.ci _ (jH hj2 _ (dK h2));rw [<-e] at a2;omega
  .rw [if_neg e1];rw [List.getElem_set_ne Aaa] at h1;by_cases e2:j=k
   .rw [if_pos e2];subst e2;rw [List.getElem_set_self] at h2;intro e;have a1:=h9 gi (dK h2);have a2:=h.ci _ (jH hi2 _ (dK h1));rw [e] at a2;omega
   .rw [if_neg e2];rw [List.getElem_set_ne Aaa] at h2;exact hni i j hi2 hj2 hij h1 h2
def pX (s:Sn) (low:Int) (k:Nat):List Int:=(s.ids.take k).filter (λx=>decide (eZ s low<=x))
theorem Ch (s:Sn) (low:Int):pX s low s.ids.length=bg s low:=by unfold pX bg;rw [List.take_length]
theorem Xy (s:Sn) (low:Int) (k:Nat) (hk:k < s.ids.length) (h:eZ s low<=s.ids[k]):pX s low (k+1)=pX s low k++[s.ids[k]]:=by
 unfold pX;rw [List.take_succ_eq_append_getElem hk,List.filter_append,List.filter_cons_of_pos Abg];rfl
theorem abJ (s:Sn) (low:Int) (k:Nat) (hk:k < s.ids.length) (h:¬eZ s low<=s.ids[k]):pX s low (k+1)=pX s low k:=by
 unfold pX;rw [List.take_succ_eq_append_getElem hk,List.filter_append,List.filter_cons_of_neg Abg];simp
theorem Xx (s:Sn) (low:Int) (k:Nat):(pX s low k).length<=k:=by
 unfold pX;exact Nat.le_trans (List.length_filter_le _ _) Abk
theorem D8 {w:World} {q:Nat} {B:Nat} {n:Nat} {o:Obj} (h:w.ownsRow B e sz v n xs):((w.drewN q).alloc o).ownsRow B e sz v n xs:=World.ownsRow.alloc (w:=w.drewN q) h o
theorem ZV {α:Type} {en:α->List Value} {B:Nat} {w:World} {cp:Nat} {l:List α} (hs:∀x,(en x).length=sz) (h:w.ownsRow B e sz (.slice (some ⟨g,0,none⟩) l.length cp) l.length (GR.flat en l)):GR.W en sz w (some ⟨g,0,none⟩) g l:=λi hi=>by
 obtain⟨a,c',g',hv,hW,_,ho⟩:=GR.W.of_own hs h;simp only[Value.slice.injEq] at hv;obtain⟨rfl,_,_⟩:=hv;have hg:=ho g' (dK Aaa);simp[Value.ownBlock] at hg;subst hg;exact hW i hi
theorem Sv {w W' W'':World} {c:Nat->Nat} {ab:Nat} {a0 a1 a2 a3 a4:Int} {a5:ByteArray} {a6:Int} (h:W'.heap[ab]?=some (.cells (cK a0 a1 a2 a3 a4 a5 a6) 32 (0,0))) (ho:Out c w W' W'') (hab:w.heap.size<=ab):GR.At lF 7 W'' (some ⟨ab,0,none⟩) [⟨a0,a1,a2,a3,a4,a5,a6⟩]:=λi hi=>by
 obtain⟨F,hk2,hF⟩:=ho;have hm2:=hk2.obj h (λhx=>by have:=(hF ab hx).1;omega);refine⟨ab,0,rfl,aA hm2,λj hj=>?_⟩;have hi0:i=0:=Abt
 subst hi0;have h1:=cell_of_row W'' ab (0+(0*7+j)) _ _ (0,0) hm2;rw [h1];simp[lF]
theorem rF (l:List Int):∀u∈GR.flat aS l,u.oneCell'=true:=GR.flat_oneCell (λy u hu=>by simp at hu;subst hu;rfl) l
theorem acA {w w':World} {F:List Nat} {B:Nat} {n:Nat} (h:w.ownsRow B e sz v n xs) (hk:aC F w w') (hF:∀x,v.ownBlock=some x->x∉F):w'.ownsRow B e sz v n xs:=by
 refine⟨h.1,?_⟩;rcases h.2 with hn|⟨g,cap,cur,rfl,hb,hgg,rest⟩
 .exact .inl hn
 .exact .inr ⟨g,cap,cur,rfl,hb,hk.obj hgg (hF g rfl),rest⟩
theorem ayA (l:List Int) (p:Int->Bool):(l.takeWhile p).length<=l.length:=(List.takeWhile_prefix p).length_le
theorem abR (l:List Int) (x:Int):mQ l x=l.take (l.takeWhile (λy=>decide (y < x))).length++([x]++l.drop (l.takeWhile (λy=>decide (y < x))).length):=by
 have h:=List.takeWhile_append_dropWhile (p:=λy=>decide (y < x)) (l:=l);unfold mQ;generalize l.takeWhile (λy=>decide (y < x))=a at *;generalize l.dropWhile (λy=>decide (y < x))=b at *;subst h;simp
theorem acY {x:Int}:∀{l:List Int} {j:Nat},j<=l.length->(∀i (hi:i < l.length),i < j->l[i] < x)->(∀hj:j < l.length,¬l[j] < x)->(l.takeWhile (λy=>decide (y < x))).length=j:=by
 intro l;induction l with
 |nil=>intro j hj _ _;simp at hj;simp[hj]
 |cons a l ih=>
  intro j hj h1 h2
  cases j with
  |zero=>
   have:=h2 Aac
   rw [List.takeWhile_cons_of_neg (by simpa using this)]
   rfl
  |succ j=>
   have h0:=h1 0 Aac Aaa
   rw [List.takeWhile_cons_of_pos (by simpa using h0),List.length_cons,ih Abd (λi hi hij=>h1 (i+1) Aaq Aaa) (λhj'=>h2 Acp)]
theorem CK {w:World} {v0 v1 v2:Value} {t:TypeId} (h:w.heap[g]?=some (.cells #[v0,v1,v2] t (0,0))):w.cell? ⟨g,0,none⟩=some v0/\w.cell? ⟨g,1,none⟩=some v1/\w.cell? ⟨g,2,none⟩=some v2:=
 ⟨by rw [cell_of_row w g _ _ t (0,0) h];rfl,by rw [cell_of_row w g _ _ t (0,0) h];rfl,by rw [cell_of_row w g _ _ t (0,0) h];rfl⟩
theorem acw {w:World} (h:jw w a g I l) (hl:0 < l.length):g < w.heap.size:=by
 obtain⟨b,c,_,hg,_⟩:=jw.three h 0 hl;exact hg
theorem Ni (hB:B<=w.heap.size) (h9:∀x,6 < c x->c x=9) (i:Nat) (hi:i < n.seen.length) (s0:Sn) (hs0:n.seen[i]=s0) (hfi:s0.f=mF) (hbef:∀x (hx:x < n.seen.length),x < i->n.seen[x].f≠mF) (hsl:n.seen.length<=1000) (hil:s0.ids.length<=1000) (hhas:sQ s0 mL mI=true) (h:NQ w B n (⟨a_k,jE,eD,eO,gN,aL,bE,aP,aM,aV⟩:bC) G c):Calls prog 119 #[fT n (⟨a_k,jE,eD,eO,gN,aL,bE,aP,aM,aV⟩:bC),.agg (cK mK mF mT mI mL mk mN)] w (fZ w B c (dA n (n.seen.set i ⟨mF,eZ s0 mL,bg s0 mL⟩),[⟨2,n.id,mF,mI,0,ByteArray.empty,0⟩],0)):=by
 open at7 in exact agl
theorem Q5 (hB:B<=w.heap.size) (h9:∀x,6 < c x->c x=9) (i:Nat) (hi:i < n.seen.length) (s0:Sn) (hs0:n.seen[i]=s0) (hfi:s0.f=mF) (hbef:∀x (hx:x < n.seen.length),x < i->n.seen[x].f≠mF) (hsl:n.seen.length<=1000) (hil:s0.ids.length<=1000) (hz:eY n 1048576) (hmk:mk.size<=1048576) (hP:∃g,jE=some ⟨g,0,none⟩) (vC:n.pu.length<=bE) (RL:List Pu) (ok:Bool) (hu:dJ n.pu mk 0 1 0 mN=(RL,ok)) (hhas:sQ s0 mL mI=false) (hgn:ok=false\/40<=(bg s0 mL).length) (h:NQ w B n (⟨a_k,jE,eD,eO,gN,aL,bE,aP,aM,aV⟩:bC) G c):Calls prog 119 #[fT n (⟨a_k,jE,eD,eO,gN,aL,bE,aP,aM,aV⟩:bC),.agg (cK mK mF mT mI mL mk mN)] w (fZ w B c (dA n (n.seen.set i ⟨mF,eZ s0 mL,bg s0 mL⟩),[],1)):=by
 open alY in exact awi
theorem Jj (hB:B<=w.heap.size) (h9:∀x,6 < c x->c x=9) (i:Nat) (hi:i < n.seen.length) (s0:Sn) (hs0:n.seen[i]=s0) (hfi:s0.f=mF) (hbef:∀x (hx:x < n.seen.length),x < i->n.seen[x].f≠mF) (hsl:n.seen.length<=1000) (hil:s0.ids.length<=1000) (hz:eY n 1048576) (hmk:mk.size<=1048576) (hP:∃g,jE=some ⟨g,0,none⟩) (vC:n.pu.length<=bE) (RL:List Pu) (hu:dJ n.pu mk 0 1 0 mN=(RL,true)) (hhas:sQ s0 mL mI=false) (hgn:(bg s0 mL).length < 40) (h:NQ w B n (⟨a_k,jE,eD,eO,gN,aL,bE,aP,aM,aV⟩:bC) G c):Calls prog 119 #[fT n (⟨a_k,jE,eD,eO,gN,aL,bE,aP,aM,aV⟩:bC),.agg (cK mK mF mT mI mL mk mN)] w (fZ w B c (dA (setPu n RL) (n.seen.set i ⟨mF,eZ s0 mL,mQ (bg s0 mL) mI⟩),[⟨2,n.id,mF,mI,0,ByteArray.empty,0⟩],0)):=by
 open alX in exact awi
theorem acT (n:Nd) (A:bC) (G:bJ) (c:Nat->Nat) (mK mF mT mI mL:Int) (mk:ByteArray) (mN:Int) (w:World) (B:Nat) (hB:B<=w.heap.size) (h9:∀x,6 < c x->c x=9) (hz:eY n 1048576) (hmk:mk.size<=1048576) (hP:∃g,A.p=some ⟨g,0,none⟩) (vC:n.pu.length<=A.cp) (hok:dY n=true) (hF:dV n mF=true) (h:NQ w B n A G c):
 Calls prog 119 #[fT n A,.agg (cK mK mF mT mI mL mk mN)] w
  (fZ w B c ((takeN n ⟨mK,mF,mT,mI,mL,mk,mN⟩).1,if (takeN n ⟨mK,mF,mT,mI,mL,mk,mN⟩).2=true then[WJ n ⟨mK,mF,mT,mI,mL,mk,mN⟩] else[],if (takeN n ⟨mK,mF,mT,mI,mL,mk,mN⟩).2=true then 0 else 1)):=by
 obtain⟨hi,hif⟩:=Gc hok hF;have hsn:=Ar hok _ (List.getElem_mem hi)
 have hsl:n.seen.length<=1000:=by
  exact axy
 have hil:n.seen[iG n.seen mF].ids.length<=1000:=by
  unfold vO at hsn;simp only[Bool.and_eq_true,decide_eq_true_eq] at hsn;omega
 have hbef:∀x (hx:x < n.seen.length),x < iG n.seen mF->n.seen[x].f≠mF:=λx hx hlt=>by
  have:=List.not_of_lt_findIdx (p:=λs:Sn=>decide (s.f=mF)) (xs:=n.seen) hlt
  simpa using this
 obtain⟨ak,ap,ao,as',ar,ck,cp,co,cs,cr⟩:=A;cases hh:sQ n.seen[iG n.seen mF] mL mI
 .cases hu:dJ n.pu mk 0 1 0 mN with
  |mk RL ok=>
   by_cases hg:ok=true/\(bg n.seen[iG n.seen mF] mL).length < 40
   .have hgb:mY n n.seen[iG n.seen mF] ⟨mK,mF,mT,mI,mL,mk,mN⟩=true:=by
     unfold mY;dsimp only;rw [hu,hg.1,decide_eq_true hg.2];rfl
    rw [Gw (m:=⟨mK,mF,mT,mI,mL,mk,mN⟩) hi rfl rfl hh hgb];obtain⟨rfl,hg2⟩:=hg;have hres:=Jj n ak ap ao as' ar ck cp co cs cr G c mK mF mT mI mL mk mN w B hB h9 _ hi _ rfl hif hbef hsl hil hz hmk hP vC RL hu hh hg2 h;dsimp only;rw [hu];exact hres
   .have hgb:mY n n.seen[iG n.seen mF] ⟨mK,mF,mT,mI,mL,mk,mN⟩=false:=by
     unfold mY;dsimp only;rw [hu];cases ok
     .rfl
     .rw [decide_eq_false (λh=>hg ⟨rfl,h⟩)];rfl
    rw [Q8 (m:=⟨mK,mF,mT,mI,mL,mk,mN⟩) hi rfl rfl hh hgb]
    exact Q5 n ak ap ao as' ar ck cp co cs cr G c mK mF mT mI mL mk mN w B hB h9 _ hi _ rfl hif hbef hsl hil hz hmk hP vC RL ok hu hh (by
     cases ok
     .exact .inl rfl
     .exact .inr (by have:¬(bg n.seen[iG n.seen mF] mL).length < 40:=λh=>hg ⟨rfl,h⟩;omega)) h
 .rw [Kv (m:=⟨mK,mF,mT,mI,mL,mk,mN⟩) hi rfl rfl hh];exact Ni n ak ap ao as' ar ck cp co cs cr G c mK mF mT mI mL mk mN w B hB h9 _ hi _ rfl hif hbef hsl hil hh h
end Go.Proofs.YtacgbldlonoaaaaGreatDoor
