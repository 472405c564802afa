/- Parts. -/
import Derived.Test.YtacgbldlonoaaaaGreatDoorRa33
namespace Go.Proofs.YtacgbldlonoaaaaGreatDoor
set_option maxHeartbeats 16000000
set_option maxRecDepth 100000
open Go.RowKit
open Mth
def qw (gi:Nat) (ids:List Int) (c:Nat→Nat):Nat→Nat:=fun x=>if x∈fp gi ids then 5 else c x
theorem Vt {gi x:Nat} {ids:List Int} {c:Nat→Nat} (h:x∈fp gi ids):qw gi ids c x=5:=if_pos h
theorem qG {gi x:Nat} {ids:List Int} {c:Nat→Nat} (h:x∉fp gi ids):qw gi ids c x=c x:=if_neg h
theorem lJ.store {w:World} {a:Option Addr} {g:Nat} {I:Nat→Nat} {l:List Sn} (h:lJ w a g I l) (k:Nat) (hk:k < l.length) (s:Sn) (b:Option Addr) (cc gi:Nat) (hi:WO w b cc gi s.ids) (hg4:∀x∈nM I l,x≠g) (hgi:∀x∈fp gi s.ids,x≠g):
 lJ (GR.setW w g (k*3) [.int .i64 s.f,.int .i64 s.l,.slice b s.ids.length cc]) a g (ow I k gi) (l.set k s):=by
 obtain⟨⟨T,hT,hl,hr⟩,hy⟩:=h;have Jw:k < T.length:=by omega
 have hkp:=aL (g:=g) [.int .i64 s.f,.int .i64 s.l,.slice b s.ids.length cc] w (k*3)
 refine⟨⟨T.set k ⟨s.f,s.l,.slice b s.ids.length cc⟩,GR.W.set bC hT k ⟨s.f,s.l,.slice b s.ids.length cc⟩ Jw,by simpa using hl,fun i hi'=>?_⟩,fun _=>by
  obtain⟨cs,hc⟩:=hy (by omega)
  exact⟨_,GR.setW_blk [.int .i64 s.f,.int .i64 s.l,.slice b s.ids.length cc] (o:=k*3) (xs:=cs.toList) (by simpa using hc)⟩⟩
 exact amV
theorem NQ.seenPut {w:World} {B:Nat} {n:Nd} {A:bE} {G:aU} {c:Nat→Nat} (h:NQ w B n A G c) (k:Nat) (hk:k < n.seen.length) (s:Sn) (b:Option Addr) (cc gi:Nat) (hi:WO w b cc gi s.ids) (h9:∀x∈fp gi s.ids,c x=9):
 NQ (GR.setW w G.s (k*3) [.int .i64 s.f,.int .i64 s.l,.slice b s.ids.length cc]) B (bY n (n.seen.set k s)) A ⟨G.k,G.p,G.o,G.s,G.r,ow G.i k gi⟩ (qw gi s.ids c):=by
 have c4:c G.s=4:=h.c4 G.s (dz (by omega));have hkc:KC c 4 w (GR.setW w G.s (k*3) [.int .i64 s.f,.int .i64 s.l,.slice b s.ids.length cc]):=KC.setW _ c4;have hlen:(n.seen.set k s).length=n.seen.length:=List.length_set ..;have same:∀x,c x≠9→qw gi s.ids c x=c x:=fun x hx=>qG (fun hm=>hx (h9 x hm))
 have hSQ:lJ (GR.setW w G.s (k*3) [.int .i64 s.f,.int .i64 s.l,.slice b s.ids.length cc]) A.s G.s (ow G.i k gi) (n.seen.set k s):=by
  refine h.sq.store k hk s b cc gi hi (fun x hx e=>?_) (fun x hx e=>?_)
  ·have:=h.ci x hx;rw [e,c4] at this;omega
  ·have:=h9 x hx;rw [e,c4] at this;omega
 refine⟨⟨hkc.w h.k h.ck (by omega),hkc.w h.p h.cp (by omega),hkc.own h.o h.co (by omega),hSQ.w,hkc.own h.r h.cr (by omega),?_,?_,?_,?_,?_,?_,?_,?_⟩,hSQ⟩
 ·intro x hx;have:=h.lo x hx;rw [same x (by omega)];exact this
 ·intro x hx;have:=h.ck x hx;rw [same x (by omega)];exact this
 ·intro x hx;have:=h.cp x hx;rw [same x (by omega)];exact this
 ·intro x hx;have:=h.co x hx;rw [same x (by omega)];exact this
 ·intro x hx;have hx':x∈fp G.s n.seen:=by rw [←JY hlen];exact hx
  have:=h.c4 x hx';rw [same x (by omega)];exact this
 ·intro x hx;obtain⟨i,hi',rfl,hpos⟩:=uf hx;by_cases e:i=k
  ·subst e
   have hpos':0 < s.ids.length:=by
    simp only[bY] at hpos;rw [List.getElem_set_self] at hpos;exact hpos
   have e:ow G.i i gi i=gi:=if_pos rfl;show qw gi s.ids c (ow G.i i gi i)=5
   rw [e];exact Vt (dz hpos')
  ·have e':ow G.i k gi i=G.i i:=if_neg e;show qw gi s.ids c (ow G.i k gi i)=5
   rw [e']
   have hpos':0 < (n.seen[i]'(by simpa [bY] using hi')).ids.length:=by
    simp only[bY] at hpos;rw [List.getElem_set_ne (by omega)] at hpos;exact hpos
   have:=h.ci _ (iL (by simpa [bY] using hi') _ (dz hpos'));rw [same _ (by omega)];exact this
 ·intro x hx;have:=h.cr x hx;rw [same x (by omega)];exact this
 ·refine(lZ _ _).2 (fun i j hi' hj' hij h1 h2=>?_);have hni:=(lZ _ _).1 h.ni;simp only[bY] at hi' hj' h1 h2;have hi2:i < n.seen.length:=by simpa using hi'
  have hj2:j < n.seen.length:=by simpa using hj'
  dsimp only[ow];by_cases e1:i=k
  ·by_cases e2:j=k
   ·omega
   ·rw [if_pos e1,if_neg e2];subst e1;rw [List.getElem_set_self] at h1;rw [List.getElem_set_ne (by omega)] at h2;intro e;have a1:=h9 gi (dz h1);have a2:=h.ci _ (iL hj2 _ (dz h2));rw [←e] at a2;omega
  ·rw [if_neg e1];rw [List.getElem_set_ne (by omega)] at h1;by_cases e2:j=k
   ·rw [if_pos e2];subst e2;rw [List.getElem_set_self] at h2;intro e;have a1:=h9 gi (dz h2);have a2:=h.ci _ (iL hi2 _ (dz h1));rw [e] at a2;omega
   ·rw [if_neg e2];rw [List.getElem_set_ne (by omega)] at h2;exact hni i j hi2 hj2 hij h1 h2
def lK (s:Sn) (low:Int) (k:Nat):List Int:=(s.ids.take k).filter (fun x=>decide (dU s low≤x))
theorem wZ (s:Sn) (low:Int):lK s low s.ids.length=aW s low:=by unfold lK aW;rw [List.take_length]
theorem N9 (s:Sn) (low:Int) (k:Nat) (hk:k < s.ids.length) (h:dU s low≤s.ids[k]):lK s low (k+1)=lK s low k++[s.ids[k]]:=by
 unfold lK;rw [List.take_succ_eq_append_getElem hk,List.filter_append,List.filter_cons_of_pos (by simpa using h)];rfl
theorem R5 (s:Sn) (low:Int) (k:Nat) (hk:k < s.ids.length) (h:¬dU s low≤s.ids[k]):lK s low (k+1)=lK s low k:=by
 unfold lK;rw [List.take_succ_eq_append_getElem hk,List.filter_append,List.filter_cons_of_neg (by simpa using h)];simp
theorem N8 (s:Sn) (low:Int) (k:Nat):(lK s low k).length≤k:=by
 unfold lK;exact Nat.le_trans (List.length_filter_le _ _) (by rw [List.length_take];omega)
theorem yG {w:World} {q:Nat} {B:Nat} {e:TypeId} {sz n:Nat} {v:Value} {xs:List Value} {o:Obj} (h:w.ownsRow B e sz v n xs):((w.drewN q).alloc o).ownsRow B e sz v n xs:=World.ownsRow.alloc (w:=w.drewN q) h o
theorem Xf {α:Type} {en:α→List Value} {sz B:Nat} {w:World} {e:TypeId} {g cp:Nat} {l:List α} (hs:∀x,(en x).length=sz) (h:w.ownsRow B e sz (.slice (some ⟨g,0,none⟩) l.length cp) l.length (GR.flat en l)):GR.W en sz w (some ⟨g,0,none⟩) g l:=fun i hi=>by
 obtain⟨a,c',g',hv,hW,_,ho⟩:=GR.W.of_own hs h;simp only[Value.slice.injEq] at hv;obtain⟨rfl,_,_⟩:=hv;have hg:=ho g' (dz (by omega));simp[Value.ownBlock] at hg;subst hg;exact hW i hi
theorem JM {w W' W'':World} {c:Nat→Nat} {ab:Nat} {a0 a1 a2 a3 a4:Int} {a5:ByteArray} {a6:Int} (h:W'.heap[ab]?=some (.cells #[.int .i64 a0,.int .i64 a1,.int .i64 a2,.int .i64 a3,.int .i64 a4,.string a5,.int .i64 a6] 32 (0,0))) (ho:Out c w W' W'') (hab:w.heap.size≤ab):GR.At gX 7 W'' (some ⟨ab,0,none⟩) [⟨a0,a1,a2,a3,a4,a5,a6⟩]:=fun i hi=>by
 obtain⟨F,hk2,hF⟩:=ho;have hm2:=hk2.obj h (fun hx=>by have:=(hF ab hx).1;omega);refine⟨ab,0,rfl,aA hm2,fun j hj=>?_⟩;have hi0:i=0:=by simp at hi;omega
 subst hi0;have h1:=cell_of_row W'' ab (0+(0*7+j)) _ _ (0,0) hm2;rw [h1];simp[gX]
theorem nC (l:List Int):∀u∈GR.flat aR l,u.oneCell'=true:=GR.flat_oneCell (fun y u hu=>by simp at hu;subst hu;rfl) l
theorem SV {w w':World} {F:List Nat} {B:Nat} {e:TypeId} {sz n:Nat} {v:Value} {xs:List Value} (h:w.ownsRow B e sz v n xs) (hk:aC F w w') (hF:∀x,v.ownBlock=some x→x∉F):w'.ownsRow B e sz v n xs:=by
 refine⟨h.1,?_⟩;rcases h.2 with hn|⟨g,cap,cur,rfl,hb,hgg,rest⟩
 ·exact .inl hn
 ·exact .inr ⟨g,cap,cur,rfl,hb,hk.obj hgg (hF g rfl),rest⟩
theorem aoc (l:List Int) (p:Int→Bool):(l.takeWhile p).length≤l.length:=(List.takeWhile_prefix p).length_le
theorem Sg (l:List Int) (x:Int):jG l x=l.take (l.takeWhile (fun y=>decide (y < x))).length++([x]++l.drop (l.takeWhile (fun y=>decide (y < x))).length):=by
 have h:=List.takeWhile_append_dropWhile (p:=fun y=>decide (y < x)) (l:=l);unfold jG;generalize l.takeWhile (fun y=>decide (y < x))=a at *;generalize l.dropWhile (fun y=>decide (y < x))=b at *;subst h;simp
theorem TB {x:Int}:∀{l:List Int} {j:Nat},j≤l.length→(∀i (hi:i < l.length),i < j→l[i] < x)→(∀hj:j < l.length,¬l[j] < x)→(l.takeWhile (fun y=>decide (y < x))).length=j:=by
 intro l;induction l with
 |nil=>intro j hj _ _;simp at hj;simp[hj]
 |cons a l ih=>
  intro j hj h1 h2
  cases j with
  |zero=>
   have:=h2 (by simp)
   rw [List.takeWhile_cons_of_neg (by simpa using this)]
   rfl
  |succ j=>
   have h0:=h1 0 (by simp) (by omega)
   rw [List.takeWhile_cons_of_pos (by simpa using h0),List.length_cons,ih (by simpa using hj) (fun i hi hij=>h1 (i+1) (by simpa using hi) (by omega)) (fun hj'=>h2 (by simpa using hj'))]
theorem xI {w:World} {g:Nat} {v0 v1 v2:Value} {t:TypeId} (h:w.heap[g]?=some (.cells #[v0,v1,v2] t (0,0))):w.cell? ⟨g,0,none⟩=some v0∧w.cell? ⟨g,1,none⟩=some v1∧w.cell? ⟨g,2,none⟩=some v2:=
 ⟨by rw [cell_of_row w g _ _ t (0,0) h];rfl,by rw [cell_of_row w g _ _ t (0,0) h];rfl,by rw [cell_of_row w g _ _ t (0,0) h];rfl⟩
theorem SS {w:World} {a:Option Addr} {g:Nat} {I:Nat→Nat} {l:List Sn} (h:eO w a g I l) (hl:0 < l.length):g < w.heap.size:=by
 obtain⟨b,c,_,hg,_⟩:=eO.three h 0 hl;exact hg
theorem Fe (n:Nd) (a_k iy dA dJ fq:Option Addr) (aI bf aM aJ aQ:Nat) (G:aU) (c:Nat→Nat) (mK mF mT mI mL:Int) (mk:ByteArray) (mN:Int) (w:World) (B:Nat) (hB:B≤w.heap.size) (h9:∀x,6 < c x→c x=9) (i:Nat) (hi:i < n.seen.length) (s0:Sn) (hs0:n.seen[i]=s0) (hfi:s0.f=mF) (hbef:∀x (hx:x < n.seen.length),x < i→n.seen[x].f≠mF) (hsl:n.seen.length≤1000) (hil:s0.ids.length≤1000) (hhas:nU s0 mL mI=true) (h:NQ w B n (⟨a_k,iy,dA,dJ,fq,aI,bf,aM,aJ,aQ⟩:bE) G c):Calls Tryz.prog 119 #[gu n (⟨a_k,iy,dA,dJ,fq,aI,bf,aM,aJ,aQ⟩:bE),.agg #[.int .i64 mK,.int .i64 mF,.int .i64 mT,.int .i64 mI,.int .i64 mL,.string mk,.int .i64 mN]] w (dZ w B c (bY n (n.seen.set i ⟨mF,dU s0 mL,aW s0 mL⟩),[⟨2,n.id,mF,mI,0,ByteArray.empty,0⟩],0)):=by
 open aj1 in exact Yf
theorem Jd (n:Nd) (a_k iy dA dJ fq:Option Addr) (aI bf aM aJ aQ:Nat) (G:aU) (c:Nat→Nat) (mK mF mT mI mL:Int) (mk:ByteArray) (mN:Int) (w:World) (B:Nat) (hB:B≤w.heap.size) (h9:∀x,6 < c x→c x=9) (i:Nat) (hi:i < n.seen.length) (s0:Sn) (hs0:n.seen[i]=s0) (hfi:s0.f=mF) (hbef:∀x (hx:x < n.seen.length),x < i→n.seen[x].f≠mF) (hsl:n.seen.length≤1000) (hil:s0.ids.length≤1000) (hz:eH n 1048576) (hmk:mk.size≤1048576) (hP:∃g,iy=some ⟨g,0,none⟩) (qd:n.pu.length≤bf) (RL:List Pu) (ok:Bool) (hu:bV n.pu mk 0 1 0 mN=(RL,ok)) (hhas:nU s0 mL mI=false) (hgn:ok=false∨40≤(aW s0 mL).length) (h:NQ w B n (⟨a_k,iy,dA,dJ,fq,aI,bf,aM,aJ,aQ⟩:bE) G c):Calls Tryz.prog 119 #[gu n (⟨a_k,iy,dA,dJ,fq,aI,bf,aM,aJ,aQ⟩:bE),.agg #[.int .i64 mK,.int .i64 mF,.int .i64 mT,.int .i64 mI,.int .i64 mL,.string mk,.int .i64 mN]] w (dZ w B c (bY n (n.seen.set i ⟨mF,dU s0 mL,aW s0 mL⟩),[],1)):=by
 open adW in exact al0
theorem Ck (n:Nd) (a_k iy dA dJ fq:Option Addr) (aI bf aM aJ aQ:Nat) (G:aU) (c:Nat→Nat) (mK mF mT mI mL:Int) (mk:ByteArray) (mN:Int) (w:World) (B:Nat) (hB:B≤w.heap.size) (h9:∀x,6 < c x→c x=9) (i:Nat) (hi:i < n.seen.length) (s0:Sn) (hs0:n.seen[i]=s0) (hfi:s0.f=mF) (hbef:∀x (hx:x < n.seen.length),x < i→n.seen[x].f≠mF) (hsl:n.seen.length≤1000) (hil:s0.ids.length≤1000) (hz:eH n 1048576) (hmk:mk.size≤1048576) (hP:∃g,iy=some ⟨g,0,none⟩) (qd:n.pu.length≤bf) (RL:List Pu) (hu:bV n.pu mk 0 1 0 mN=(RL,true)) (hhas:nU s0 mL mI=false) (hgn:(aW s0 mL).length < 40) (h:NQ w B n (⟨a_k,iy,dA,dJ,fq,aI,bf,aM,aJ,aQ⟩:bE) G c):Calls Tryz.prog 119 #[gu n (⟨a_k,iy,dA,dJ,fq,aI,bf,aM,aJ,aQ⟩:bE),.agg #[.int .i64 mK,.int .i64 mF,.int .i64 mT,.int .i64 mI,.int .i64 mL,.string mk,.int .i64 mN]] w (dZ w B c (bY (setPu n RL) (n.seen.set i ⟨mF,dU s0 mL,jG (aW s0 mL) mI⟩),[⟨2,n.id,mF,mI,0,ByteArray.empty,0⟩],0)):=by
 open adV in exact al0
end Go.Proofs.YtacgbldlonoaaaaGreatDoor
