/- Parts. -/
import Derived.Test.YtfmdndhliinhpaaGreatDoorRa12
namespace Go.Proofs.YtfmdndhliinhpaaGreatDoor
set_option maxHeartbeats 8000000
set_option maxRecDepth 100000
open Go.RowKit
open Mth
theorem qB {nb:Nat} {X Y:World} {i:Nat} {v:Value} (hb:Below X.heap.size X Y):aC [nb] X (Y.setCell ⟨nb,i,none⟩ v):=(aC.of_below hb).trans (aC.set v)
theorem qj {w Y:World} {nb i:Nat} {v:Value} (hn:w.heap.size≤nb) (hb:Below w.heap.size w Y):Below w.heap.size w (Y.setCell ⟨nb,i,none⟩ v):=hb.setCell (p:=⟨nb,i,none⟩) hn v
theorem mV {Y:World} {nb i:Nat} {v:Value} {cs:Array Value} (h:Y.heap[nb]?=some (.cells cs 30 (0,0))):(Y.setCell ⟨nb,i,none⟩ v).heap[nb]?=some (.cells (cs.setIfInBounds i v) 30 (0,0)):=bg h i v
theorem dB {F:List Nat} {Y W:World} {B:Nat} {t:TypeId} {sz k:Nat} {v:Value} {xs:List Value} (h:Y.ownsRow B t sz v k xs) (hk:aC F Y W) (hd:∀x∈F,x < B):W.ownsRow B t sz v k xs:=by
 refine⟨h.1,?_⟩;rcases h.2 with hn|⟨g,cap,cur,rfl,hb,hgg,rest⟩
 ·exact .inl hn
 ·exact .inr ⟨g,cap,cur,rfl,hb,hk.obj hgg (fun hm=>by have:=hd g hm;omega),rest⟩
theorem Ut (u:Value):∀(l:List R3) (i:Nat) (hi:i < l.length),(GR.flat dD l).set (i*3+2) u=GR.flat dD (l.set i ⟨l[i].f,l[i].l,u⟩):=by
 intro l;induction l with
 |nil=>intro i hi;simp at hi
 |cons x r ih=>
  intro i hi
  cases i with
  |zero=>rfl
  |succ i=>
   have hi2:i < r.length:=by simpa using hi
   have h1:=ih i hi2
   show(dD x++GR.flat dD r).set ((i+1)*3+2) u=dD x++GR.flat dD (r.set i ⟨r[i].f,r[i].l,u⟩)
   rw [←h1,List.set_append_right _ _ (by show 3≤_;omega)]
   congr 2
   show(i+1)*3+2 - 3=_
   omega
structure SC (w W5 wr:World) (B k:Nat) (l:List Sn) (T T2:List R3) (I:Nat→Nat) (a:Option Addr) (cs:Nat):Prop where
 len:T2.length=l.length
 own:wr.ownsRow B 57 3 (.slice a l.length cs) l.length (GR.flat dD T2)
 dn:∀i (hi:i < l.length),i < k→∃b c,T2[i]?=some ⟨l[i].f,l[i].l,.slice b l[i].ids.length c⟩∧GR.W aP 1 wr b (I i) l[i].ids∧∀x∈fp (I i) l[i].ids,W5.heap.size≤x∧x < wr.heap.size
 up:∀i,k≤i→T2[i]?=T[i]?
 nd:∀i j (hi:i < l.length) (hj:j < l.length),i < j→j < k→0 < l[i].ids.length→0 < l[j].ids.length→I i≠I j
 gr:W5.grownBy wr (Value.slice a l.length cs).ownBlock
theorem SC.start {w W5:World} {B:Nat} {l:List Sn} {T:List R3} {a:Option Addr} {cs:Nat} (hT:T.length=l.length) (ho:W5.ownsRow B 57 3 (.slice a l.length cs) l.length (GR.flat dD T)):SC w W5 W5 B 0 l T T (fun _=>0) a cs:=
 ⟨hT,ho,fun i _ h=>by omega,fun _ _=>rfl,fun i j _ _ _ h=>by omega,World.grownBy.refl _ _⟩
theorem SC.next {w W5 wr x:World} {B k:Nat} {l:List Sn} {T T2:List R3} {I:Nat→Nat} {a:Option Addr} {cs g gi cc:Nat} {b:Option Addr} (h:SC w W5 wr B k l T T2 I a cs) (hk:k < l.length) (ha:a=some ⟨g,0,none⟩) (hT:∃b c,T[k]?=some ⟨l[k].f,l[k].l,.slice b l[k].ids.length c⟩) (hx:Below wr.heap.size wr x) (hg5:g < W5.heap.size)
 (hi:GR.W aP 1 x b gi l[k].ids) (hlt:∀z∈fp gi l[k].ids,wr.heap.size≤z∧z < x.heap.size):SC w W5 (x.setCell ⟨g,k*3+2,none⟩ (.slice b l[k].ids.length cc)) B (k+1) l T (T2.set k ⟨l[k].f,l[k].l,.slice b l[k].ids.length cc⟩) (fun i=>if i=k then gi else I i) a cs:=by
 subst ha;have hk2:k < T2.length:=by rw [h.len];exact hk
 have hTk:∃b c,T2[k]=⟨l[k].f,l[k].l,.slice b l[k].ids.length c⟩:=by
  obtain⟨b',c',e⟩:=hT;refine⟨b',c',?_⟩;have:=h.up k (Nat.le_refl _);rw [List.getElem?_eq_getElem hk2,e] at this;exact Option.some.inj this
 have hgs:x.heap.size=(x.setCell ⟨g,k*3+2,none⟩ (.slice b l[k].ids.length cc)).heap.size:=by simp[World.setCell]
 have hkp:aC [g] x (x.setCell ⟨g,k*3+2,none⟩ (.slice b l[k].ids.length cc)):=aC.set _;have hws:=h.gr.size;have hxs:=hx.size;refine⟨by rw [List.length_set];exact h.len,?_,fun i hi' hik=>?_,fun i hik=>?_,fun i j hi' hj hij hjk h1 h2=>?_,?_⟩
 ·have ho:=GR.own_below h.own hx;have hst:=(ho.stored (k*3+2) (.slice b l[k].ids.length cc)).1;rw [Ut _ T2 k hk2] at hst;obtain⟨b',c',e⟩:=hTk;rw [e] at hst;exact hst
 ·by_cases e:i=k
  ·subst e;refine⟨b,cc,by rw [List.getElem?_set_self hk2],?_,?_⟩
   ·rw [if_pos rfl];exact hi.keeps hkp (fun z hz hm=>by have:=(hlt z hz).1;have:z=g:=(by simpa using hm);omega)
   ·rw [if_pos rfl];exact fun z hz=>⟨by have:=(hlt z hz).1;omega,by rw [←hgs];exact(hlt z hz).2⟩
  ·obtain⟨b',c',e1,e2,e3⟩:=h.dn i hi' (by omega);refine⟨b',c',by rw [List.getElem?_set_ne (by omega)];exact e1,?_,?_⟩
   ·rw [if_neg e];exact(e2.below hx).keeps hkp (fun z hz hm=>by have:=(e3 z hz).1;have:z=g:=(by simpa using hm);omega)
   ·rw [if_neg e];exact fun z hz=>⟨(e3 z hz).1,by rw [←hgs];have:=(e3 z hz).2;omega⟩
 ·rw [List.getElem?_set_ne (by omega)];exact h.up i (by omega)
 ·by_cases ej:j=k
  ·subst ej;rw [if_neg (by omega),if_pos rfl];obtain⟨_,_,_,_,e3⟩:=h.dn i hi' (by omega);have q1:=(e3 (I i) (dz h1)).2;have q2:=(hlt gi (dz h2)).1;omega
  ·exact acu
 ·refine h.gr.andThen (row':=some g) ⟨hx.os,hx.tape,hx.output,by rw [←hgs];exact hx.size,fun z hz hne=>?_⟩ (fun j hj=> .inr (by cases hj;rfl));rw [Below.heap_setCell _ _ _ _ (fun e=>hne (by rw [e]))];exact hx.block z hz
theorem SC.done {w W5 wr:World} {B:Nat} {l:List Sn} {T T2:List R3} {I:Nat→Nat} {a:Option Addr} {cs:Nat} (h:SC w W5 wr B l.length l T T2 I a cs):∃g,fq wr a g I l∧(∀x∈fp g l,B≤x∧(Value.slice a l.length cs).ownBlock=some x)∧(∀x∈nT I l,W5.heap.size≤x∧x < wr.heap.size)∧(nT I l).Nodup:=by
 open am7 in exact aaJ
theorem SC.below {w W5 wr:World} {B k:Nat} {l:List Sn} {T T2:List R3} {I:Nat→Nat} {a:Option Addr} {cs:Nat} (h:SC w W5 wr B k l T T2 I a cs) {C:Nat} (hC:C≤B) (hs:C≤W5.heap.size):Below C W5 wr:=
 ⟨h.gr.os,h.gr.tape,h.gr.output,h.gr.size,fun x hx=>h.gr.block x (by omega) (fun e=>by have:=(h.own.lt x e.symm).1;omega)⟩
theorem vV {α:Type} {enc:α→List Value} {sz:Nat} {w w':World} {a:Option Addr} {g:Nat} {l:List α} (h:GR.W enc sz w a g l) (hs:w.heap.size≤w'.heap.size) (hb:∀x∈fp g l,w'.heap[x]?=w.heap[x]?):GR.W enc sz w' a g l:=fun i hi=>by
 obtain⟨e,hg,hc⟩:=h i hi;have hbl:=hb g (dz (by omega));exact⟨e,by omega,fun j hj=>⟨(World.cell?_of_block (w:=w) hbl).trans (hc j hj).1,(World.frozen?_of_block (w:=w) hbl).trans (hc j hj).2⟩⟩
theorem jk {w w':World} {B:Nat} {t:TypeId} {sz k:Nat} {v:Value} {xs:List Value} (h:w.ownsRow B t sz v k xs) (hb:∀x,v.ownBlock=some x→w'.heap[x]?=w.heap[x]?):w'.ownsRow B t sz v k xs:=by
 refine⟨h.1,?_⟩;rcases h.2 with hn|⟨g,cap,cur,rfl,hB,hgg,rest⟩
 ·exact .inl hn
 ·exact .inr ⟨g,cap,cur,rfl,hB,(hb g rfl).trans hgg,rest⟩
theorem iQ {w:World} {B B':Nat} {t:TypeId} {sz k:Nat} {v:Value} {xs:List Value} (h:w.ownsRow B t sz v k xs) (hB:B'≤B):w.ownsRow B' t sz v k xs:=by
 refine⟨h.1,?_⟩;rcases h.2 with hn|⟨g,cap,cur,rfl,hBg,rest⟩
 ·exact .inl hn
 ·exact .inr ⟨g,cap,cur,rfl,by omega,rest⟩
theorem IL {w w':World} {a:Option Addr} {g:Nat} {I:Nat→Nat} {l:List Sn} (h:fq w a g I l) (hs:w.heap.size≤w'.heap.size) (hb:∀x∈fp g l,w'.heap[x]?=w.heap[x]?) (hI:∀x∈nT I l,w'.heap[x]?=w.heap[x]?):fq w' a g I l:=by
 obtain⟨T,hT,hl,hr⟩:=h;refine⟨T,vV hT hs (fun x hx=>hb x (by have:=fD hx;rw [this.1];exact dz (by omega))),hl,fun i hi=>?_⟩;obtain⟨b,c,ht,hi2⟩:=hr i hi;exact⟨b,c,ht,vV hi2 hs (fun x hx=>hI x (gM hi x hx))⟩
def zw (s0 s1 s2 s4 s5 s6 x:Nat):Nat:=if x < s0 then 0 else if x < s1 then 1 else if x < s2 then 2 else if x < s4 then 3 else if x < s5 then 4 else if x < s6 then 5 else 6
theorem FV (n:Nd) (A:bQ) (w:World) (hz:eF n 1048576) (ha:dQ w A n):
 Calls Tryz.prog 13 #[fU n A] w fun e w'=>∃A' G' c',e= .returned (fU n A')∧NO w' w.heap.size n A' G' c'∧Below w.heap.size w w':=by
 have HZ:=hide hz;have HA:=hide ha;have hlo:=hz.o;have hls:=hz.s;have hlr:=hz.r;clear hz ha;go_enter Tryz.func13,Tryz.ntmps13
 go_upto_region 1 with fail;refine wp_at (fun W0 hW=>?_);obtain⟨e1,e2,e3⟩:=jL w (.cells (fO n A) 30) (.cells iV 30);rw [←hW] at e1 e2 e3;have uo:=hide e1;have Iu:=hide e2;have Aw:=hide e3;have hsz0:=aA e2;clear hW e1 e2 e3;obtain⟨c0,c1,c2,c3,c4,c5,c6,c7,c8⟩:=nine uo;have adY:=aA uo;have auz:=aj uo 2;go_wp2_with fail;refine(yA A.k A.ck n.kids W0 (Nat.le_trans HZ.k (by omega)) (GR.At.below HA.k Aw)).mono ?_;rintro e y ⟨vk,rfl,hrow,hby⟩;obtain⟨ak,ck,gk,rfl,hWk,hgk,_⟩:=GR.W.of_own (enc:=aP) aN hrow;clear hrow;have vS:=hide hby;have hN1:=au uo hby;have f1:=aj hN1 2;have FJ:=aA hN1;obtain⟨d0,d1,d2,d3,d4,d5,d6,d7,d8⟩:=nine hN1;clear c0 c1 c2 c3 c4 c5 c6 c7 c8 hby auz;go_upto_region 2 with fail;refine wp_at (fun W1 hW=>?_);have uq:Hid (W1.heap[w.heap.size]?=some (.cells #[.int .i64 n.id,.int .i64 n.par,.slice ak n.kids.length ck,.int .i64 n.next,.slice A.p n.pu.length A.cp,.slice A.o n.out.length A.co,.slice A.s n.seen.length A.cs,.int .i64 n.old,.slice A.r n.reqs.length A.cr] 30 (0,0))):=by rw [hW];exact mV hN1
 have Iw:Hid (W1.heap[w.heap.size+1]?=some (.cells iV 30 (0,0))):=by rw [hW];exact(Below.heap_setCell _ _ _ _ (show w.heap.size+1≠w.heap.size by omega)).trans (au Iu vS)
 have Az:Hid (Below w.heap.size w W1):=by rw [hW];exact qj (Nat.le_refl _) (Aw.trans (vS.mono Aw.size))
 have Ie:Hid (aC [w.heap.size] W0 W1):=by rw [hW];exact qB vS
 have Oc:Hid (aC [w.heap.size] y W1):=by rw [hW];exact aC.set _
 clear hW hN1 f1 FJ d0 d1 d2 d3 d4 d5 d6 d7 d8 uo Iu;have HKW:Hid (GR.W aP 1 W1 ak gk n.kids∧∀x∈fp gk n.kids,W0.heap.size≤x∧x < W1.heap.size):=⟨hWk.keeps Oc (fun x hx=>by have:=(hgk x hx).1;simp;omega),fun x hx=>⟨(hgk x hx).1,Nat.lt_of_lt_of_le (hgk x hx).2 Oc.size⟩⟩;clear hWk hgk;obtain⟨c0,c1,c2,c3,c4,c5,c6,c7,c8⟩:=nine uq;have adZ:=aA uq;have auA:=aj uq 4;go_wp2_with fail;refine(Jv A.p A.cp n.pu W1 HZ.p HZ.pk (GR.At.below HA.p Az)).mono ?_;rintro e y ⟨ap,cp,gp,UG,rfl,hWp,hby⟩;have vT:=hide hby;have hN1:=au uq hby;have f1:=aj hN1 4;have FJ:=aA hN1;obtain⟨d0,d1,d2,d3,d4,d5,d6,d7,d8⟩:=nine hN1;clear c0 c1 c2 c3 c4 c5 c6 c7 c8 hby auA;go_upto_region 3 with fail;refine wp_at (fun W2 hW=>?_);have uw:Hid (W2.heap[w.heap.size]?=some (.cells #[.int .i64 n.id,.int .i64 n.par,.slice ak n.kids.length ck,.int .i64 n.next,.slice ap n.pu.length cp,.slice A.o n.out.length A.co,.slice A.s n.seen.length A.cs,.int .i64 n.old,.slice A.r n.reqs.length A.cr] 30 (0,0))):=by rw [hW];exact mV hN1
 have Iz:Hid (W2.heap[w.heap.size+1]?=some (.cells iV 30 (0,0))):=by rw [hW];exact(Below.heap_setCell _ _ _ _ (show w.heap.size+1≠w.heap.size by omega)).trans (au Iw vT)
 have AA:Hid (Below w.heap.size w W2):=by rw [hW];exact qj (Nat.le_refl _) (Az.trans (vT.mono Az.size))
 have Ea:Hid (aC [w.heap.size] W1 W2):=by rw [hW];exact qB vT
 have Oe:Hid (aC [w.heap.size] y W2):=by rw [hW];exact aC.set _
 clear hW hN1 f1 FJ d0 d1 d2 d3 d4 d5 d6 d7 d8 uq Iw
 have Cu:Hid (GR.W eG 4 W2 ap gp n.pu∧∀x∈fp gp n.pu,W1.heap.size≤x∧x < W2.heap.size):=by
  have hgy:=Bj (show GR.W eG 4 y ap gp n.pu from hWp);have hs0:=Ie.size;refine⟨GR.W.keeps (show GR.W eG 4 y ap gp n.pu from hWp) Oe (fun x hx=>by have:=(fD hx).1;simp;omega),fun x hx=>⟨by have:=(fD hx).1;omega,Nat.lt_of_lt_of_le (hgy x hx) Oe.size⟩⟩
 clear hWp UG;obtain⟨c0,c1,c2,c3,c4,c5,c6,c7,c8⟩:=nine uw;have ad1:=aA uw;have auB:=aj uw 5;go_wp2_with fail;refine(Un A.o A.co n.out W2 (Nat.le_trans HZ.o (by omega)) (zi _) (GR.At.below HA.o AA)).mono ?_;rintro e y ⟨vo,rfl,hrow,hby⟩;obtain⟨ao,co,rfl,_⟩:=GR.own_at (enc:=aU) (sz:=4) cu hrow;have vU:=hide hby;have hN1:=au uw hby;have f1:=aj hN1 5;have FJ:=aA hN1;obtain⟨d0,d1,d2,d3,d4,d5,d6,d7,d8⟩:=nine hN1;clear c0 c1 c2 c3 c4 c5 c6 c7 c8 hby auB;go_upto_region 4 with fail;refine wp_at (fun W3 hW=>?_);have uy:Hid (W3.heap[w.heap.size]?=some (.cells #[.int .i64 n.id,.int .i64 n.par,.slice ak n.kids.length ck,.int .i64 n.next,.slice ap n.pu.length cp,.slice ao n.out.length co,.slice A.s n.seen.length A.cs,.int .i64 n.old,.slice A.r n.reqs.length A.cr] 30 (0,0))):=by rw [hW];exact mV hN1
 have IB:Hid (W3.heap[w.heap.size+1]?=some (.cells iV 30 (0,0))):=by rw [hW];exact(Below.heap_setCell _ _ _ _ (show w.heap.size+1≠w.heap.size by omega)).trans (au Iz vU)
 have D8:Hid (Below w.heap.size w W3):=by rw [hW];exact qj (Nat.le_refl _) (AA.trans (vU.mono AA.size))
 have Eb:Hid (aC [w.heap.size] W2 W3):=by rw [hW];exact qB vU
 have Sm:Hid (aC [w.heap.size] y W3):=by rw [hW];exact aC.set _
 clear hW hN1 f1 FJ d0 d1 d2 d3 d4 d5 d6 d7 d8 uw Iz;have HOW:Hid (W3.ownsRow W2.heap.size 55 4 (.slice ao n.out.length co) n.out.length (GR.flat aU n.out)):=dB hrow Sm (fun x hx=>by have:x=w.heap.size:=(by simpa using hx);omega);clear hrow;have ad3:=aA uy;obtain⟨c0,c1,c2,c3,c4,c5,c6,c7,c8⟩:=nine uy;go_wp2_with fail;go_loopw [21] (fun i wr=>∃k:Nat,k≤n.out.length∧i= .int .i64 k∧Below W3.heap.size W3 wr) (fun i _=>n.out.length - (intOf i).toNat)
 case atStart=>exact OG
 case' round=>
  obtain⟨k,hk,rfl,hbw⟩:=hrel
  clear c0 c1 c2 c3 c4 c5 c6 c7 c8
  by_cases hlt:k < n.out.length
  case' pos=>
   have Jm:(k:Int) < (n.out.length:Int):=by omega
   have iJ:=hide hbw
   have Ld:=hide (au uy hbw)
   obtain⟨g,rest,e0,hBg,hgb⟩:=wW (GR.own_below HOW hbw) (show 0 < n.out.length by omega)
   have jD:=hide hgb
   have q2:wr.cell? ⟨g,k*4+2,none⟩=some (.string n.out[k].k):=BQ cu hgb k hlt 2 (by omega)
   have hkk:n.out[k].k.size≤281474976710656:=Nat.le_trans (HZ.ok _ (List.getElem_mem hlt)) (by omega)
   have jr:=hide (fun w1=>clone n.out[k].k w1 hkk)
   obtain⟨c0,c1,c2,c3,c4,c5,c6,c7,c8⟩:=nine Ld
   have hnr:=aA Ld
   have hgr:=aA hgb
   clear hbw hgb hkk
   subst e0
   generalize n.out[k].k=kx at *
   go_upto_region 7 with fail
   have y5:=cell_regrown c5
   have z2:=cell_regrown q2
   clear c0 c1 c2 c3 c4 c5 c6 c7 c8
   refine bJ 12 (by kernel_rfl) ?_
   show dZ _ _ _ _ _ 13 (Array.replicate 13 false) _ _
   refine tk [0,1,2,3,4,5,6,7,8] ?_
   iterate 9 (refine oJ (fun K hK=>?_);go_simp;refine hK _ ?_;clear hK K)
   refine kK ?_
   clear y5 z2
   refine dK 9 rfl (by kernel_rfl) (by rfl) (fun x hx=>?_)
   go_simp
   refine(jr x).mono ?_
   rintro e y ⟨rfl,hby⟩
   refine⟨hby,?_⟩
   have HY:=hide (Ge.trans hx hby)
   clear hx hby jr
   refine tk [10,11] ?_
   iterate 2 (refine oJ (fun K hK=>?_);go_simp;refine hK _ ?_;clear hK K)
   refine kK ?_
   refine aZ (by kernel_rfl) (fun x3 hx3=>?_)
   have WL:=hide (Ge.trans HY hx3)
   have CU:=au jD WL
   have q3:x3.cell? ⟨g,k*4+2,none⟩=some (.string kx):=(WL.cell (p:=⟨g,k*4+2,none⟩) hgr).trans q2
   have f3:=aj CU (k*4+2)
   have Rb:=hide (AZ CU q3)
   clear hx3 CU q2
   refine aF 12 rfl (by kernel_rfl) (by rfl) ?_
   go_simp
   refine wpAny_done (by kernel_rfl) ?_
   go_simp
   clear q3 f3
   go_wp2_with fail
   go_roundw
   case rel=>exact acw
   case measure=>simp[intOf];omega
  have hke:k=n.out.length:=by omega
  subst hke
  have hnlt:decide ((n.out.length:Int) < (n.out.length:Int))=false:=by simp
  have iJ:=hide hbw
  clear hbw
  go_upto_region 9 with fail
  refine wp_at (fun W4 hWW=>?_)
  subst hWW
  have vO:=hide (au uy iJ)
  have N9:=hide (au IB iJ)
  have AJ:=hide (D8.trans (iJ.mono D8.size))
  have Ec:Hid (aC [w.heap.size] W3 W4):=aC.of_below iJ
  clear iJ hnlt uy IB hlt
 obtain⟨T,hT,hAt,hT1,hTr⟩:=VY HA.s;have HTR:=hide hTr;have HT:=hide hT;have Lr:=XZ A.s A.cs T W4 (by rw [hT];omega) hT1 (GR.At.below hAt AJ);rw [hT] at Lr;have HCS:=hide Lr;clear hTr hAt hT1 Lr hT;obtain⟨c0,c1,c2,c3,c4,c5,c6,c7,c8⟩:=nine vO;have ad4:=aA vO;have auC:=aj vO 6;go_wp2_with fail;refine HCS.mono ?_;rintro e y ⟨vs,rfl,hrow,hby⟩;have hrow2:=hrow;rw [←ah HT] at hrow2;obtain⟨Ri,cs,hvs,_⟩:=GR.own_at (enc:=dD) (sz:=3) (l:=T) bC hrow2;rw [ah HT] at hvs;subst hvs;clear hrow2 HCS;have Sv:=hide hby;have hN1:=au vO hby;have f1:=aj hN1 6;have FJ:=aA hN1;obtain⟨d0,d1,d2,d3,d4,d5,d6,d7,d8⟩:=nine hN1;clear c0 c1 c2 c3 c4 c5 c6 c7 c8 hby auC;go_upto_region 10 with fail;refine wp_at (fun W5 hW=>?_);have NW:Hid (W5.heap[w.heap.size]?=some (.cells #[.int .i64 n.id,.int .i64 n.par,.slice ak n.kids.length ck,.int .i64 n.next,.slice ap n.pu.length cp,.slice ao n.out.length co,.slice Ri n.seen.length cs,.int .i64 n.old,.slice A.r n.reqs.length A.cr] 30 (0,0))):=by rw [hW];exact mV hN1
 have Sc:Hid (W5.heap[w.heap.size+1]?=some (.cells iV 30 (0,0))):=by rw [hW];exact(Below.heap_setCell _ _ _ _ (show w.heap.size+1≠w.heap.size by omega)).trans (au N9 Sv)
 have aeX:Hid (Below w.heap.size w W5):=by rw [hW];exact qj (Nat.le_refl _) (AJ.trans (Sv.mono AJ.size))
 have Ed:Hid (aC [w.heap.size] W4 W5):=by rw [hW];exact qB Sv
 have afn:Hid (aC [w.heap.size] y W5):=by rw [hW];exact aC.set _
 clear hW hN1 f1 FJ d0 d1 d2 d3 d4 d5 d6 d7 d8 vO N9;have Zy:Hid (W5.ownsRow W4.heap.size 57 3 (.slice Ri n.seen.length cs) n.seen.length (GR.flat dD T)):=dB hrow afn (fun x hx=>by have:x=w.heap.size:=(by simpa using hx);omega);clear hrow;have avd:=aA NW;have avF:=aA Sc;have auY:=Ed.size;have auI:=AJ.size;obtain⟨c0,c1,c2,c3,c4,c5,c6,c7,c8⟩:=nine NW;go_wp2_with fail;go_loopw [44] (fun i wr=>∃(k:Nat) (T2:List R3) (I:Nat→Nat),k≤n.seen.length∧i= .int .i64 k∧SC w W5 wr W4.heap.size k n.seen T T2 I Ri cs) (fun i _=>n.seen.length - (intOf i).toNat)
 case atStart=>exact⟨0,T,_,Nat.zero_le _,rfl,SC.start HT Zy⟩
 case' round=>
  obtain⟨k,T2,I,hk,rfl,hsc⟩:=hrel
  clear c0 c1 c2 c3 c4 c5 c6 c7 c8
  have HSC:=hide hsc
  have fG:=hide (hsc.below (Nat.le_refl W4.heap.size) auY)
  have hN4:w.heap.size+1 < W4.heap.size:=by have:=Ie.size;have:=Ea.size;have:=Eb.size;have:=Ec.size;omega
  have Ld:Hid (wr.heap[w.heap.size]?=some (.cells #[.int .i64 n.id,.int .i64 n.par,.slice ak n.kids.length ck,.int .i64 n.next,.slice ap n.pu.length cp,.slice ao n.out.length co,.slice Ri n.seen.length cs,.int .i64 n.old,.slice A.r n.reqs.length A.cr] 30 (0,0))):=(fG.block _ (by omega)).trans NW
  have LH:Hid (wr.heap[w.heap.size+1]?=some (.cells iV 30 (0,0))):=(fG.block _ (by omega)).trans Sc
  have Ru:=hide (aeX.trans (fG.mono auI))
  clear hsc
  by_cases hlt:k < n.seen.length
  case' pos=>
   have Jm:(k:Int) < (n.seen.length:Int):=by omega
   obtain⟨b,cc,hTk,hIb⟩:=ah HTR k hlt
   have hk2:k < T2.length:=by rw [(ah HSC).len];exact hlt
   have ho2:=HSC.own
   rw [←(ah HSC).len] at ho2
   obtain⟨g,rest,e0,hBg,hgb⟩:=wW ho2 (show 0 < T2.length by omega)
   have arB:T2[k]=⟨n.seen[k].f,n.seen[k].l,.slice b n.seen[k].ids.length cc⟩:=by
    have:=HSC.up k (Nat.le_refl _);rw [List.getElem?_eq_getElem hk2,hTk] at this;exact Option.some.inj this
   have q2:wr.cell? ⟨g,k*3+2,none⟩=some (.slice b n.seen[k].ids.length cc):=by
    have:=BQ bC hgb k hk2 2 (by omega);rw [arB] at this;exact this
   have hg5:g < W5.heap.size:=(Zy.lt g (by rw [e0];rfl)).2
   have jr:=hide (fun w1 (h1:Below wr.heap.size wr w1)=>yA b cc n.seen[k].ids w1 (Nat.le_trans (HZ.sk _ (List.getElem_mem hlt)) (by omega)) (GR.At.below hIb (Ru.trans (h1.mono Ru.size))))
   have jD:=hide hgb
   have fP:=hide (fun x b2 c2 g2 hx hi hl=>SC.next (x:=x) (b:=b2) (cc:=c2) (gi:=g2) HSC hlt e0 ⟨b,cc,hTk⟩ hx hg5 hi hl)
   obtain⟨c0,c1,c2,c3,c4,c5,c6,c7,c8⟩:=nine Ld
   have hnr:=aA Ld
   have hgr:=aA hgb
   clear hTk hIb ho2 hgb arB
   subst e0
   generalize n.seen[k].ids=ids at *
   go_upto_region 13 with fail
   have y6:=cell_regrown c6
   have z2:=cell_regrown q2
   clear c0 c1 c2 c3 c4 c5 c6 c7 c8
   refine bJ 12 (by kernel_rfl) ?_
   show dZ _ _ _ _ _ 13 (Array.replicate 13 false) _ _
   refine tk [0,1,2,3,4,5,6,7,8] ?_
   iterate 9 (refine oJ (fun K hK=>?_);go_simp;refine hK _ ?_;clear hK K)
   refine kK ?_
   clear y6 z2
   refine dK 9 rfl (by kernel_rfl) (by rfl) (fun x hx=>?_)
   go_simp
   refine(jr x hx).mono ?_
   rintro e y ⟨v2,rfl,hrow,hby⟩
   refine⟨hby,?_⟩
   obtain⟨b2,c2,g2,rfl,hW2,hg2,_⟩:=GR.W.of_own (enc:=aP) aN hrow
   have HY:=hide (Ge.trans hx hby)
   have Sq:=hide (And.intro hW2 (fun z (hz:z∈fp g2 ids)=>And.intro (Nat.le_trans hx.size (hg2 z hz).1) (hg2 z hz).2))
   clear hx hby jr hrow hW2 hg2
   refine tk [10,11] ?_
   iterate 2 (refine oJ (fun K hK=>?_);go_simp;refine hK _ ?_;clear hK K)
   refine kK ?_
   refine aZ (by kernel_rfl) (fun x3 hx3=>?_)
   have WL:=hide (Ge.trans HY hx3)
   have Xz:=hide (fP x3 b2 c2 g2 WL (Sq.1.below hx3) (fun z hz=>⟨(Sq.2 z hz).1,Nat.lt_of_lt_of_le (Sq.2 z hz).2 hx3.size⟩))
   have CU:=au jD WL
   have q3:x3.cell? ⟨g,k*3+2,none⟩=some (.slice b ids.length cc):=(WL.cell (p:=⟨g,k*3+2,none⟩) hgr).trans q2
   have f3:=aj CU (k*3+2)
   clear hx3 CU q2 fP
   refine aF 12 rfl (by kernel_rfl) (by rfl) ?_
   go_simp
   refine wpAny_done (by kernel_rfl) ?_
   go_simp
   clear q3 f3
   go_wp2_with fail
   go_roundw
   case rel=>exact⟨k+1,_,_,by omega,by go_num,Xz⟩
   case measure=>simp[intOf];omega
  have hke:k=n.seen.length:=by omega
  subst hke
  have hnlt:decide ((n.seen.length:Int) < (n.seen.length:Int))=false:=by simp
  go_upto_region 15 with fail
  refine wp_at (fun W6 hWW=>?_)
  subst hWW
  have Ii:=hide Ld
  have Zw:=hide LH
  have Rt:=hide Ru
  have Zj:=hide fG
  obtain⟨gs,hsn⟩:=HSC.done
  obtain⟨I6,hI6⟩:∃J,J=I:=⟨I,rfl⟩
  rw [←hI6] at hsn
  have HSN:=hide hsn
  clear hsn hI6 HSC Ld LH Ru fG hnlt NW Sc hlt
 obtain⟨c0,c1,c2,c3,c4,c5,c6,c7,c8⟩:=nine Ii;have ave:=aA Ii;have auD:=aj Ii 8;go_wp2_with fail;refine(X9 A.r A.cr n.reqs W6 (Nat.le_trans HZ.r (by omega)) (gQ _) (GR.At.below HA.r Rt)).mono ?_;rintro e y ⟨vr,rfl,hrow,hby⟩;obtain⟨ar,cr,rfl,_⟩:=GR.own_at (enc:=aJ) (sz:=4) aY hrow;have Sw:=hide hby;have hN1:=au Ii hby;have f1:=aj hN1 8;have FJ:=aA hN1;obtain⟨d0,d1,d2,d3,d4,d5,d6,d7,d8⟩:=nine hN1;clear c0 c1 c2 c3 c4 c5 c6 c7 c8 hby auD;go_upto_region 16 with fail;refine wp_at (fun W7 hW=>?_);have Ij:Hid (W7.heap[w.heap.size]?=some (.cells #[.int .i64 n.id,.int .i64 n.par,.slice ak n.kids.length ck,.int .i64 n.next,.slice ap n.pu.length cp,.slice ao n.out.length co,.slice Ri n.seen.length cs,.int .i64 n.old,.slice ar n.reqs.length cr] 30 (0,0))):=by rw [hW];exact mV hN1
 have Zx:Hid (W7.heap[w.heap.size+1]?=some (.cells iV 30 (0,0))):=by rw [hW];exact(Below.heap_setCell _ _ _ _ (show w.heap.size+1≠w.heap.size by omega)).trans (au Zw Sw)
 have Y8:Hid (Below w.heap.size w W7):=by rw [hW];exact qj (Nat.le_refl _) (Rt.trans (Sw.mono Rt.size))
 have Zk:Hid (aC [w.heap.size] W6 W7):=by rw [hW];exact qB Sw
 have afo:Hid (aC [w.heap.size] y W7):=by rw [hW];exact aC.set _
 clear hW hN1 f1 FJ d0 d1 d2 d3 d4 d5 d6 d7 d8 Ii Zw;have HQW:Hid (W7.ownsRow W6.heap.size 43 4 (.slice ar n.reqs.length cr) n.reqs.length (GR.flat aJ n.reqs)):=dB hrow afo (fun x hx=>by have:x=w.heap.size:=(by simpa using hx);omega);clear hrow;have avf:=aA Ij;obtain⟨c0,c1,c2,c3,c4,c5,c6,c7,c8⟩:=nine Ij;go_wp2_with fail;go_loopw [67] (fun i wr=>∃k:Nat,k≤n.reqs.length∧i= .int .i64 k∧Below W7.heap.size W7 wr) (fun i _=>n.reqs.length - (intOf i).toNat)
 case atStart=>exact OG
 case' round=>
  obtain⟨k,hk,rfl,hbw⟩:=hrel
  clear c0 c1 c2 c3 c4 c5 c6 c7 c8
  by_cases hlt:k < n.reqs.length
  case' pos=>
   have Jm:(k:Int) < (n.reqs.length:Int):=by omega
   have iJ:=hide hbw
   have Ld:=hide (au Ij hbw)
   obtain⟨g,rest,e0,hBg,hgb⟩:=wW (GR.own_below HQW hbw) (show 0 < n.reqs.length by omega)
   have jD:=hide hgb
   have q2:wr.cell? ⟨g,k*4+1,none⟩=some (.string n.reqs[k].k):=BQ aY hgb k hlt 1 (by omega)
   have hkk:n.reqs[k].k.size≤281474976710656:=Nat.le_trans (HZ.rk _ (List.getElem_mem hlt)) (by omega)
   have jr:=hide (fun w1=>clone n.reqs[k].k w1 hkk)
   obtain⟨c0,c1,c2,c3,c4,c5,c6,c7,c8⟩:=nine Ld
   have hnr:=aA Ld
   have hgr:=aA hgb
   clear hbw hgb hkk
   subst e0
   generalize n.reqs[k].k=kx at *
   go_upto_region 19 with fail
   have y5:=cell_regrown c8
   have z2:=cell_regrown q2
   clear c0 c1 c2 c3 c4 c5 c6 c7 c8
   refine bJ 12 (by kernel_rfl) ?_
   show dZ _ _ _ _ _ 13 (Array.replicate 13 false) _ _
   refine tk [0,1,2,3,4,5,6,7,8] ?_
   iterate 9 (refine oJ (fun K hK=>?_);go_simp;refine hK _ ?_;clear hK K)
   refine kK ?_
   clear y5 z2
   refine dK 9 rfl (by kernel_rfl) (by rfl) (fun x hx=>?_)
   go_simp
   refine(jr x).mono ?_
   rintro e y ⟨rfl,hby⟩
   refine⟨hby,?_⟩
   have HY:=hide (Ge.trans hx hby)
   clear hx hby jr
   refine tk [10,11] ?_
   iterate 2 (refine oJ (fun K hK=>?_);go_simp;refine hK _ ?_;clear hK K)
   refine kK ?_
   refine aZ (by kernel_rfl) (fun x3 hx3=>?_)
   have WL:=hide (Ge.trans HY hx3)
   have CU:=au jD WL
   have q3:x3.cell? ⟨g,k*4+1,none⟩=some (.string kx):=(WL.cell (p:=⟨g,k*4+1,none⟩) hgr).trans q2
   have f3:=aj CU (k*4+1)
   have Rb:=hide (AZ CU q3)
   clear hx3 CU q2
   refine aF 12 rfl (by kernel_rfl) (by rfl) ?_
   go_simp
   refine wpAny_done (by kernel_rfl) ?_
   go_simp
   clear q3 f3
   go_wp2_with fail
   go_roundw
   case rel=>exact acw
   case measure=>simp[intOf];omega
  have hke:k=n.reqs.length:=by omega
  subst hke
  have hnlt:decide ((n.reqs.length:Int) < (n.reqs.length:Int))=false:=by simp
  have iJ:=hide hbw
  clear hbw
  go_upto_region 21 with fail
  refine wp_at (fun W8 hWW=>?_)
  subst hWW
  have Zq:=hide (au Ij iJ)
  have qW:=hide (au Zx iJ)
  have aeY:=hide (Y8.trans (iJ.mono Y8.size))
  have Zl:Hid (aC [w.heap.size] W7 W8):=aC.of_below iJ
  clear iJ hnlt Ij Zx hlt
 obtain⟨c0,c1,c2,c3,c4,c5,c6,c7,c8⟩:=nine Zq;obtain⟨d0,d1,d2,d3,d4,d5,d6,d7,d8⟩:=nine qW;have f0:=aj qW 0;have f1:=aj qW 1;have f2:=aj qW 2;have f3:=aj qW 3;have f4:=aj qW 4;have f5:=aj qW 5;have f6:=aj qW 6;have f7:=aj qW 7;have f8:=aj qW 8;have avc:=aA Zq;have avn:=aA qW;go_wp2_with fail;refine aR (fun W' hW'=>?_)
 have e4:W'.heap[w.heap.size+1]?=some (.cells #[.int .i64 n.id,.int .i64 n.par,.slice ak n.kids.length ck,.int .i64 n.next,.slice ap n.pu.length cp,.slice ao n.out.length co,.slice Ri n.seen.length cs,.int .i64 n.old,.slice ar n.reqs.length cr] 30 (0,0)):=by
  rw [hW'];exact GR.setW_blk [.int .i64 n.id,.int .i64 n.par,.slice ak n.kids.length ck,.int .i64 n.next,.slice ap n.pu.length cp,.slice ao n.out.length co,.slice Ri n.seen.length cs,.int .i64 n.old,.slice ar n.reqs.length cr] (o:=0) (xs:=[.int .i64 0,.int .i64 0,.slice none 0 0,.int .i64 0,.slice none 0 0,.slice none 0 0,.slice none 0 0,.int .i64 0,.slice none 0 0]) qW
 have hso:∀x,x≠w.heap.size+1→W'.heap[x]?=W8.heap[x]?:=fun x hx=>by
  rw [hW']
  exact GR.setW_other hx [.int .i64 n.id,.int .i64 n.par,.slice ak n.kids.length ck,.int .i64 n.next,.slice ap n.pu.length cp,.slice ao n.out.length co,.slice Ri n.seen.length cs,.int .i64 n.old,.slice ar n.reqs.length cr] (o:=0)
 have hsz:W8.heap.size=W'.heap.size:=by rw [hW'];simp[World.setCell]
 have HBE:Hid (Below w.heap.size w W'):=by
  rw [hW'];exact GR.setW_below (by omega) [.int .i64 n.id,.int .i64 n.par,.slice ak n.kids.length ck,.int .i64 n.next,.slice ap n.pu.length cp,.slice ao n.out.length co,.slice Ri n.seen.length cs,.int .i64 n.old,.slice ar n.reqs.length cr] (o:=0) aeY
 clear hW' c0 c1 c2 c3 c4 c5 c6 c7 c8 d0 d1 d2 d3 d4 d5 d6 d7 d8 f0 f1 f2 f3 f4 f5 f6 f7 f8;obtain⟨c0,c1,c2,c3,c4,c5,c6,c7,c8⟩:=nine e4;have k1:=Ea.size;have k2:=Eb.size;have k3:=Ec.size;have k4:=Ed.size;have k5:=Zj.size;have k6:=Zk.size;have k7:=Zl.size;have k0:=Ie.size;have b8:∀x,w.heap.size+1 < x→x < W7.heap.size→W'.heap[x]?=W7.heap[x]?:=fun x h1 h2=>(hso x (by omega)).trans (Zl.block x h2 (by simp;omega))
 have b6:∀x,w.heap.size+1 < x→x < W6.heap.size→W'.heap[x]?=W6.heap[x]?:=fun x h1 h2=>(b8 x h1 (by omega)).trans (Zk.block x h2 (by simp;omega))
 have b4:∀x,w.heap.size+1 < x→x < W4.heap.size→W'.heap[x]?=W4.heap[x]?:=fun x h1 h2=>((b6 x h1 (by omega)).trans (Zj.block x h2)).trans (Ed.block x h2 (by simp;omega))
 have b3:∀x,w.heap.size+1 < x→x < W3.heap.size→W'.heap[x]?=W3.heap[x]?:=fun x h1 h2=>(b4 x h1 (by omega)).trans (Ec.block x h2 (by simp;omega))
 have b2:∀x,w.heap.size+1 < x→x < W2.heap.size→W'.heap[x]?=W2.heap[x]?:=fun x h1 h2=>(b3 x h1 (by omega)).trans (Eb.block x h2 (by simp;omega))
 have b1:∀x,w.heap.size+1 < x→x < W1.heap.size→W'.heap[x]?=W1.heap[x]?:=fun x h1 h2=>(b2 x h1 (by omega)).trans (Ea.block x h2 (by simp;omega))
 have oS:=Zy.lt;have oO:=HOW.lt;have oQ:=HQW.lt;obtain⟨sw,sg,si,snd⟩:=ah HSN
 have l7:Hid (NO W' w.heap.size n ⟨ak,ap,ao,Ri,ar,ck,cp,co,cs,cr⟩ ⟨gk,gp,0,gs,0,I6⟩ (zw W0.heap.size W1.heap.size W2.heap.size W4.heap.size W5.heap.size W6.heap.size)):=by
  refine⟨vV HKW.1 (by omega) (fun x hx=>b1 x (by have:=HKW.2 x hx;omega) (HKW.2 x hx).2),vV Cu.1 (by omega) (fun x hx=>b2 x (by have:=Cu.2 x hx;omega) (Cu.2 x hx).2),iQ (jk HOW (fun x hx=>b3 x (by have:=oO x hx;omega) (oO x hx).2)) (by omega),IL sw (by omega) (fun x hx=>b6 x (by have:=(sg x hx).1;omega) (by have:=oS x (sg x hx).2;omega)) (fun x hx=>b6 x (by have:=si x hx;omega) (si x hx).2),iQ (jk HQW (fun x hx=>b8 x (by have:=oQ x hx;omega) (oQ x hx).2)) (by omega),fun x hx=>?_,fun x hx=>?_,fun x hx=>?_,fun x hx=>?_,fun x hx=>?_,fun x hx=>?_,fun x hx=>?_,snd⟩
  ·unfold zw;rw [if_pos (by omega)]
  ·have:=HKW.2 x hx;unfold zw;rw [if_neg (by omega),if_pos (by omega)]
  ·have:=Cu.2 x hx;unfold zw;rw [if_neg (by omega),if_neg (by omega),if_pos (by omega)]
  ·have:=oO x hx;unfold zw;rw [if_neg (by omega),if_neg (by omega),if_neg (by omega),if_pos (by omega)]
  ·have:=oS x (sg x hx).2;unfold zw;rw [if_neg (by omega),if_neg (by omega),if_neg (by omega),if_neg (by omega),if_pos (by omega)]
  ·have:=si x hx;unfold zw;rw [if_neg (by omega),if_neg (by omega),if_neg (by omega),if_neg (by omega),if_neg (by omega),if_pos (by omega)]
  ·have:=oQ x hx;unfold zw;rw [if_neg (by omega),if_neg (by omega),if_neg (by omega),if_neg (by omega),if_neg (by omega),if_neg (by omega)]
 clear e4 hso b8 b6 b4 b3 b2 b1 oS oO oQ sw sg si snd;exact bodyPost_ret (v:= .agg #[.int .i64 n.id,.int .i64 n.par,.slice ak n.kids.length ck,.int .i64 n.next,.slice ap n.pu.length cp,.slice ao n.out.length co,.slice Ri n.seen.length cs,.int .i64 n.old,.slice ar n.reqs.length cr]) (by simp[results,Tryz.results13,go_sem,c0,c1,c2,c3,c4,c5,c6,c7,c8]) rfl ⟨⟨ak,ap,ao,Ri,ar,ck,cp,co,cs,cr⟩,_,_,rfl,l7,HBE⟩
theorem NO.base {w:World} {B B':Nat} {n:Nd} {A:bQ} {G:aX} {c:Nat→Nat} (h:NO w B n A G c) (hB:B'≤B):NO w B' n A G c:=
 ⟨h.k,h.p,iQ h.o hB,h.s,iQ h.r hB,fun x hx=>h.lo x (by omega),h.ck,h.cp,h.co,h.c4,h.ci,h.cr,h.ni⟩
theorem fJ (w:World) (a b d:Obj):(((w.alloc a).alloc b).alloc d).heap[w.heap.size]?=some a∧(((w.alloc a).alloc b).alloc d).heap[w.heap.size+1]?=some b∧(((w.alloc a).alloc b).alloc d).heap[w.heap.size+2]?=some d∧Below w.heap.size w (((w.alloc a).alloc b).alloc d):=Fu w a b d
end Go.Proofs.YtfmdndhliinhpaaGreatDoor
