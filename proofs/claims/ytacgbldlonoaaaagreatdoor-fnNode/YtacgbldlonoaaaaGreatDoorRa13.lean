/- Parts. -/
import Derived.Test.YtacgbldlonoaaaaGreatDoorRa12
namespace Go.Proofs.YtacgbldlonoaaaaGreatDoor
set_option maxHeartbeats 8000000
set_option maxRecDepth 100000
open Go.RowKit
open Mth
theorem oZ {nb:Nat} {X Y:World} {i:Nat} {v:Value} (hb:Below X.heap.size X Y):aC [nb] X (Y.setCell ⟨nb,i,none⟩ v):=(aC.of_below hb).trans (aC.set v)
theorem oL {w Y:World} {nb i:Nat} {v:Value} (hn:w.heap.size≤nb) (hb:Below w.heap.size w Y):Below w.heap.size w (Y.setCell ⟨nb,i,none⟩ v):=hb.setCell (p:=⟨nb,i,none⟩) hn v
theorem lM {Y:World} {nb i:Nat} {v:Value} {cs:Array Value} (h:Y.heap[nb]?=some (.cells cs 30 (0,0))):(Y.setCell ⟨nb,i,none⟩ v).heap[nb]?=some (.cells (cs.setIfInBounds i v) 30 (0,0)):=bg h i v
theorem cK {F:List Nat} {Y W:World} {B:Nat} {t:TypeId} {sz k:Nat} {v:Value} {xs:List Value} (h:Y.ownsRow B t sz v k xs) (hk:aC F Y W) (hd:∀x∈F,x < B):W.ownsRow B t sz v k xs:=by
 refine⟨h.1,?_⟩;rcases h.2 with hn|⟨g,cap,cur,rfl,hb,hgg,rest⟩
 ·exact .inl hn
 ·exact .inr ⟨g,cap,cur,rfl,hb,hk.obj hgg (fun hm=>by have:=hd g hm;omega),rest⟩
theorem Ri (u:Value):∀(l:List R3) (i:Nat) (hi:i < l.length),(GR.flat cu l).set (i*3+2) u=GR.flat cu (l.set i ⟨l[i].f,l[i].l,u⟩):=by
 intro l;induction l with
 |nil=>intro i hi;simp at hi
 |cons x r ih=>
  intro i hi
  cases i with
  |zero=>rfl
  |succ i=>
   have hi2:i < r.length:=by simpa using hi
   have h1:=ih i hi2
   show(cu x++GR.flat cu r).set ((i+1)*3+2) u=cu x++GR.flat cu (r.set i ⟨r[i].f,r[i].l,u⟩)
   rw [←h1,List.set_append_right _ _ (by show 3≤_;omega)]
   congr 2
   show(i+1)*3+2 - 3=_
   omega
structure SC (w W5 wr:World) (B k:Nat) (l:List Sn) (T T2:List R3) (I:Nat→Nat) (a:Option Addr) (cs:Nat):Prop where
 len:T2.length=l.length
 own:wr.ownsRow B 90 3 (.slice a l.length cs) l.length (GR.flat cu T2)
 dn:∀i (hi:i < l.length),i < k→∃b c,T2[i]?=some ⟨l[i].f,l[i].l,.slice b l[i].ids.length c⟩∧GR.W aR 1 wr b (I i) l[i].ids∧∀x∈fp (I i) l[i].ids,W5.heap.size≤x∧x < wr.heap.size
 up:∀i,k≤i→T2[i]?=T[i]?
 nd:∀i j (hi:i < l.length) (hj:j < l.length),i < j→j < k→0 < l[i].ids.length→0 < l[j].ids.length→I i≠I j
 gr:W5.grownBy wr (Value.slice a l.length cs).ownBlock
theorem SC.start {w W5:World} {B:Nat} {l:List Sn} {T:List R3} {a:Option Addr} {cs:Nat} (hT:T.length=l.length) (ho:W5.ownsRow B 90 3 (.slice a l.length cs) l.length (GR.flat cu T)):SC w W5 W5 B 0 l T T (fun _=>0) a cs:=
 ⟨hT,ho,fun i _ h=>by omega,fun _ _=>rfl,fun i j _ _ _ h=>by omega,World.grownBy.refl _ _⟩
theorem SC.next {w W5 wr x:World} {B k:Nat} {l:List Sn} {T T2:List R3} {I:Nat→Nat} {a:Option Addr} {cs g gi cc:Nat} {b:Option Addr} (h:SC w W5 wr B k l T T2 I a cs) (hk:k < l.length) (ha:a=some ⟨g,0,none⟩) (hT:∃b c,T[k]?=some ⟨l[k].f,l[k].l,.slice b l[k].ids.length c⟩) (hx:Below wr.heap.size wr x) (hg5:g < W5.heap.size)
 (hi:GR.W aR 1 x b gi l[k].ids) (hlt:∀z∈fp gi l[k].ids,wr.heap.size≤z∧z < x.heap.size):SC w W5 (x.setCell ⟨g,k*3+2,none⟩ (.slice b l[k].ids.length cc)) B (k+1) l T (T2.set k ⟨l[k].f,l[k].l,.slice b l[k].ids.length cc⟩) (fun i=>if i=k then gi else I i) a cs:=by
 subst ha;have hk2:k < T2.length:=by rw [h.len];exact hk
 have hTk:∃b c,T2[k]=⟨l[k].f,l[k].l,.slice b l[k].ids.length c⟩:=by
  obtain⟨b',c',e⟩:=hT;refine⟨b',c',?_⟩;have:=h.up k (Nat.le_refl _);rw [List.getElem?_eq_getElem hk2,e] at this;exact Option.some.inj this
 have hgs:x.heap.size=(x.setCell ⟨g,k*3+2,none⟩ (.slice b l[k].ids.length cc)).heap.size:=by simp[World.setCell]
 have hkp:aC [g] x (x.setCell ⟨g,k*3+2,none⟩ (.slice b l[k].ids.length cc)):=aC.set _;have hws:=h.gr.size;have hxs:=hx.size;refine⟨by rw [List.length_set];exact h.len,?_,fun i hi' hik=>?_,fun i hik=>?_,fun i j hi' hj hij hjk h1 h2=>?_,?_⟩
 ·have ho:=GR.own_below h.own hx;have hst:=(ho.stored (k*3+2) (.slice b l[k].ids.length cc)).1;rw [Ri _ T2 k hk2] at hst;obtain⟨b',c',e⟩:=hTk;rw [e] at hst;exact hst
 ·by_cases e:i=k
  ·subst e;refine⟨b,cc,by rw [List.getElem?_set_self hk2],?_,?_⟩
   ·rw [if_pos rfl];exact hi.keeps hkp (fun z hz hm=>by have:=(hlt z hz).1;have:z=g:=(by simpa using hm);omega)
   ·rw [if_pos rfl];exact fun z hz=>⟨by have:=(hlt z hz).1;omega,by rw [←hgs];exact(hlt z hz).2⟩
  ·obtain⟨b',c',e1,e2,e3⟩:=h.dn i hi' (by omega);refine⟨b',c',by rw [List.getElem?_set_ne (by omega)];exact e1,?_,?_⟩
   ·rw [if_neg e];exact(e2.below hx).keeps hkp (fun z hz hm=>by have:=(e3 z hz).1;have:z=g:=(by simpa using hm);omega)
   ·rw [if_neg e];exact fun z hz=>⟨(e3 z hz).1,by rw [←hgs];have:=(e3 z hz).2;omega⟩
 ·rw [List.getElem?_set_ne (by omega)];exact h.up i (by omega)
 ·by_cases ej:j=k
  ·subst ej;rw [if_neg (by omega),if_pos rfl];obtain⟨_,_,_,_,e3⟩:=h.dn i hi' (by omega);have q1:=(e3 (I i) (dz h1)).2;have q2:=(hlt gi (dz h2)).1;omega
  ·exact ZL
 ·refine h.gr.andThen (row':=some g) ⟨hx.os,hx.tape,hx.output,by rw [←hgs];exact hx.size,fun z hz hne=>?_⟩ (fun j hj=> .inr (by cases hj;rfl));rw [Below.heap_setCell _ _ _ _ (fun e=>hne (by rw [e]))];exact hx.block z hz
theorem SC.done {w W5 wr:World} {B:Nat} {l:List Sn} {T T2:List R3} {I:Nat→Nat} {a:Option Addr} {cs:Nat} (h:SC w W5 wr B l.length l T T2 I a cs):∃g,eO wr a g I l∧(∀x∈fp g l,B≤x∧(Value.slice a l.length cs).ownBlock=some x)∧(∀x∈nM I l,W5.heap.size≤x∧x < wr.heap.size)∧(nM I l).Nodup:=by
 open ajw in exact X9
theorem SC.below {w W5 wr:World} {B k:Nat} {l:List Sn} {T T2:List R3} {I:Nat→Nat} {a:Option Addr} {cs:Nat} (h:SC w W5 wr B k l T T2 I a cs) {C:Nat} (hC:C≤B) (hs:C≤W5.heap.size):Below C W5 wr:=
 ⟨h.gr.os,h.gr.tape,h.gr.output,h.gr.size,fun x hx=>h.gr.block x (by omega) (fun e=>by have:=(h.own.lt x e.symm).1;omega)⟩
theorem uR {α:Type} {enc:α→List Value} {sz:Nat} {w w':World} {a:Option Addr} {g:Nat} {l:List α} (h:GR.W enc sz w a g l) (hs:w.heap.size≤w'.heap.size) (hb:∀x∈fp g l,w'.heap[x]?=w.heap[x]?):GR.W enc sz w' a g l:=fun i hi=>by
 obtain⟨e,hg,hc⟩:=h i hi;have hbl:=hb g (dz (by omega));exact⟨e,by omega,fun j hj=>⟨(World.cell?_of_block (w:=w) hbl).trans (hc j hj).1,(World.frozen?_of_block (w:=w) hbl).trans (hc j hj).2⟩⟩
theorem iT {w w':World} {B:Nat} {t:TypeId} {sz k:Nat} {v:Value} {xs:List Value} (h:w.ownsRow B t sz v k xs) (hb:∀x,v.ownBlock=some x→w'.heap[x]?=w.heap[x]?):w'.ownsRow B t sz v k xs:=by
 refine⟨h.1,?_⟩;rcases h.2 with hn|⟨g,cap,cur,rfl,hB,hgg,rest⟩
 ·exact .inl hn
 ·exact .inr ⟨g,cap,cur,rfl,hB,(hb g rfl).trans hgg,rest⟩
theorem iF {w:World} {B B':Nat} {t:TypeId} {sz k:Nat} {v:Value} {xs:List Value} (h:w.ownsRow B t sz v k xs) (hB:B'≤B):w.ownsRow B' t sz v k xs:=by
 refine⟨h.1,?_⟩;rcases h.2 with hn|⟨g,cap,cur,rfl,hBg,rest⟩
 ·exact .inl hn
 ·exact .inr ⟨g,cap,cur,rfl,by omega,rest⟩
theorem Gf {w w':World} {a:Option Addr} {g:Nat} {I:Nat→Nat} {l:List Sn} (h:eO w a g I l) (hs:w.heap.size≤w'.heap.size) (hb:∀x∈fp g l,w'.heap[x]?=w.heap[x]?) (hI:∀x∈nM I l,w'.heap[x]?=w.heap[x]?):eO w' a g I l:=by
 obtain⟨T,hT,hl,hr⟩:=h;refine⟨T,uR hT hs (fun x hx=>hb x (by have:=gD hx;rw [this.1];exact dz (by omega))),hl,fun i hi=>?_⟩;obtain⟨b,c,ht,hi2⟩:=hr i hi;exact⟨b,c,ht,uR hi2 hs (fun x hx=>hI x (iL hi x hx))⟩
def xW (s0 s1 s2 s4 s5 s6 x:Nat):Nat:=if x < s0 then 0 else if x < s1 then 1 else if x < s2 then 2 else if x < s4 then 3 else if x < s5 then 4 else if x < s6 then 5 else 6
theorem vw (n:Nd) (A:bE) (w:World) (hz:eH n 1048576) (ha:dQ w A n):
 Calls Tryz.prog 34 #[gu n A] w fun e w'=>∃A' G' c',e= .returned (gu n A')∧NO w' w.heap.size n A' G' c'∧Below w.heap.size w w':=by
 have HZ:=hide hz;have HA:=hide ha;have hlo:=hz.o;have hls:=hz.s;have hlr:=hz.r;clear hz ha;go_enter Tryz.func34,Tryz.ntmps34
 go_upto_region 1 with fail;refine wp_at (fun W0 hW=>?_);obtain⟨e1,e2,e3⟩:=jo w (.cells (fZ n A) 30) (.cells iO 30);rw [←hW] at e1 e2 e3;have rY:=hide e1;have F7:=hide e2;have yT:=hide e3;have hsz0:=aA e2;clear hW e1 e2 e3;obtain⟨c0,c1,c2,c3,c4,c5,c6,c7,c8⟩:=nine rY;have abt:=aA rY;have aqa:=ay rY 2;go_wp2_with fail;refine(rE A.k A.ck n.kids W0 (Nat.le_trans HZ.k (by omega)) (GR.At.below HA.k yT)).mono ?_;rintro e y ⟨vk,rfl,hrow,hby⟩;obtain⟨ak,ck,gk,rfl,hWk,hgk,_⟩:=GR.W.of_own (enc:=aR) aN hrow;clear hrow;have uO:=hide hby;have hN1:=aj rY hby;have f1:=ay hN1 2;have Eh:=aA hN1;obtain⟨d0,d1,d2,d3,d4,d5,d6,d7,d8⟩:=nine hN1;clear c0 c1 c2 c3 c4 c5 c6 c7 c8 hby aqa;go_upto_region 2 with fail;refine wp_at (fun W1 hW=>?_);have rZ:Hid (W1.heap[w.heap.size]?=some (.cells #[.int .i64 n.id,.int .i64 n.par,.slice ak n.kids.length ck,.int .i64 n.next,.slice A.p n.pu.length A.cp,.slice A.o n.out.length A.co,.slice A.s n.seen.length A.cs,.int .i64 n.old,.slice A.r n.reqs.length A.cr] 30 (0,0))):=by rw [hW];exact lM hN1
 have F8:Hid (W1.heap[w.heap.size+1]?=some (.cells iO 30 (0,0))):=by rw [hW];exact(Below.heap_setCell _ _ _ _ (show w.heap.size+1≠w.heap.size by omega)).trans (aj F7 uO)
 have yU:Hid (Below w.heap.size w W1):=by rw [hW];exact oL (Nat.le_refl _) (yT.trans (uO.mono yT.size))
 have FM:Hid (aC [w.heap.size] W0 W1):=by rw [hW];exact oZ uO
 have Lu:Hid (aC [w.heap.size] y W1):=by rw [hW];exact aC.set _
 clear hW hN1 f1 Eh d0 d1 d2 d3 d4 d5 d6 d7 d8 rY F7;have Ur:Hid (GR.W aR 1 W1 ak gk n.kids∧∀x∈fp gk n.kids,W0.heap.size≤x∧x < W1.heap.size):=⟨hWk.keeps Lu (fun x hx=>by have:=(hgk x hx).1;simp;omega),fun x hx=>⟨(hgk x hx).1,Nat.lt_of_lt_of_le (hgk x hx).2 Lu.size⟩⟩;clear hWk hgk;obtain⟨c0,c1,c2,c3,c4,c5,c6,c7,c8⟩:=nine rZ;have abu:=aA rZ;have aqb:=ay rZ 4;go_wp2_with fail;refine(Hf A.p A.cp n.pu W1 HZ.p HZ.pk (GR.At.below HA.p yU)).mono ?_;rintro e y ⟨ap,cp,gp,Ru,rfl,hWp,hby⟩;have uP:=hide hby;have hN1:=aj rZ hby;have f1:=ay hN1 4;have Eh:=aA hN1;obtain⟨d0,d1,d2,d3,d4,d5,d6,d7,d8⟩:=nine hN1;clear c0 c1 c2 c3 c4 c5 c6 c7 c8 hby aqb;go_upto_region 3 with fail;refine wp_at (fun W2 hW=>?_);have su:Hid (W2.heap[w.heap.size]?=some (.cells #[.int .i64 n.id,.int .i64 n.par,.slice ak n.kids.length ck,.int .i64 n.next,.slice ap n.pu.length cp,.slice A.o n.out.length A.co,.slice A.s n.seen.length A.cs,.int .i64 n.old,.slice A.r n.reqs.length A.cr] 30 (0,0))):=by rw [hW];exact lM hN1
 have F9:Hid (W2.heap[w.heap.size+1]?=some (.cells iO 30 (0,0))):=by rw [hW];exact(Below.heap_setCell _ _ _ _ (show w.heap.size+1≠w.heap.size by omega)).trans (aj F8 uP)
 have yV:Hid (Below w.heap.size w W2):=by rw [hW];exact oL (Nat.le_refl _) (yU.trans (uP.mono yU.size))
 have Cu:Hid (aC [w.heap.size] W1 W2):=by rw [hW];exact oZ uP
 have Lv:Hid (aC [w.heap.size] y W2):=by rw [hW];exact aC.set _
 clear hW hN1 f1 Eh d0 d1 d2 d3 d4 d5 d6 d7 d8 rZ F8
 have AR:Hid (GR.W eG 4 W2 ap gp n.pu∧∀x∈fp gp n.pu,W1.heap.size≤x∧x < W2.heap.size):=by
  have hgy:=zy (show GR.W eG 4 y ap gp n.pu from hWp);have hs0:=FM.size;refine⟨GR.W.keeps (show GR.W eG 4 y ap gp n.pu from hWp) Lv (fun x hx=>by have:=(gD hx).1;simp;omega),fun x hx=>⟨by have:=(gD hx).1;omega,Nat.lt_of_lt_of_le (hgy x hx) Lv.size⟩⟩
 clear hWp Ru;obtain⟨c0,c1,c2,c3,c4,c5,c6,c7,c8⟩:=nine su;have abv:=aA su;have aqc:=ay su 5;go_wp2_with fail;refine(Ra A.o A.co n.out W2 (Nat.le_trans HZ.o (by omega)) (xM _) (GR.At.below HA.o yV)).mono ?_;rintro e y ⟨vo,rfl,hrow,hby⟩;obtain⟨ao,co,rfl,_⟩:=GR.own_at (enc:=aS) (sz:=4) bH hrow;have uQ:=hide hby;have hN1:=aj su hby;have f1:=ay hN1 5;have Eh:=aA hN1;obtain⟨d0,d1,d2,d3,d4,d5,d6,d7,d8⟩:=nine hN1;clear c0 c1 c2 c3 c4 c5 c6 c7 c8 hby aqc;go_upto_region 4 with fail;refine wp_at (fun W3 hW=>?_);have sD:Hid (W3.heap[w.heap.size]?=some (.cells #[.int .i64 n.id,.int .i64 n.par,.slice ak n.kids.length ck,.int .i64 n.next,.slice ap n.pu.length cp,.slice ao n.out.length co,.slice A.s n.seen.length A.cs,.int .i64 n.old,.slice A.r n.reqs.length A.cr] 30 (0,0))):=by rw [hW];exact lM hN1
 have Ga:Hid (W3.heap[w.heap.size+1]?=some (.cells iO 30 (0,0))):=by rw [hW];exact(Below.heap_setCell _ _ _ _ (show w.heap.size+1≠w.heap.size by omega)).trans (aj F9 uQ)
 have Cr:Hid (Below w.heap.size w W3):=by rw [hW];exact oL (Nat.le_refl _) (yV.trans (uQ.mono yV.size))
 have Cv:Hid (aC [w.heap.size] W2 W3):=by rw [hW];exact oZ uQ
 have Qj:Hid (aC [w.heap.size] y W3):=by rw [hW];exact aC.set _
 clear hW hN1 f1 Eh d0 d1 d2 d3 d4 d5 d6 d7 d8 su F9;have HOW:Hid (W3.ownsRow W2.heap.size 95 4 (.slice ao n.out.length co) n.out.length (GR.flat aS n.out)):=cK hrow Qj (fun x hx=>by have:x=w.heap.size:=(by simpa using hx);omega);clear hrow;have abw:=aA sD;obtain⟨c0,c1,c2,c3,c4,c5,c6,c7,c8⟩:=nine sD;go_wp2_with fail;go_loopw [21] (fun i wr=>∃k:Nat,k≤n.out.length∧i= .int .i64 k∧Below W3.heap.size W3 wr) (fun i _=>n.out.length - (intOf i).toNat)
 case atStart=>exact L9
 case' round=>
  obtain⟨k,hk,rfl,hbw⟩:=hrel
  clear c0 c1 c2 c3 c4 c5 c6 c7 c8
  by_cases hlt:k < n.out.length
  case' pos=>
   have GL:(k:Int) < (n.out.length:Int):=by omega
   have iD:=hide hbw
   have Jt:=hide (aj sD hbw)
   obtain⟨g,rest,e0,hBg,hgb⟩:=vS (GR.own_below HOW hbw) (show 0 < n.out.length by omega)
   have je:=hide hgb
   have q2:wr.cell? ⟨g,k*4+2,none⟩=some (.string n.out[k].k):=Ab bH hgb k hlt 2 (by omega)
   have hkk:n.out[k].k.size≤281474976710656:=Nat.le_trans (HZ.ok _ (List.getElem_mem hlt)) (by omega)
   have iN:=hide (fun w1=>clone n.out[k].k w1 hkk)
   obtain⟨c0,c1,c2,c3,c4,c5,c6,c7,c8⟩:=nine Jt
   have hnr:=aA Jt
   have hgr:=aA hgb
   clear hbw hgb hkk
   subst e0
   generalize n.out[k].k=kx at *
   go_upto_region 7 with fail
   have y5:=cell_regrown c5
   have z2:=cell_regrown q2
   clear c0 c1 c2 c3 c4 c5 c6 c7 c8
   refine bn 12 (by kernel_rfl) ?_
   show dS _ _ _ _ _ 13 (Array.replicate 13 false) _ _
   refine tk [0,1,2,3,4,5,6,7,8] ?_
   iterate 9 (refine nQ (fun K hK=>?_);go_simp;refine hK _ ?_;clear hK K)
   refine jI ?_
   clear y5 z2
   refine cZ 9 rfl (by kernel_rfl) (by rfl) (fun x hx=>?_)
   go_simp
   refine(iN x).mono ?_
   rintro e y ⟨rfl,hby⟩
   refine⟨hby,?_⟩
   have HY:=hide (Ge.trans hx hby)
   clear hx hby iN
   refine tk [10,11] ?_
   iterate 2 (refine nQ (fun K hK=>?_);go_simp;refine hK _ ?_;clear hK K)
   refine jI ?_
   refine aV (by kernel_rfl) (fun x3 hx3=>?_)
   have Ua:=hide (Ge.trans HY hx3)
   have Bg:=aj je Ua
   have q3:x3.cell? ⟨g,k*4+2,none⟩=some (.string kx):=(Ua.cell (p:=⟨g,k*4+2,none⟩) hgr).trans q2
   have f3:=ay Bg (k*4+2)
   have Pf:=hide (zm Bg q3)
   clear hx3 Bg q2
   refine aG 12 rfl (by kernel_rfl) (by rfl) ?_
   go_simp
   refine wpAny_done (by kernel_rfl) ?_
   go_simp
   clear q3 f3
   go_wp2_with fail
   go_roundw
   case rel=>exact ZN
   case measure=>simp[intOf];omega
  have hke:k=n.out.length:=by omega
  subst hke
  have hnlt:decide ((n.out.length:Int) < (n.out.length:Int))=false:=by simp
  have iD:=hide hbw
  clear hbw
  go_upto_region 9 with fail
  refine wp_at (fun W4 hWW=>?_)
  subst hWW
  have uK:=hide (aj sD iD)
  have Lr:=hide (aj Ga iD)
  have yX:=hide (Cr.trans (iD.mono Cr.size))
  have Cw:Hid (aC [w.heap.size] W3 W4):=aC.of_below iD
  clear iD hnlt sD Ga hlt
 obtain⟨T,hT,hAt,hT1,hTr⟩:=Tn HA.s;have HTR:=hide hTr;have HT:=hide hT;have JA:=Vr A.s A.cs T W4 (by rw [hT];omega) hT1 (GR.At.below hAt yX);rw [hT] at JA;have HCS:=hide JA;clear hTr hAt hT1 JA hT;obtain⟨c0,c1,c2,c3,c4,c5,c6,c7,c8⟩:=nine uK;have abx:=aA uK;have aqd:=ay uK 6;go_wp2_with fail;refine HCS.mono ?_;rintro e y ⟨vs,rfl,hrow,hby⟩;have hrow2:=hrow;rw [←ah HT] at hrow2;obtain⟨Pm,cs,hvs,_⟩:=GR.own_at (enc:=cu) (sz:=3) (l:=T) bC hrow2;rw [ah HT] at hvs;subst hvs;clear hrow2 HCS;have Ql:=hide hby;have hN1:=aj uK hby;have f1:=ay hN1 6;have Eh:=aA hN1;obtain⟨d0,d1,d2,d3,d4,d5,d6,d7,d8⟩:=nine hN1;clear c0 c1 c2 c3 c4 c5 c6 c7 c8 hby aqd;go_upto_region 10 with fail;refine wp_at (fun W5 hW=>?_);have Li:Hid (W5.heap[w.heap.size]?=some (.cells #[.int .i64 n.id,.int .i64 n.par,.slice ak n.kids.length ck,.int .i64 n.next,.slice ap n.pu.length cp,.slice ao n.out.length co,.slice Pm n.seen.length cs,.int .i64 n.old,.slice A.r n.reqs.length A.cr] 30 (0,0))):=by rw [hW];exact lM hN1
 have Qc:Hid (W5.heap[w.heap.size+1]?=some (.cells iO 30 (0,0))):=by rw [hW];exact(Below.heap_setCell _ _ _ _ (show w.heap.size+1≠w.heap.size by omega)).trans (aj Lr Ql)
 have acj:Hid (Below w.heap.size w W5):=by rw [hW];exact oL (Nat.le_refl _) (yX.trans (Ql.mono yX.size))
 have Cz:Hid (aC [w.heap.size] W4 W5):=by rw [hW];exact oZ Ql
 have acM:Hid (aC [w.heap.size] y W5):=by rw [hW];exact aC.set _
 clear hW hN1 f1 Eh d0 d1 d2 d3 d4 d5 d6 d7 d8 uK Lr;have Pg:Hid (W5.ownsRow W4.heap.size 90 3 (.slice Pm n.seen.length cs) n.seen.length (GR.flat cu T)):=cK hrow acM (fun x hx=>by have:x=w.heap.size:=(by simpa using hx);omega);clear hrow;have aqL:=aA Li;have arl:=aA Qc;have aqw:=Cz.size;have aqi:=yX.size;obtain⟨c0,c1,c2,c3,c4,c5,c6,c7,c8⟩:=nine Li;go_wp2_with fail;go_loopw [44] (fun i wr=>∃(k:Nat) (T2:List R3) (I:Nat→Nat),k≤n.seen.length∧i= .int .i64 k∧SC w W5 wr W4.heap.size k n.seen T T2 I Pm cs) (fun i _=>n.seen.length - (intOf i).toNat)
 case atStart=>exact⟨0,T,_,Nat.zero_le _,rfl,SC.start HT Pg⟩
 case' round=>
  obtain⟨k,T2,I,hk,rfl,hsc⟩:=hrel
  clear c0 c1 c2 c3 c4 c5 c6 c7 c8
  have HSC:=hide hsc
  have fD:=hide (hsc.below (Nat.le_refl W4.heap.size) aqw)
  have hN4:w.heap.size+1 < W4.heap.size:=by have:=FM.size;have:=Cu.size;have:=Cv.size;have:=Cw.size;omega
  have Jt:Hid (wr.heap[w.heap.size]?=some (.cells #[.int .i64 n.id,.int .i64 n.par,.slice ak n.kids.length ck,.int .i64 n.next,.slice ap n.pu.length cp,.slice ao n.out.length co,.slice Pm n.seen.length cs,.int .i64 n.old,.slice A.r n.reqs.length A.cr] 30 (0,0))):=(fD.block _ (by omega)).trans Li
  have JG:Hid (wr.heap[w.heap.size+1]?=some (.cells iO 30 (0,0))):=(fD.block _ (by omega)).trans Qc
  have Pz:=hide (acj.trans (fD.mono aqi))
  clear hsc
  by_cases hlt:k < n.seen.length
  case' pos=>
   have GL:(k:Int) < (n.seen.length:Int):=by omega
   obtain⟨b,cc,hTk,hIb⟩:=ah HTR k hlt
   have hk2:k < T2.length:=by rw [(ah HSC).len];exact hlt
   have ho2:=HSC.own
   rw [←(ah HSC).len] at ho2
   obtain⟨g,rest,e0,hBg,hgb⟩:=vS ho2 (show 0 < T2.length by omega)
   have anI:T2[k]=⟨n.seen[k].f,n.seen[k].l,.slice b n.seen[k].ids.length cc⟩:=by
    have:=HSC.up k (Nat.le_refl _);rw [List.getElem?_eq_getElem hk2,hTk] at this;exact Option.some.inj this
   have q2:wr.cell? ⟨g,k*3+2,none⟩=some (.slice b n.seen[k].ids.length cc):=by
    have:=Ab bC hgb k hk2 2 (by omega);rw [anI] at this;exact this
   have hg5:g < W5.heap.size:=(Pg.lt g (by rw [e0];rfl)).2
   have iN:=hide (fun w1 (h1:Below wr.heap.size wr w1)=>rE b cc n.seen[k].ids w1 (Nat.le_trans (HZ.sk _ (List.getElem_mem hlt)) (by omega)) (GR.At.below hIb (Pz.trans (h1.mono Pz.size))))
   have je:=hide hgb
   have fF:=hide (fun x b2 c2 g2 hx hi hl=>SC.next (x:=x) (b:=b2) (cc:=c2) (gi:=g2) HSC hlt e0 ⟨b,cc,hTk⟩ hx hg5 hi hl)
   obtain⟨c0,c1,c2,c3,c4,c5,c6,c7,c8⟩:=nine Jt
   have hnr:=aA Jt
   have hgr:=aA hgb
   clear hTk hIb ho2 hgb anI
   subst e0
   generalize n.seen[k].ids=ids at *
   go_upto_region 13 with fail
   have y6:=cell_regrown c6
   have z2:=cell_regrown q2
   clear c0 c1 c2 c3 c4 c5 c6 c7 c8
   refine bn 12 (by kernel_rfl) ?_
   show dS _ _ _ _ _ 13 (Array.replicate 13 false) _ _
   refine tk [0,1,2,3,4,5,6,7,8] ?_
   iterate 9 (refine nQ (fun K hK=>?_);go_simp;refine hK _ ?_;clear hK K)
   refine jI ?_
   clear y6 z2
   refine cZ 9 rfl (by kernel_rfl) (by rfl) (fun x hx=>?_)
   go_simp
   refine(iN x hx).mono ?_
   rintro e y ⟨v2,rfl,hrow,hby⟩
   refine⟨hby,?_⟩
   obtain⟨b2,c2,g2,rfl,hW2,hg2,_⟩:=GR.W.of_own (enc:=aR) aN hrow
   have HY:=hide (Ge.trans hx hby)
   have Xd:=hide (And.intro hW2 (fun z (hz:z∈fp g2 ids)=>And.intro (Nat.le_trans hx.size (hg2 z hz).1) (hg2 z hz).2))
   clear hx hby iN hrow hW2 hg2
   refine tk [10,11] ?_
   iterate 2 (refine nQ (fun K hK=>?_);go_simp;refine hK _ ?_;clear hK K)
   refine jI ?_
   refine aV (by kernel_rfl) (fun x3 hx3=>?_)
   have Ua:=hide (Ge.trans HY hx3)
   have UQ:=hide (fF x3 b2 c2 g2 Ua (Xd.1.below hx3) (fun z hz=>⟨(Xd.2 z hz).1,Nat.lt_of_lt_of_le (Xd.2 z hz).2 hx3.size⟩))
   have Bg:=aj je Ua
   have q3:x3.cell? ⟨g,k*3+2,none⟩=some (.slice b ids.length cc):=(Ua.cell (p:=⟨g,k*3+2,none⟩) hgr).trans q2
   have f3:=ay Bg (k*3+2)
   clear hx3 Bg q2 fF
   refine aG 12 rfl (by kernel_rfl) (by rfl) ?_
   go_simp
   refine wpAny_done (by kernel_rfl) ?_
   go_simp
   clear q3 f3
   go_wp2_with fail
   go_roundw
   case rel=>exact⟨k+1,_,_,by omega,by go_num,UQ⟩
   case measure=>simp[intOf];omega
  have hke:k=n.seen.length:=by omega
  subst hke
  have hnlt:decide ((n.seen.length:Int) < (n.seen.length:Int))=false:=by simp
  go_upto_region 15 with fail
  refine wp_at (fun W6 hWW=>?_)
  subst hWW
  have FT:=hide Jt
  have WX:=hide JG
  have Py:=hide Pz
  have WE:=hide fD
  obtain⟨gs,hsn⟩:=HSC.done
  obtain⟨I6,hI6⟩:∃J,J=I:=⟨I,rfl⟩
  rw [←hI6] at hsn
  have HSN:=hide hsn
  clear hsn hI6 HSC Jt JG Pz fD hnlt Li Qc hlt
 obtain⟨c0,c1,c2,c3,c4,c5,c6,c7,c8⟩:=nine FT;have aqM:=aA FT;have aqe:=ay FT 8;go_wp2_with fail;refine(Vs A.r A.cr n.reqs W6 (Nat.le_trans HZ.r (by omega)) (gI _) (GR.At.below HA.r Py)).mono ?_;rintro e y ⟨vr,rfl,hrow,hby⟩;obtain⟨ar,cr,rfl,_⟩:=GR.own_at (enc:=aK) (sz:=4) aY hrow;have Qm:=hide hby;have hN1:=aj FT hby;have f1:=ay hN1 8;have Eh:=aA hN1;obtain⟨d0,d1,d2,d3,d4,d5,d6,d7,d8⟩:=nine hN1;clear c0 c1 c2 c3 c4 c5 c6 c7 c8 hby aqe;go_upto_region 16 with fail;refine wp_at (fun W7 hW=>?_);have FU:Hid (W7.heap[w.heap.size]?=some (.cells #[.int .i64 n.id,.int .i64 n.par,.slice ak n.kids.length ck,.int .i64 n.next,.slice ap n.pu.length cp,.slice ao n.out.length co,.slice Pm n.seen.length cs,.int .i64 n.old,.slice ar n.reqs.length cr] 30 (0,0))):=by rw [hW];exact lM hN1
 have WY:Hid (W7.heap[w.heap.size+1]?=some (.cells iO 30 (0,0))):=by rw [hW];exact(Below.heap_setCell _ _ _ _ (show w.heap.size+1≠w.heap.size by omega)).trans (aj WX Qm)
 have Ws:Hid (Below w.heap.size w W7):=by rw [hW];exact oL (Nat.le_refl _) (Py.trans (Qm.mono Py.size))
 have WG:Hid (aC [w.heap.size] W6 W7):=by rw [hW];exact oZ Qm
 have acN:Hid (aC [w.heap.size] y W7):=by rw [hW];exact aC.set _
 clear hW hN1 f1 Eh d0 d1 d2 d3 d4 d5 d6 d7 d8 FT WX;have HQW:Hid (W7.ownsRow W6.heap.size 97 4 (.slice ar n.reqs.length cr) n.reqs.length (GR.flat aK n.reqs)):=cK hrow acN (fun x hx=>by have:x=w.heap.size:=(by simpa using hx);omega);clear hrow;have aqN:=aA FU;obtain⟨c0,c1,c2,c3,c4,c5,c6,c7,c8⟩:=nine FU;go_wp2_with fail;go_loopw [67] (fun i wr=>∃k:Nat,k≤n.reqs.length∧i= .int .i64 k∧Below W7.heap.size W7 wr) (fun i _=>n.reqs.length - (intOf i).toNat)
 case atStart=>exact L9
 case' round=>
  obtain⟨k,hk,rfl,hbw⟩:=hrel
  clear c0 c1 c2 c3 c4 c5 c6 c7 c8
  by_cases hlt:k < n.reqs.length
  case' pos=>
   have GL:(k:Int) < (n.reqs.length:Int):=by omega
   have iD:=hide hbw
   have Jt:=hide (aj FU hbw)
   obtain⟨g,rest,e0,hBg,hgb⟩:=vS (GR.own_below HQW hbw) (show 0 < n.reqs.length by omega)
   have je:=hide hgb
   have q2:wr.cell? ⟨g,k*4+1,none⟩=some (.string n.reqs[k].k):=Ab aY hgb k hlt 1 (by omega)
   have hkk:n.reqs[k].k.size≤281474976710656:=Nat.le_trans (HZ.rk _ (List.getElem_mem hlt)) (by omega)
   have iN:=hide (fun w1=>clone n.reqs[k].k w1 hkk)
   obtain⟨c0,c1,c2,c3,c4,c5,c6,c7,c8⟩:=nine Jt
   have hnr:=aA Jt
   have hgr:=aA hgb
   clear hbw hgb hkk
   subst e0
   generalize n.reqs[k].k=kx at *
   go_upto_region 19 with fail
   have y5:=cell_regrown c8
   have z2:=cell_regrown q2
   clear c0 c1 c2 c3 c4 c5 c6 c7 c8
   refine bn 12 (by kernel_rfl) ?_
   show dS _ _ _ _ _ 13 (Array.replicate 13 false) _ _
   refine tk [0,1,2,3,4,5,6,7,8] ?_
   iterate 9 (refine nQ (fun K hK=>?_);go_simp;refine hK _ ?_;clear hK K)
   refine jI ?_
   clear y5 z2
   refine cZ 9 rfl (by kernel_rfl) (by rfl) (fun x hx=>?_)
   go_simp
   refine(iN x).mono ?_
   rintro e y ⟨rfl,hby⟩
   refine⟨hby,?_⟩
   have HY:=hide (Ge.trans hx hby)
   clear hx hby iN
   refine tk [10,11] ?_
   iterate 2 (refine nQ (fun K hK=>?_);go_simp;refine hK _ ?_;clear hK K)
   refine jI ?_
   refine aV (by kernel_rfl) (fun x3 hx3=>?_)
   have Ua:=hide (Ge.trans HY hx3)
   have Bg:=aj je Ua
   have q3:x3.cell? ⟨g,k*4+1,none⟩=some (.string kx):=(Ua.cell (p:=⟨g,k*4+1,none⟩) hgr).trans q2
   have f3:=ay Bg (k*4+1)
   have Pf:=hide (zm Bg q3)
   clear hx3 Bg q2
   refine aG 12 rfl (by kernel_rfl) (by rfl) ?_
   go_simp
   refine wpAny_done (by kernel_rfl) ?_
   go_simp
   clear q3 f3
   go_wp2_with fail
   go_roundw
   case rel=>exact ZN
   case measure=>simp[intOf];omega
  have hke:k=n.reqs.length:=by omega
  subst hke
  have hnlt:decide ((n.reqs.length:Int) < (n.reqs.length:Int))=false:=by simp
  have iD:=hide hbw
  clear hbw
  go_upto_region 21 with fail
  refine wp_at (fun W8 hWW=>?_)
  subst hWW
  have WR:=hide (aj FU iD)
  have qb:=hide (aj WY iD)
  have acn:=hide (Ws.trans (iD.mono Ws.size))
  have WH:Hid (aC [w.heap.size] W7 W8):=aC.of_below iD
  clear iD hnlt FU WY hlt
 obtain⟨c0,c1,c2,c3,c4,c5,c6,c7,c8⟩:=nine WR;obtain⟨d0,d1,d2,d3,d4,d5,d6,d7,d8⟩:=nine qb;have f0:=ay qb 0;have f1:=ay qb 1;have f2:=ay qb 2;have f3:=ay qb 3;have f4:=ay qb 4;have f5:=ay qb 5;have f6:=ay qb 6;have f7:=ay qb 7;have f8:=ay qb 8;have aqK:=aA WR;have aqV:=aA qb;go_wp2_with fail;refine aO (fun W' hW'=>?_)
 have e4:W'.heap[w.heap.size+1]?=some (.cells #[.int .i64 n.id,.int .i64 n.par,.slice ak n.kids.length ck,.int .i64 n.next,.slice ap n.pu.length cp,.slice ao n.out.length co,.slice Pm n.seen.length cs,.int .i64 n.old,.slice ar n.reqs.length cr] 30 (0,0)):=by
  rw [hW'];exact GR.setW_blk [.int .i64 n.id,.int .i64 n.par,.slice ak n.kids.length ck,.int .i64 n.next,.slice ap n.pu.length cp,.slice ao n.out.length co,.slice Pm n.seen.length cs,.int .i64 n.old,.slice ar n.reqs.length cr] (o:=0) (xs:=[.int .i64 0,.int .i64 0,.slice none 0 0,.int .i64 0,.slice none 0 0,.slice none 0 0,.slice none 0 0,.int .i64 0,.slice none 0 0]) qb
 have hso:∀x,x≠w.heap.size+1→W'.heap[x]?=W8.heap[x]?:=fun x hx=>by
  rw [hW']
  exact GR.setW_other hx [.int .i64 n.id,.int .i64 n.par,.slice ak n.kids.length ck,.int .i64 n.next,.slice ap n.pu.length cp,.slice ao n.out.length co,.slice Pm n.seen.length cs,.int .i64 n.old,.slice ar n.reqs.length cr] (o:=0)
 have hsz:W8.heap.size=W'.heap.size:=by rw [hW'];simp[World.setCell]
 have HBE:Hid (Below w.heap.size w W'):=by
  rw [hW'];exact GR.setW_below (by omega) [.int .i64 n.id,.int .i64 n.par,.slice ak n.kids.length ck,.int .i64 n.next,.slice ap n.pu.length cp,.slice ao n.out.length co,.slice Pm n.seen.length cs,.int .i64 n.old,.slice ar n.reqs.length cr] (o:=0) acn
 clear hW' c0 c1 c2 c3 c4 c5 c6 c7 c8 d0 d1 d2 d3 d4 d5 d6 d7 d8 f0 f1 f2 f3 f4 f5 f6 f7 f8;obtain⟨c0,c1,c2,c3,c4,c5,c6,c7,c8⟩:=nine e4;have k1:=Cu.size;have k2:=Cv.size;have k3:=Cw.size;have k4:=Cz.size;have k5:=WE.size;have k6:=WG.size;have k7:=WH.size;have k0:=FM.size;have b8:∀x,w.heap.size+1 < x→x < W7.heap.size→W'.heap[x]?=W7.heap[x]?:=fun x h1 h2=>(hso x (by omega)).trans (WH.block x h2 (by simp;omega))
 have b6:∀x,w.heap.size+1 < x→x < W6.heap.size→W'.heap[x]?=W6.heap[x]?:=fun x h1 h2=>(b8 x h1 (by omega)).trans (WG.block x h2 (by simp;omega))
 have b4:∀x,w.heap.size+1 < x→x < W4.heap.size→W'.heap[x]?=W4.heap[x]?:=fun x h1 h2=>((b6 x h1 (by omega)).trans (WE.block x h2)).trans (Cz.block x h2 (by simp;omega))
 have b3:∀x,w.heap.size+1 < x→x < W3.heap.size→W'.heap[x]?=W3.heap[x]?:=fun x h1 h2=>(b4 x h1 (by omega)).trans (Cw.block x h2 (by simp;omega))
 have b2:∀x,w.heap.size+1 < x→x < W2.heap.size→W'.heap[x]?=W2.heap[x]?:=fun x h1 h2=>(b3 x h1 (by omega)).trans (Cv.block x h2 (by simp;omega))
 have b1:∀x,w.heap.size+1 < x→x < W1.heap.size→W'.heap[x]?=W1.heap[x]?:=fun x h1 h2=>(b2 x h1 (by omega)).trans (Cu.block x h2 (by simp;omega))
 have oS:=Pg.lt;have oO:=HOW.lt;have oQ:=HQW.lt;obtain⟨sw,sg,si,snd⟩:=ah HSN
 have jY:Hid (NO W' w.heap.size n ⟨ak,ap,ao,Pm,ar,ck,cp,co,cs,cr⟩ ⟨gk,gp,0,gs,0,I6⟩ (xW W0.heap.size W1.heap.size W2.heap.size W4.heap.size W5.heap.size W6.heap.size)):=by
  refine⟨uR Ur.1 (by omega) (fun x hx=>b1 x (by have:=Ur.2 x hx;omega) (Ur.2 x hx).2),uR AR.1 (by omega) (fun x hx=>b2 x (by have:=AR.2 x hx;omega) (AR.2 x hx).2),iF (iT HOW (fun x hx=>b3 x (by have:=oO x hx;omega) (oO x hx).2)) (by omega),Gf sw (by omega) (fun x hx=>b6 x (by have:=(sg x hx).1;omega) (by have:=oS x (sg x hx).2;omega)) (fun x hx=>b6 x (by have:=si x hx;omega) (si x hx).2),iF (iT HQW (fun x hx=>b8 x (by have:=oQ x hx;omega) (oQ x hx).2)) (by omega),fun x hx=>?_,fun x hx=>?_,fun x hx=>?_,fun x hx=>?_,fun x hx=>?_,fun x hx=>?_,fun x hx=>?_,snd⟩
  ·unfold xW;rw [if_pos (by omega)]
  ·have:=Ur.2 x hx;unfold xW;rw [if_neg (by omega),if_pos (by omega)]
  ·have:=AR.2 x hx;unfold xW;rw [if_neg (by omega),if_neg (by omega),if_pos (by omega)]
  ·have:=oO x hx;unfold xW;rw [if_neg (by omega),if_neg (by omega),if_neg (by omega),if_pos (by omega)]
  ·have:=oS x (sg x hx).2;unfold xW;rw [if_neg (by omega),if_neg (by omega),if_neg (by omega),if_neg (by omega),if_pos (by omega)]
  ·have:=si x hx;unfold xW;rw [if_neg (by omega),if_neg (by omega),if_neg (by omega),if_neg (by omega),if_neg (by omega),if_pos (by omega)]
  ·have:=oQ x hx;unfold xW;rw [if_neg (by omega),if_neg (by omega),if_neg (by omega),if_neg (by omega),if_neg (by omega),if_neg (by omega)]
 clear e4 hso b8 b6 b4 b3 b2 b1 oS oO oQ sw sg si snd;exact bodyPost_ret (v:= .agg #[.int .i64 n.id,.int .i64 n.par,.slice ak n.kids.length ck,.int .i64 n.next,.slice ap n.pu.length cp,.slice ao n.out.length co,.slice Pm n.seen.length cs,.int .i64 n.old,.slice ar n.reqs.length cr]) (by simp[results,Tryz.results34,go_sem,c0,c1,c2,c3,c4,c5,c6,c7,c8]) rfl ⟨⟨ak,ap,ao,Pm,ar,ck,cp,co,cs,cr⟩,_,_,rfl,jY,HBE⟩
theorem NO.base {w:World} {B B':Nat} {n:Nd} {A:bE} {G:aU} {c:Nat→Nat} (h:NO w B n A G c) (hB:B'≤B):NO w B' n A G c:=
 ⟨h.k,h.p,iF h.o hB,h.s,iF h.r hB,fun x hx=>h.lo x (by omega),h.ck,h.cp,h.co,h.c4,h.ci,h.cr,h.ni⟩
theorem eT (w:World) (a b d:Obj):(((w.alloc a).alloc b).alloc d).heap[w.heap.size]?=some a∧(((w.alloc a).alloc b).alloc d).heap[w.heap.size+1]?=some b∧(((w.alloc a).alloc b).alloc d).heap[w.heap.size+2]?=some d∧Below w.heap.size w (((w.alloc a).alloc b).alloc d):=D8 w a b d
end Go.Proofs.YtacgbldlonoaaaaGreatDoor
