/- Parts. -/
import Derived.Test.YtacgbldlonoaaaaGreatDoorRr24
import Derived.Test.YtacgbldlonoaaaaGreatDoorRr23
namespace Go.Proofs.YtacgbldlonoaaaaGreatDoor
set_option maxHeartbeats 8000000
set_option maxRecDepth 100000
open Go.RowKit
open Mth
theorem keepsN {nb:Nat} {X Y:World} {i:Nat} {v:Value} (hb:aX X Y):aC [nb] X (Y.setCell ⟨nb,i,none⟩ v):=(aC.of_below hb).trans (aC.set v)
theorem belowN {w Y:World} {nb i:Nat} {v:Value} (hn:w.heap.size<=nb) (hb:aX w Y):Below w.heap.size w (Y.setCell ⟨nb,i,none⟩ v):=hb.setCell (p:=⟨nb,i,none⟩) hn v
theorem nP {Y:World} {nb i:Nat} {v:Value} {cs:Array Value} (h:Y.heap[nb]?=some (.cells cs 30 (0,0))):(Y.setCell ⟨nb,i,none⟩ v).heap[nb]?=some (.cells (cs.setIfInBounds i v) 30 (0,0)):=bC h i v
theorem dA {F:List Nat} {Y W:World} {B:Nat} {t:TypeId} {sz k:Nat} {v:Value} {xs:List Value} (h:Y.ownsRow B t sz v k xs) (hk:aC F Y W) (hd:∀x∈F,x < B):W.ownsRow B t sz v k xs:=by
 refine⟨h.1,?_⟩;rcases h.2 with hn|⟨g,cap,cur,rfl,hb,hgg,rest⟩
 .exact .inl hn
 .exact .inr ⟨g,cap,cur,rfl,hb,hk.obj hgg (λhm=>by have:=hd g hm;omega),rest⟩
theorem XL (u:Value):∀(l:List R3) (i:Nat) (hi:i < l.length),(GR.flat eG l).set (i*3+2) u=GR.flat eG (l.set i ⟨l[i].f,l[i].l,u⟩):=by
 intro l;induction l with
 |nil=>intro i hi;simp at hi
 |cons x r ih=>
  intro i hi
  cases i with
  |zero=>rfl
  |succ i=>
   have hi2:i < r.length:=Aap
   have h1:=ih i hi2
   show(eG x++GR.flat eG r).set ((i+1)*3+2) u=eG x++GR.flat eG (r.set i ⟨r[i].f,r[i].l,u⟩)
   rw [<-h1,List.set_append_right _ _ (by show 3<=_;omega)]
   congr 2
   show(i+1)*3+2 - 3=_
   omega
structure SC (w W5 wr:World) (B k:Nat) (l:List Sn) (T T2:List R3) (I:Nat->Nat) (a:Option Addr) (cs:Nat):Prop where
 len:T2.length=l.length
 own:wr.ownsRow B 90 3 (.slice a l.length cs) l.length (GR.flat eG T2)
 dn:∀i (hi:i < l.length),i < k->∃b c,T2[i]?=some ⟨l[i].f,l[i].l,.slice b l[i].ids.length c⟩/\GR.W aW 1 wr b (I i) l[i].ids/\∀x∈fp (I i) l[i].ids,W5.heap.size<=x/\x < wr.heap.size
 up:∀i,k<=i->T2[i]?=T[i]?
 nd:∀i j (hi:i < l.length) (hj:j < l.length),i < j->j < k->0 < l[i].ids.length->0 < l[j].ids.length->I i≠I j
 gr:W5.grownBy wr (Value.slice a l.length cs).ownBlock
theorem SC.start {w W5:World} {B:Nat} {l:List Sn} {T:List R3} {a:Option Addr} {cs:Nat} (hT:T.length=l.length) (ho:W5.ownsRow B 90 3 (.slice a l.length cs) l.length (GR.flat eG T)):SC w W5 W5 B 0 l T T (λ_=>0) a cs:=
 ⟨hT,ho,λi _ h=>Aaa,λ_ _=>rfl,λi j _ _ _ h=>Aaa,World.grownBy.refl _ _⟩
theorem SC.next {w W5 wr x:World} {B k:Nat} {l:List Sn} {T T2:List R3} {I:Nat->Nat} {a:Option Addr} {cs g gi cc:Nat} {b:Option Addr} (h:SC w W5 wr B k l T T2 I a cs) (hk:k < l.length) (ha:a=some ⟨g,0,none⟩) (hT:∃b c,T[k]?=some ⟨l[k].f,l[k].l,.slice b l[k].ids.length c⟩) (hx:aX wr x) (hg5:g < W5.heap.size)
 (hi:GR.W aW 1 x b gi l[k].ids) (hlt:∀z∈fp gi l[k].ids,wr.heap.size<=z/\z < x.heap.size):SC w W5 (x.setCell ⟨g,k*3+2,none⟩ (.slice b l[k].ids.length cc)) B (k+1) l T (T2.set k ⟨l[k].f,l[k].l,.slice b l[k].ids.length cc⟩) (λi=>if i=k then gi else I i) a cs:=by
 subst ha;have hk2:k < T2.length:=by rw [h.len];exact hk
 have hTk:∃b c,T2[k]=⟨l[k].f,l[k].l,.slice b l[k].ids.length c⟩:=by
  obtain⟨b',c',e⟩:=hT;refine⟨b',c',?_⟩;have:=h.up k (Nat.le_refl _);rw [List.getElem?_eq_getElem hk2,e] at this;exact Option.some.inj this
 have hgs:x.heap.size=(x.setCell ⟨g,k*3+2,none⟩ (.slice b l[k].ids.length cc)).heap.size:=Aao
 have hkp:aC [g] x (x.setCell ⟨g,k*3+2,none⟩ (.slice b l[k].ids.length cc)):=aC.set _;have hws:=h.gr.size;have hxs:=hx.size;refine⟨by rw [List.length_set];exact h.len,?_,λi hi' hik=>?_,λi hik=>?_,λi j hi' hj hij hjk h1 h2=>?_,?_⟩
 .have ho:=GR.own_below h.own hx;have hst:=(ho.stored (k*3+2) (.slice b l[k].ids.length cc)).1;rw [XL _ T2 k hk2] at hst;obtain⟨b',c',e⟩:=hTk;rw [e] at hst;exact hst
 .by_cases e:i=k
  .subst e;refine⟨b,cc,by rw [List.getElem?_set_self hk2],?_,?_⟩
   .rw [if_pos rfl];exact hi.keeps hkp (λz hz hm=>by have:=(hlt z hz).1;have:z=g:=Abc;omega)
   .rw [if_pos rfl];exact λz hz=>⟨by have:=(hlt z hz).1;omega,by rw [<-hgs];exact(hlt z hz).2⟩
  .obtain⟨b',c',e1,e2,e3⟩:=h.dn i hi' Aaa;refine⟨b',c',by rw [List.getElem?_set_ne Aaa];exact e1,?_,?_⟩
   .rw [if_neg e];exact(e2.below hx).keeps hkp (λz hz hm=>by have:=(e3 z hz).1;have:z=g:=Abc;omega)
   .rw [if_neg e];exact λz hz=>⟨(e3 z hz).1,by rw [<-hgs];have:=(e3 z hz).2;omega⟩
 .rw [List.getElem?_set_ne Aaa];exact h.up i Aaa
 .by_cases ej:j=k
  .subst ej;rw [if_neg Aaa,if_pos rfl];obtain⟨_,_,_,_,e3⟩:=h.dn i hi' Aaa;have q1:=(e3 (I i) (dQ h1)).2;have q2:=(hlt gi (dQ h2)).1;omega
  .exact aeF
 .refine h.gr.andThen (row':=some g) ⟨hx.os,hx.tape,hx.output,by rw [<-hgs];exact hx.size,λz hz hne=>?_⟩ (λj hj=> .inr (by cases hj;rfl));rw [Below.heap_setCell _ _ _ _ (λe=>hne Aan)];exact hx.block z hz
theorem SC.done {w W5 wr:World} {B:Nat} {l:List Sn} {T T2:List R3} {I:Nat->Nat} {a:Option Addr} {cs:Nat} (h:SC w W5 wr B l.length l T T2 I a cs):∃g,fP wr a g I l/\(∀x∈fp g l,B<=x/\(Value.slice a l.length cs).ownBlock=some x)/\(∀x∈qw I l,W5.heap.size<=x/\x < wr.heap.size)/\(qw I l).Nodup:=by
 open aoA in exact acY
theorem SC.below {w W5 wr:World} {B k:Nat} {l:List Sn} {T T2:List R3} {I:Nat->Nat} {a:Option Addr} {cs:Nat} (h:SC w W5 wr B k l T T2 I a cs) {C:Nat} (hC:C<=B) (hs:C<=W5.heap.size):Below C W5 wr:=
 ⟨h.gr.os,h.gr.tape,h.gr.output,h.gr.size,λx hx=>h.gr.block x Aaa (λe=>by have:=(h.own.lt x e.symm).1;omega)⟩
theorem xL {α:Type} {enc:α->List Value} {sz:Nat} {w w':World} {a:Option Addr} {g:Nat} {l:List α} (h:GR.W enc sz w a g l) (hs:w.heap.size<=w'.heap.size) (hb:∀x∈fp g l,w'.heap[x]?=w.heap[x]?):GR.W enc sz w' a g l:=λi hi=>by
 obtain⟨e,hg,hc⟩:=h i hi;have hbl:=hb g (dQ Aaa);exact⟨e,Aaa,λj hj=>⟨(World.cell?_of_block (w:=w) hbl).trans (hc j hj).1,(World.frozen?_of_block (w:=w) hbl).trans (hc j hj).2⟩⟩
theorem jI {w w':World} {B:Nat} {t:TypeId} {sz k:Nat} {v:Value} {xs:List Value} (h:w.ownsRow B t sz v k xs) (hb:∀x,v.ownBlock=some x->w'.heap[x]?=w.heap[x]?):w'.ownsRow B t sz v k xs:=by
 refine⟨h.1,?_⟩;rcases h.2 with hn|⟨g,cap,cur,rfl,hB,hgg,rest⟩
 .exact .inl hn
 .exact .inr ⟨g,cap,cur,rfl,hB,(hb g rfl).trans hgg,rest⟩
theorem je {w:World} {B B':Nat} {t:TypeId} {sz k:Nat} {v:Value} {xs:List Value} (h:w.ownsRow B t sz v k xs) (hB:B'<=B):w.ownsRow B' t sz v k xs:=by
 refine⟨h.1,?_⟩;rcases h.2 with hn|⟨g,cap,cur,rfl,hBg,rest⟩
 .exact .inl hn
 .exact .inr ⟨g,cap,cur,rfl,Aaa,rest⟩
theorem Lj {w w':World} {a:Option Addr} {g:Nat} {I:Nat->Nat} {l:List Sn} (h:fP w a g I l) (hs:w.heap.size<=w'.heap.size) (hb:∀x∈fp g l,w'.heap[x]?=w.heap[x]?) (hI:∀x∈qw I l,w'.heap[x]?=w.heap[x]?):fP w' a g I l:=by
 obtain⟨T,hT,hl,hr⟩:=h;refine⟨T,xL hT hs (λx hx=>hb x (by have:=gH hx;rw [this.1];exact dQ (by omega))),hl,λi hi=>?_⟩;obtain⟨b,c,ht,hi2⟩:=hr i hi;exact⟨b,c,ht,xL hi2 hs (λx hx=>hI x (jw hi x hx))⟩
def AY (s0 s1 s2 s4 s5 s6 x:Nat):Nat:=if x < s0 then 0 else if x < s1 then 1 else if x < s2 then 2 else if x < s4 then 3 else if x < s5 then 4 else if x < s6 then 5 else 6
theorem rT (n:Nd) (A:bH) (w:World) (hz:fu n 1048576) (ha:dK w A n):
 Calls Tryz.prog 34 #[fI n A] w λe w'=>∃A' G' c',e= .returned (fI n A')/\NO w' w.heap.size n A' G' c'/\aX w w':=by
 have HZ:=Hq hz;have HA:=Hq ha;have hlo:=hz.o;have hls:=hz.s;have hlr:=hz.r;clear hz ha;go_enter Tryz.func34,Tryz.ntmps34
 go_upto_region 1 with fail;refine wp_at (λW0 hW=>?_);obtain⟨e1,e2,e3⟩:=iw w (.cells (dH n A) 30) (.cells gu 30);rw [<-hW] at e1 e2 e3;have vN:=Hq e1;have K9:=Hq e2;have Cu:=Hq e3;have hsz0:=aA e2;clear hW e1 e2 e3;obtain⟨c0,c1,c2,c3,c4,c5,c6,c7,c8⟩:=nine vN;have af4:=aA vN;have av3:=au vN 2;go_wp2_with fail;refine(zD A.k A.ck n.kids W0 (Nat.le_trans HZ.k Aaa) (GR.At.below HA.k Cu)).mono ?_;rintro e y ⟨vk,rfl,hrow,hby⟩;obtain⟨ak,ck,gk,rfl,hWk,hgk,_⟩:=GR.W.of_own (enc:=aW) aQ hrow;clear hrow;have xH:=Hq hby;have hN1:=ay vN hby;have f1:=au hN1 2;have Ji:=aA hN1;obtain⟨d0,d1,d2,d3,d4,d5,d6,d7,d8⟩:=nine hN1;clear c0 c1 c2 c3 c4 c5 c6 c7 c8 hby av3;go_upto_region 2 with fail;refine wp_at (λW1 hW=>?_);have vO:Hid (W1.heap[w.heap.size]?=some (.cells (fK n.id n.par ak n.kids.length ck n.next A.p n.pu.length A.cp A.o n.out.length A.co A.s n.seen.length A.cs n.old A.r n.reqs.length A.cr) 30 (0,0))):=Ack
 have Ld:Hid (W1.heap[w.heap.size+1]?=some (.cells gu 30 (0,0))):=by rw [hW];exact(Below.heap_setCell _ _ _ _ (show w.heap.size+1≠w.heap.size by omega)).trans (ay K9 xH)
 have Cv:Hid (aX w W1):=by rw [hW];exact belowN (Nat.le_refl _) (Cu.trans (xH.mono Cu.size))
 have KJ:Hid (aC [w.heap.size] W0 W1):=by rw [hW];exact keepsN xH
 have Q9:Hid (aC [w.heap.size] y W1):=Abe
 clear hW hN1 f1 Ji d0 d1 d2 d3 d4 d5 d6 d7 d8 vN K9;have HKW:Hid (GR.W aW 1 W1 ak gk n.kids/\∀x∈fp gk n.kids,W0.heap.size<=x/\x < W1.heap.size):=⟨hWk.keeps Q9 (λx hx=>by have:=(hgk x hx).1;simp;omega),λx hx=>⟨(hgk x hx).1,Nat.lt_of_lt_of_le (hgk x hx).2 Q9.size⟩⟩;clear hWk hgk;obtain⟨c0,c1,c2,c3,c4,c5,c6,c7,c8⟩:=nine vO;have af5:=aA vO;have av4:=au vO 4;go_wp2_with fail;refine(Mt A.p A.cp n.pu W1 HZ.p HZ.pk (GR.At.below HA.p Cv)).mono ?_;rintro e y ⟨ap,cp,gp,Yf,rfl,hWp,hby⟩;have xI:=Hq hby;have hN1:=ay vO hby;have f1:=au hN1 4;have Ji:=aA hN1;obtain⟨d0,d1,d2,d3,d4,d5,d6,d7,d8⟩:=nine hN1;clear c0 c1 c2 c3 c4 c5 c6 c7 c8 hby av4;go_upto_region 3 with fail;refine wp_at (λW2 hW=>?_);have vP:Hid (W2.heap[w.heap.size]?=some (.cells (fK n.id n.par ak n.kids.length ck n.next ap n.pu.length cp A.o n.out.length A.co A.s n.seen.length A.cs n.old A.r n.reqs.length A.cr) 30 (0,0))):=Ack
 have Le:Hid (W2.heap[w.heap.size+1]?=some (.cells gu 30 (0,0))):=by rw [hW];exact(Below.heap_setCell _ _ _ _ (show w.heap.size+1≠w.heap.size by omega)).trans (ay Ld xI)
 have Cw:Hid (aX w W2):=by rw [hW];exact belowN (Nat.le_refl _) (Cv.trans (xI.mono Cv.size))
 have Gf:Hid (aC [w.heap.size] W1 W2):=by rw [hW];exact keepsN xI
 have Ra:Hid (aC [w.heap.size] y W2):=Abe
 clear hW hN1 f1 Ji d0 d1 d2 d3 d4 d5 d6 d7 d8 vO Ld
 have EA:Hid (GR.W fE 4 W2 ap gp n.pu/\∀x∈fp gp n.pu,W1.heap.size<=x/\x < W2.heap.size):=by
  have hgy:=Da (show GR.W fE 4 y ap gp n.pu from hWp);have hs0:=KJ.size;refine⟨GR.W.keeps (show GR.W fE 4 y ap gp n.pu from hWp) Ra (λx hx=>by have:=(gH hx).1;simp;omega),λx hx=>⟨by have:=(gH hx).1;omega,Nat.lt_of_lt_of_le (hgy x hx) Ra.size⟩⟩
 clear hWp Yf;obtain⟨c0,c1,c2,c3,c4,c5,c6,c7,c8⟩:=nine vP;have af6:=aA vP;have av5:=au vP 5;go_wp2_with fail;refine(XF A.o A.co n.out W2 (Nat.le_trans HZ.o Aaa) (Av _) (GR.At.below HA.o Cw)).mono ?_;rintro e y ⟨vo,rfl,hrow,hby⟩;obtain⟨ao,co,rfl,_⟩:=GR.own_at (enc:=aR) (sz:=4) cZ hrow;have xJ:=Hq hby;have hN1:=ay vP hby;have f1:=au hN1 5;have Ji:=aA hN1;obtain⟨d0,d1,d2,d3,d4,d5,d6,d7,d8⟩:=nine hN1;clear c0 c1 c2 c3 c4 c5 c6 c7 c8 hby av5;go_upto_region 4 with fail;refine wp_at (λW3 hW=>?_);have vQ:Hid (W3.heap[w.heap.size]?=some (.cells (fK n.id n.par ak n.kids.length ck n.next ap n.pu.length cp ao n.out.length co A.s n.seen.length A.cs n.old A.r n.reqs.length A.cr) 30 (0,0))):=Ack
 have Lf:Hid (W3.heap[w.heap.size+1]?=some (.cells gu 30 (0,0))):=by rw [hW];exact(Below.heap_setCell _ _ _ _ (show w.heap.size+1≠w.heap.size by omega)).trans (ay Le xJ)
 have Gd:Hid (aX w W3):=by rw [hW];exact belowN (Nat.le_refl _) (Cw.trans (xJ.mono Cw.size))
 have Gg:Hid (aC [w.heap.size] W2 W3):=by rw [hW];exact keepsN xJ
 have Wt:Hid (aC [w.heap.size] y W3):=Abe
 clear hW hN1 f1 Ji d0 d1 d2 d3 d4 d5 d6 d7 d8 vP Le;have HOW:Hid (W3.ownsRow W2.heap.size 95 4 (.slice ao n.out.length co) n.out.length (GR.flat aR n.out)):=dA hrow Wt (λx hx=>by have:x=w.heap.size:=Aaf;omega);clear hrow;have af7:=aA vQ;obtain⟨c0,c1,c2,c3,c4,c5,c6,c7,c8⟩:=nine vQ;go_wp2_with fail;go_loopw [21] (λi wr=>∃k:Nat,k<=n.out.length/\i= .int .i64 k/\aX W3 wr) (λi _=>n.out.length - (intOf i).toNat)
 case atStart=>exact Rv
 case' round=>
  obtain⟨k,hk,rfl,hbw⟩:=hrel
  clear c0 c1 c2 c3 c4 c5 c6 c7 c8
  by_cases hlt:k < n.out.length
  case' pos=>
   have Md:(k:Int) < (n.out.length:Int):=Aaa
   have gZ:=Hq hbw
   have OZ:=Hq (ay vQ hbw)
   obtain⟨g,rest,e0,hBg,hgb⟩:=yH (GR.own_below HOW hbw) (show 0 < n.out.length by omega)
   have jX:=Hq hgb
   have q2:wr.cell? ⟨g,k*4+2,none⟩=some (.string n.out[k].k):=DR cZ hgb k hlt 2 Aaa
   have hkk:n.out[k].k.size<=281474976710656:=Nat.le_trans (HZ.ok _ (List.getElem_mem hlt)) Aaa
   have jO:=Hq (λw1=>clone n.out[k].k w1 hkk)
   obtain⟨c0,c1,c2,c3,c4,c5,c6,c7,c8⟩:=nine OZ
   have hnr:=aA OZ
   have hgr:=aA hgb
   clear hbw hgb hkk
   subst e0
   generalize n.out[k].k=kx at *
   go_upto_region 7 with fail
   have y5:=cell_regrown c5
   have z2:=cell_regrown q2
   clear c0 c1 c2 c3 c4 c5 c6 c7 c8
   refine bE 12 Aab ?_
   show eF _ _ _ _ _ 13 (Array.replicate 13 false) _ _
   refine tk [0,1,2,3,4,5,6,7,8] ?_
   iterate 9 (refine qA (λK hK=>?_);go_simp;refine hK _ ?_;clear hK K)
   refine iN ?_
   clear y5 z2
   refine dz 9 rfl Aab Aad (λx hx=>?_)
   go_simp
   refine(jO x).mono ?_
   rintro e y ⟨rfl,hby⟩
   refine⟨hby,?_⟩
   have HY:=Hq (Ge.trans hx hby)
   clear hx hby jO
   refine tk [10,11] ?_
   iterate 2 (refine qA (λK hK=>?_);go_simp;refine hK _ ?_;clear hK K)
   refine iN ?_
   refine aT Aab (λx3 hx3=>?_)
   have HX3:=Hq (Ge.trans HY hx3)
   have EW:=ay jX HX3
   have q3:x3.cell? ⟨g,k*4+2,none⟩=some (.string kx):=(HX3.cell (p:=⟨g,k*4+2,none⟩) hgr).trans q2
   have f3:=au EW (k*4+2)
   have Vs:=Hq (CU EW q3)
   clear hx3 EW q2
   refine aF 12 rfl Aab Aad ?_
   go_simp
   refine wpAny_done Aab ?_
   go_simp
   clear q3 f3
   go_wp2_with fail
   go_roundw
   case rel=>exact aeG
   case measure=>simp[intOf];omega
  have hke:k=n.out.length:=Aaa
  subst hke
  have hnlt:decide ((n.out.length:Int) < (n.out.length:Int))=false:=Aac
  have gZ:=Hq hbw
  clear hbw
  go_upto_region 9 with fail
  refine wp_at (λW4 hWW=>?_)
  subst hWW
  have xC:=Hq (ay vQ gZ)
  have Q7:=Hq (ay Lf gZ)
  have Cz:=Hq (Gd.trans (gZ.mono Gd.size))
  have Gh:Hid (aC [w.heap.size] W3 W4):=aC.of_below gZ
  clear gZ hnlt vQ Lf hlt
 obtain⟨T,hT,hAt,hT1,hTr⟩:=Zw HA.s;have HTR:=Hq hTr;have HT:=Hq hT;have Pb:=aaV A.s A.cs T W4 (by rw [hT];omega) hT1 (GR.At.below hAt Cz);rw [hT] at Pb;have HCS:=Hq Pb;clear hTr hAt hT1 Pb hT;obtain⟨c0,c1,c2,c3,c4,c5,c6,c7,c8⟩:=nine xC;have af8:=aA xC;have av6:=au xC 6;go_wp2_with fail;refine HCS.mono ?_;rintro e y ⟨vs,rfl,hrow,hby⟩;have hrow2:=hrow;rw [<-ah HT] at hrow2;obtain⟨Vv,cs,hvs,_⟩:=GR.own_at (enc:=eG) (sz:=3) (l:=T) bZ hrow2;rw [ah HT] at hvs;subst hvs;clear hrow2 HCS;have Wv:=Hq hby;have hN1:=ay xC hby;have f1:=au hN1 6;have Ji:=aA hN1;obtain⟨d0,d1,d2,d3,d4,d5,d6,d7,d8⟩:=nine hN1;clear c0 c1 c2 c3 c4 c5 c6 c7 c8 hby av6;go_upto_region 10 with fail;refine wp_at (λW5 hW=>?_);have Q5:Hid (W5.heap[w.heap.size]?=some (.cells (fK n.id n.par ak n.kids.length ck n.next ap n.pu.length cp ao n.out.length co Vv n.seen.length cs n.old A.r n.reqs.length A.cr) 30 (0,0))):=Ack
 have Wm:Hid (W5.heap[w.heap.size+1]?=some (.cells gu 30 (0,0))):=by rw [hW];exact(Below.heap_setCell _ _ _ _ (show w.heap.size+1≠w.heap.size by omega)).trans (ay Q7 Wv)
 have agR:Hid (aX w W5):=by rw [hW];exact belowN (Nat.le_refl _) (Cz.trans (Wv.mono Cz.size))
 have Gi:Hid (aC [w.heap.size] W4 W5):=by rw [hW];exact keepsN Wv
 have ahf:Hid (aC [w.heap.size] y W5):=Abe
 clear hW hN1 f1 Ji d0 d1 d2 d3 d4 d5 d6 d7 d8 xC Q7;have HSW:Hid (W5.ownsRow W4.heap.size 90 3 (.slice Vv n.seen.length cs) n.seen.length (GR.flat eG T)):=dA hrow ahf (λx hx=>by have:x=w.heap.size:=Aaf;omega);clear hrow;have awH:=aA Q5;have aw4:=aA Wm;have awq:=Gi.size;have awd:=Cz.size;obtain⟨c0,c1,c2,c3,c4,c5,c6,c7,c8⟩:=nine Q5;go_wp2_with fail;go_loopw [44] (λi wr=>∃(k:Nat) (T2:List R3) (I:Nat->Nat),k<=n.seen.length/\i= .int .i64 k/\SC w W5 wr W4.heap.size k n.seen T T2 I Vv cs) (λi _=>n.seen.length - (intOf i).toNat)
 case atStart=>exact⟨0,T,_,Nat.zero_le _,rfl,SC.start HT HSW⟩
 case' round=>
  obtain⟨k,T2,I,hk,rfl,hsc⟩:=hrel
  clear c0 c1 c2 c3 c4 c5 c6 c7 c8
  have HSC:=Hq hsc
  have fO:=Hq (hsc.below (Nat.le_refl W4.heap.size) awq)
  have hN4:w.heap.size+1 < W4.heap.size:=by have:=KJ.size;have:=Gf.size;have:=Gg.size;have:=Gh.size;omega
  have OZ:Hid (wr.heap[w.heap.size]?=some (.cells (fK n.id n.par ak n.kids.length ck n.next ap n.pu.length cp ao n.out.length co Vv n.seen.length cs n.old A.r n.reqs.length A.cr) 30 (0,0))):=(fO.block _ Aaa).trans Q5
  have Ph:Hid (wr.heap[w.heap.size+1]?=some (.cells gu 30 (0,0))):=(fO.block _ Aaa).trans Wm
  have VE:=Hq (agR.trans (fO.mono awd))
  clear hsc
  by_cases hlt:k < n.seen.length
  case' pos=>
   have Md:(k:Int) < (n.seen.length:Int):=Aaa
   obtain⟨b,cc,hTk,hIb⟩:=ah HTR k hlt
   have hk2:k < T2.length:=by rw [(ah HSC).len];exact hlt
   have ho2:=HSC.own
   rw [<-(ah HSC).len] at ho2
   obtain⟨g,rest,e0,hBg,hgb⟩:=yH ho2 (show 0 < T2.length by omega)
   have ati:T2[k]=⟨n.seen[k].f,n.seen[k].l,.slice b n.seen[k].ids.length cc⟩:=by
    have:=HSC.up k (Nat.le_refl _);rw [List.getElem?_eq_getElem hk2,hTk] at this;exact Option.some.inj this
   have q2:wr.cell? ⟨g,k*3+2,none⟩=some (.slice b n.seen[k].ids.length cc):=by
    have:=DR bZ hgb k hk2 2 Aaa;rw [ati] at this;exact this
   have hg5:g < W5.heap.size:=(HSW.lt g (by rw [e0];rfl)).2
   have jO:=Hq (λw1 (h1:aX wr w1)=>zD b cc n.seen[k].ids w1 (Nat.le_trans (HZ.sk _ (List.getElem_mem hlt)) Aaa) (GR.At.below hIb (VE.trans (h1.mono VE.size))))
   have jX:=Hq hgb
   have gG:=Hq (λx b2 c2 g2 hx hi hl=>SC.next (x:=x) (b:=b2) (cc:=c2) (gi:=g2) HSC hlt e0 ⟨b,cc,hTk⟩ hx hg5 hi hl)
   obtain⟨c0,c1,c2,c3,c4,c5,c6,c7,c8⟩:=nine OZ
   have hnr:=aA OZ
   have hgr:=aA hgb
   clear hTk hIb ho2 hgb ati
   subst e0
   generalize n.seen[k].ids=ids at *
   go_upto_region 13 with fail
   have y6:=cell_regrown c6
   have z2:=cell_regrown q2
   clear c0 c1 c2 c3 c4 c5 c6 c7 c8
   refine bE 12 Aab ?_
   show eF _ _ _ _ _ 13 (Array.replicate 13 false) _ _
   refine tk [0,1,2,3,4,5,6,7,8] ?_
   iterate 9 (refine qA (λK hK=>?_);go_simp;refine hK _ ?_;clear hK K)
   refine iN ?_
   clear y6 z2
   refine dz 9 rfl Aab Aad (λx hx=>?_)
   go_simp
   refine(jO x hx).mono ?_
   rintro e y ⟨v2,rfl,hrow,hby⟩
   refine⟨hby,?_⟩
   obtain⟨b2,c2,g2,rfl,hW2,hg2,_⟩:=GR.W.of_own (enc:=aW) aQ hrow
   have HY:=Hq (Ge.trans hx hby)
   have HWI:=Hq (And.intro hW2 (λz (hz:z∈fp g2 ids)=>And.intro (Nat.le_trans hx.size (hg2 z hz).1) (hg2 z hz).2))
   clear hx hby jO hrow hW2 hg2
   refine tk [10,11] ?_
   iterate 2 (refine qA (λK hK=>?_);go_simp;refine hK _ ?_;clear hK K)
   refine iN ?_
   refine aT Aab (λx3 hx3=>?_)
   have HX3:=Hq (Ge.trans HY hx3)
   have HRL:=Hq (gG x3 b2 c2 g2 HX3 (HWI.1.below hx3) (λz hz=>⟨(HWI.2 z hz).1,Nat.lt_of_lt_of_le (HWI.2 z hz).2 hx3.size⟩))
   have EW:=ay jX HX3
   have q3:x3.cell? ⟨g,k*3+2,none⟩=some (.slice b ids.length cc):=(HX3.cell (p:=⟨g,k*3+2,none⟩) hgr).trans q2
   have f3:=au EW (k*3+2)
   clear hx3 EW q2 gG
   refine aF 12 rfl Aab Aad ?_
   go_simp
   refine wpAny_done Aab ?_
   go_simp
   clear q3 f3
   go_wp2_with fail
   go_roundw
   case rel=>exact⟨k+1,_,_,Aaa,Aai,HRL⟩
   case measure=>simp[intOf];omega
  have hke:k=n.seen.length:=Aaa
  subst hke
  have hnlt:decide ((n.seen.length:Int) < (n.seen.length:Int))=false:=Aac
  go_upto_region 15 with fail
  refine wp_at (λW6 hWW=>?_)
  subst hWW
  have KQ:=Hq OZ
  have abS:=Hq Ph
  have VD:=Hq VE
  have abJ:=Hq fO
  obtain⟨gs,hsn⟩:=HSC.done
  obtain⟨I6,hI6⟩:∃J,J=I:=⟨I,rfl⟩
  rw [<-hI6] at hsn
  have HSN:=Hq hsn
  clear hsn hI6 HSC OZ Ph VE fO hnlt Q5 Wm hlt
 obtain⟨c0,c1,c2,c3,c4,c5,c6,c7,c8⟩:=nine KQ;have awI:=aA KQ;have av7:=au KQ 8;go_wp2_with fail;refine(aaW A.r A.cr n.reqs W6 (Nat.le_trans HZ.r Aaa) (iy _) (GR.At.below HA.r VD)).mono ?_;rintro e y ⟨vr,rfl,hrow,hby⟩;obtain⟨ar,cr,rfl,_⟩:=GR.own_at (enc:=aM) (sz:=4) bg hrow;have Ww:=Hq hby;have hN1:=ay KQ hby;have f1:=au hN1 8;have Ji:=aA hN1;obtain⟨d0,d1,d2,d3,d4,d5,d6,d7,d8⟩:=nine hN1;clear c0 c1 c2 c3 c4 c5 c6 c7 c8 hby av7;go_upto_region 16 with fail;refine wp_at (λW7 hW=>?_);have KT:Hid (W7.heap[w.heap.size]?=some (.cells (fK n.id n.par ak n.kids.length ck n.next ap n.pu.length cp ao n.out.length co Vv n.seen.length cs n.old ar n.reqs.length cr) 30 (0,0))):=Ack
 have abT:Hid (W7.heap[w.heap.size+1]?=some (.cells gu 30 (0,0))):=by rw [hW];exact(Below.heap_setCell _ _ _ _ (show w.heap.size+1≠w.heap.size by omega)).trans (ay abS Ww)
 have abG:Hid (aX w W7):=by rw [hW];exact belowN (Nat.le_refl _) (VD.trans (Ww.mono VD.size))
 have abK:Hid (aC [w.heap.size] W6 W7):=by rw [hW];exact keepsN Ww
 have ahg:Hid (aC [w.heap.size] y W7):=Abe
 clear hW hN1 f1 Ji d0 d1 d2 d3 d4 d5 d6 d7 d8 KQ abS;have HQW:Hid (W7.ownsRow W6.heap.size 97 4 (.slice ar n.reqs.length cr) n.reqs.length (GR.flat aM n.reqs)):=dA hrow ahg (λx hx=>by have:x=w.heap.size:=Aaf;omega);clear hrow;have awJ:=aA KT;obtain⟨c0,c1,c2,c3,c4,c5,c6,c7,c8⟩:=nine KT;go_wp2_with fail;go_loopw [67] (λi wr=>∃k:Nat,k<=n.reqs.length/\i= .int .i64 k/\aX W7 wr) (λi _=>n.reqs.length - (intOf i).toNat)
 case atStart=>exact Rv
 case' round=>
  obtain⟨k,hk,rfl,hbw⟩:=hrel
  clear c0 c1 c2 c3 c4 c5 c6 c7 c8
  by_cases hlt:k < n.reqs.length
  case' pos=>
   have Md:(k:Int) < (n.reqs.length:Int):=Aaa
   have gZ:=Hq hbw
   have OZ:=Hq (ay KT hbw)
   obtain⟨g,rest,e0,hBg,hgb⟩:=yH (GR.own_below HQW hbw) (show 0 < n.reqs.length by omega)
   have jX:=Hq hgb
   have q2:wr.cell? ⟨g,k*4+1,none⟩=some (.string n.reqs[k].k):=DR bg hgb k hlt 1 Aaa
   have hkk:n.reqs[k].k.size<=281474976710656:=Nat.le_trans (HZ.rk _ (List.getElem_mem hlt)) Aaa
   have jO:=Hq (λw1=>clone n.reqs[k].k w1 hkk)
   obtain⟨c0,c1,c2,c3,c4,c5,c6,c7,c8⟩:=nine OZ
   have hnr:=aA OZ
   have hgr:=aA hgb
   clear hbw hgb hkk
   subst e0
   generalize n.reqs[k].k=kx at *
   go_upto_region 19 with fail
   have y5:=cell_regrown c8
   have z2:=cell_regrown q2
   clear c0 c1 c2 c3 c4 c5 c6 c7 c8
   refine bE 12 Aab ?_
   show eF _ _ _ _ _ 13 (Array.replicate 13 false) _ _
   refine tk [0,1,2,3,4,5,6,7,8] ?_
   iterate 9 (refine qA (λK hK=>?_);go_simp;refine hK _ ?_;clear hK K)
   refine iN ?_
   clear y5 z2
   refine dz 9 rfl Aab Aad (λx hx=>?_)
   go_simp
   refine(jO x).mono ?_
   rintro e y ⟨rfl,hby⟩
   refine⟨hby,?_⟩
   have HY:=Hq (Ge.trans hx hby)
   clear hx hby jO
   refine tk [10,11] ?_
   iterate 2 (refine qA (λK hK=>?_);go_simp;refine hK _ ?_;clear hK K)
   refine iN ?_
   refine aT Aab (λx3 hx3=>?_)
   have HX3:=Hq (Ge.trans HY hx3)
   have EW:=ay jX HX3
   have q3:x3.cell? ⟨g,k*4+1,none⟩=some (.string kx):=(HX3.cell (p:=⟨g,k*4+1,none⟩) hgr).trans q2
   have f3:=au EW (k*4+1)
   have Vs:=Hq (CU EW q3)
   clear hx3 EW q2
   refine aF 12 rfl Aab Aad ?_
   go_simp
   refine wpAny_done Aab ?_
   go_simp
   clear q3 f3
   go_wp2_with fail
   go_roundw
   case rel=>exact aeG
   case measure=>simp[intOf];omega
  have hke:k=n.reqs.length:=Aaa
  subst hke
  have hnlt:decide ((n.reqs.length:Int) < (n.reqs.length:Int))=false:=Aac
  have gZ:=Hq hbw
  clear hbw
  go_upto_region 21 with fail
  refine wp_at (λW8 hWW=>?_)
  subst hWW
  have abP:=Hq (ay KT gZ)
  have sW:=Hq (ay abT gZ)
  have agS:=Hq (abG.trans (gZ.mono abG.size))
  have abL:Hid (aC [w.heap.size] W7 W8):=aC.of_below gZ
  clear gZ hnlt KT abT hlt
 obtain⟨c0,c1,c2,c3,c4,c5,c6,c7,c8⟩:=nine abP;obtain⟨d0,d1,d2,d3,d4,d5,d6,d7,d8⟩:=nine sW;have f0:=au sW 0;have f1:=au sW 1;have f2:=au sW 2;have f3:=au sW 3;have f4:=au sW 4;have f5:=au sW 5;have f6:=au sW 6;have f7:=au sW 7;have f8:=au sW 8;have awG:=aA abP;have awR:=aA sW;go_wp2_with fail;refine aN (λW' hW'=>?_)
 have e4:W'.heap[w.heap.size+1]?=some (.cells (fK n.id n.par ak n.kids.length ck n.next ap n.pu.length cp ao n.out.length co Vv n.seen.length cs n.old ar n.reqs.length cr) 30 (0,0)):=by
  rw [hW'];exact GR.setW_blk (fK n.id n.par ak n.kids.length ck n.next ap n.pu.length cp ao n.out.length co Vv n.seen.length cs n.old ar n.reqs.length cr).toList (o:=0) (xs:=gu.toList) sW
 have hso:∀x,x≠w.heap.size+1->W'.heap[x]?=W8.heap[x]?:=λx hx=>by
  rw [hW']
  exact GR.setW_other hx (fK n.id n.par ak n.kids.length ck n.next ap n.pu.length cp ao n.out.length co Vv n.seen.length cs n.old ar n.reqs.length cr).toList (o:=0)
 have hsz:W8.heap.size=W'.heap.size:=by rw [hW'];simp[World.setCell]
 have HBE:Hid (aX w W'):=by
  rw [hW'];exact GR.setW_below Aaa (fK n.id n.par ak n.kids.length ck n.next ap n.pu.length cp ao n.out.length co Vv n.seen.length cs n.old ar n.reqs.length cr).toList (o:=0) agS
 clear hW' c0 c1 c2 c3 c4 c5 c6 c7 c8 d0 d1 d2 d3 d4 d5 d6 d7 d8 f0 f1 f2 f3 f4 f5 f6 f7 f8;obtain⟨c0,c1,c2,c3,c4,c5,c6,c7,c8⟩:=nine e4;have k1:=Gf.size;have k2:=Gg.size;have k3:=Gh.size;have k4:=Gi.size;have k5:=abJ.size;have k6:=abK.size;have k7:=abL.size;have k0:=KJ.size;have b8:∀x,w.heap.size+1 < x->x < W7.heap.size->W'.heap[x]?=W7.heap[x]?:=λx h1 h2=>(hso x Aaa).trans (abL.block x h2 Aag)
 have b6:∀x,w.heap.size+1 < x->x < W6.heap.size->W'.heap[x]?=W6.heap[x]?:=λx h1 h2=>(b8 x h1 Aaa).trans (abK.block x h2 Aag)
 have b4:∀x,w.heap.size+1 < x->x < W4.heap.size->W'.heap[x]?=W4.heap[x]?:=λx h1 h2=>((b6 x h1 Aaa).trans (abJ.block x h2)).trans (Gi.block x h2 Aag)
 have b3:∀x,w.heap.size+1 < x->x < W3.heap.size->W'.heap[x]?=W3.heap[x]?:=λx h1 h2=>(b4 x h1 Aaa).trans (Gh.block x h2 Aag)
 have b2:∀x,w.heap.size+1 < x->x < W2.heap.size->W'.heap[x]?=W2.heap[x]?:=λx h1 h2=>(b3 x h1 Aaa).trans (Gg.block x h2 Aag)
 have b1:∀x,w.heap.size+1 < x->x < W1.heap.size->W'.heap[x]?=W1.heap[x]?:=λx h1 h2=>(b2 x h1 Aaa).trans (Gf.block x h2 Aag)
 have oS:=HSW.lt;have oO:=HOW.lt;have oQ:=HQW.lt;obtain⟨sw,sg,si,snd⟩:=ah HSN
 have jP:Hid (NO W' w.heap.size n ⟨ak,ap,ao,Vv,ar,ck,cp,co,cs,cr⟩ ⟨gk,gp,0,gs,0,I6⟩ (AY W0.heap.size W1.heap.size W2.heap.size W4.heap.size W5.heap.size W6.heap.size)):=by
  refine⟨xL HKW.1 Aaa (λx hx=>b1 x (by have:=HKW.2 x hx;omega) (HKW.2 x hx).2),xL EA.1 Aaa (λx hx=>b2 x (by have:=EA.2 x hx;omega) (EA.2 x hx).2),je (jI HOW (λx hx=>b3 x (by have:=oO x hx;omega) (oO x hx).2)) Aaa,Lj sw Aaa (λx hx=>b6 x (by have:=(sg x hx).1;omega) (by have:=oS x (sg x hx).2;omega)) (λx hx=>b6 x (by have:=si x hx;omega) (si x hx).2),je (jI HQW (λx hx=>b8 x (by have:=oQ x hx;omega) (oQ x hx).2)) Aaa,λx hx=>?_,λx hx=>?_,λx hx=>?_,λx hx=>?_,λx hx=>?_,λx hx=>?_,λx hx=>?_,snd⟩
  .unfold AY;rw [if_pos Aaa]
  .have:=HKW.2 x hx;unfold AY;rw [if_neg Aaa,if_pos Aaa]
  .have:=EA.2 x hx;unfold AY;rw [if_neg Aaa,if_neg Aaa,if_pos Aaa]
  .have:=oO x hx;unfold AY;rw [if_neg Aaa,if_neg Aaa,if_neg Aaa,if_pos Aaa]
  .have:=oS x (sg x hx).2;unfold AY;rw [if_neg Aaa,if_neg Aaa,if_neg Aaa,if_neg Aaa,if_pos Aaa]
  .have:=si x hx;unfold AY;rw [if_neg Aaa,if_neg Aaa,if_neg Aaa,if_neg Aaa,if_neg Aaa,if_pos Aaa]
  .have:=oQ x hx;unfold AY;rw [if_neg Aaa,if_neg Aaa,if_neg Aaa,if_neg Aaa,if_neg Aaa,if_neg Aaa]
 clear e4 hso b8 b6 b4 b3 b2 b1 oS oO oQ sw sg si snd;exact bodyPost_ret (v:= .agg (fK n.id n.par ak n.kids.length ck n.next ap n.pu.length cp ao n.out.length co Vv n.seen.length cs n.old ar n.reqs.length cr)) (by simp[results,Tryz.results34,go_sem,c0,c1,c2,c3,c4,c5,c6,c7,c8]) rfl ⟨⟨ak,ap,ao,Vv,ar,ck,cp,co,cs,cr⟩,_,_,rfl,jP,HBE⟩
theorem NO.base {w:World} {B B':Nat} {n:Nd} {A:bH} {G:aV} {c:Nat->Nat} (h:NO w B n A G c) (hB:B'<=B):NO w B' n A G c:=
 ⟨h.k,h.p,je h.o hB,h.s,je h.r hB,λx hx=>h.lo x Aaa,h.ck,h.cp,h.co,h.c4,h.ci,h.cr,h.ni⟩
theorem fC (w:World) (a b d:Obj):(((w.alloc a).alloc b).alloc d).heap[w.heap.size]?=some a/\(((w.alloc a).alloc b).alloc d).heap[w.heap.size+1]?=some b/\(((w.alloc a).alloc b).alloc d).heap[w.heap.size+2]?=some d/\Below w.heap.size w (((w.alloc a).alloc b).alloc d):=I7 w a b d
theorem oC {w X:World} {g B:Nat} {b0 b1 b2 b3 b4 b5 b6 b7 b8:Value} (h:Below B w X) (hg:B<=g):
 Below B w (((((((((X.setCell ⟨g,0,none⟩ b0).setCell ⟨g,1,none⟩ b1).setCell ⟨g,2,none⟩ b2).setCell ⟨g,3,none⟩ b3).setCell ⟨g,4,none⟩ b4).setCell ⟨g,5,none⟩ b5).setCell ⟨g,6,none⟩ b6).setCell ⟨g,7,none⟩ b7).setCell ⟨g,8,none⟩ b8):=
 ((((((((h.setCell (p:=⟨g,0,none⟩) hg b0).setCell (p:=⟨g,1,none⟩) hg b1).setCell (p:=⟨g,2,none⟩) hg b2).setCell (p:=⟨g,3,none⟩) hg b3).setCell (p:=⟨g,4,none⟩) hg b4).setCell (p:=⟨g,5,none⟩) hg b5).setCell (p:=⟨g,6,none⟩) hg b6).setCell (p:=⟨g,7,none⟩) hg b7).setCell (p:=⟨g,8,none⟩) hg b8
theorem qD {X:World} {g:Nat} {a0 a1 a2 a3 a4 a5 a6 a7 a8 b0 b1 b2 b3 b4 b5 b6 b7 b8:Value} {t:TypeId} (h:X.heap[g]?=some (.cells #[a0,a1,a2,a3,a4,a5,a6,a7,a8] t (0,0))):
 (((((((((X.setCell ⟨g,0,none⟩ b0).setCell ⟨g,1,none⟩ b1).setCell ⟨g,2,none⟩ b2).setCell ⟨g,3,none⟩ b3).setCell ⟨g,4,none⟩ b4).setCell ⟨g,5,none⟩ b5).setCell ⟨g,6,none⟩ b6).setCell ⟨g,7,none⟩ b7).setCell ⟨g,8,none⟩ b8).heap[g]?=some (.cells #[b0,b1,b2,b3,b4,b5,b6,b7,b8] t (0,0)):=by
 have h0:(X.setCell ⟨g,0,none⟩ b0).heap[g]?=some (.cells #[b0,a1,a2,a3,a4,a5,a6,a7,a8] t (0,0)):=bC h 0 b0;have h1:((X.setCell ⟨g,0,none⟩ b0).setCell ⟨g,1,none⟩ b1).heap[g]?=some (.cells #[b0,b1,a2,a3,a4,a5,a6,a7,a8] t (0,0)):=bC h0 1 b1;have h2:(((X.setCell ⟨g,0,none⟩ b0).setCell ⟨g,1,none⟩ b1).setCell ⟨g,2,none⟩ b2).heap[g]?=some (.cells #[b0,b1,b2,a3,a4,a5,a6,a7,a8] t (0,0)):=bC h1 2 b2;have h3:((((X.setCell ⟨g,0,none⟩ b0).setCell ⟨g,1,none⟩ b1).setCell ⟨g,2,none⟩ b2).setCell ⟨g,3,none⟩ b3).heap[g]?=some (.cells #[b0,b1,b2,b3,a4,a5,a6,a7,a8] t (0,0)):=bC h2 3 b3;have h4:(((((X.setCell ⟨g,0,none⟩ b0).setCell ⟨g,1,none⟩ b1).setCell ⟨g,2,none⟩ b2).setCell ⟨g,3,none⟩ b3).setCell ⟨g,4,none⟩ b4).heap[g]?=some (.cells #[b0,b1,b2,b3,b4,a5,a6,a7,a8] t (0,0)):=bC h3 4 b4;have h5:((((((X.setCell ⟨g,0,none⟩ b0).setCell ⟨g,1,none⟩ b1).setCell ⟨g,2,none⟩ b2).setCell ⟨g,3,none⟩ b3).setCell ⟨g,4,none⟩ b4).setCell ⟨g,5,none⟩ b5).heap[g]?=some (.cells #[b0,b1,b2,b3,b4,b5,a6,a7,a8] t (0,0)):=bC h4 5 b5;have h6:(((((((X.setCell ⟨g,0,none⟩ b0).setCell ⟨g,1,none⟩ b1).setCell ⟨g,2,none⟩ b2).setCell ⟨g,3,none⟩ b3).setCell ⟨g,4,none⟩ b4).setCell ⟨g,5,none⟩ b5).setCell ⟨g,6,none⟩ b6).heap[g]?=some (.cells #[b0,b1,b2,b3,b4,b5,b6,a7,a8] t (0,0)):=bC h5 6 b6;have h7:((((((((X.setCell ⟨g,0,none⟩ b0).setCell ⟨g,1,none⟩ b1).setCell ⟨g,2,none⟩ b2).setCell ⟨g,3,none⟩ b3).setCell ⟨g,4,none⟩ b4).setCell ⟨g,5,none⟩ b5).setCell ⟨g,6,none⟩ b6).setCell ⟨g,7,none⟩ b7).heap[g]?=some (.cells #[b0,b1,b2,b3,b4,b5,b6,b7,a8] t (0,0)):=bC h6 7 b7;have h8:(((((((((X.setCell ⟨g,0,none⟩ b0).setCell ⟨g,1,none⟩ b1).setCell ⟨g,2,none⟩ b2).setCell ⟨g,3,none⟩ b3).setCell ⟨g,4,none⟩ b4).setCell ⟨g,5,none⟩ b5).setCell ⟨g,6,none⟩ b6).setCell ⟨g,7,none⟩ b7).setCell ⟨g,8,none⟩ b8).heap[g]?=some (.cells #[b0,b1,b2,b3,b4,b5,b6,b7,b8] t (0,0)):=bC h7 8 b8;exact h8
theorem mq {X:World} {g:Nat} {b0 b1 b2 b3 b4 b5 b6 b7 b8:Value}:
 aC [g] X (((((((((X.setCell ⟨g,0,none⟩ b0).setCell ⟨g,1,none⟩ b1).setCell ⟨g,2,none⟩ b2).setCell ⟨g,3,none⟩ b3).setCell ⟨g,4,none⟩ b4).setCell ⟨g,5,none⟩ b5).setCell ⟨g,6,none⟩ b6).setCell ⟨g,7,none⟩ b7).setCell ⟨g,8,none⟩ b8):=
 (((((((((aC.set b0).trans (aC.set b1)).trans (aC.set b2)).trans (aC.set b3)).trans (aC.set b4)).trans (aC.set b5)).trans (aC.set b6)).trans (aC.set b7)).trans (aC.set b8))
theorem NO.keepsN {w X:World} {B g:Nat} {n:Nd} {A:bH} {G:aV} {c:Nat->Nat} (h:NO w B n A G c) (hg:g < B) (hk:aC [g] w X):NO X B n A G c:=by
 have hc:KC c 0 w X:=KC.keeps hk (λx hx=>by rw [List.mem_singleton.1 hx];exact h.lo g hg);exact as3
theorem NO.belowN {w X:World} {B:Nat} {n:Nd} {A:bH} {G:aV} {c:Nat->Nat} (h:NO w B n A G c) (hb:aX w X):NO X B n A G c:=by
 have hc:KC c 0 w X:=KC.of_below hb;exact as3
theorem nK {P:Program} (w:World) (base:Nat) (t ty e:TypeId) (i:TypeInfo) (size:Nat) (ht:P.underlying t=some (.slice e)) (hi:P.info? e=some i)
 (v:Value) (n:Nat) (xs:List Value) (hown:w.ownsRow base e size v n xs) (a:Option Addr) (c:Nat):
 (Builtin.append_ #[t,t] ty #[v,.slice a 0 c]).run P w= .ok v w:=by
 rcases hown.2 with⟨rfl,rfl⟩|⟨g,cap,cur,rfl,_,_,hnc,_⟩
 .cases a<;>simp[Builtin.append_,run_underlying ht,sizeOf,typeInfo,hi,Builtin.lenOf,Builtin.firstCells,loadCells,loadCellsFrom]
 .cases a<;>simp[Builtin.append_,run_underlying ht,sizeOf,typeInfo,hi,Builtin.lenOf,Builtin.firstCells,loadCells,loadCellsFrom,hnc,storeCells]
theorem eT {P:Program} {α:Type} {enc:α->List Value} {sz:Nat} (hs:∀x,(enc x).length=sz) (hz:0 < sz) (w:World) (base:Nat) (t ty e:TypeId) (i:TypeInfo) (z:Value) (bytes:Nat) (ht:P.underlying t=some (.slice e)) (hi:P.info? e=some i) (hz0:i.zero=some z)
 (hsize:i.size=sz) (hby:i.bytes=bytes) (hzs:z.cells.size=sz) (v:Value) (n:Nat) (xs:List Value) (hown:w.ownsRow base e sz v n xs)
 (a:Option Addr) (l:List α) (c:Nat) (ha:GR.At enc sz w a l) (h1:∀u∈GR.flat enc l,u.oneCell'=true) (h63:n+l.length<=maxLen) (hbytes:(n+l.length)*bytes<=140737488355328) (hbase:base<=w.heap.size):
 ∃v' w',(Builtin.append_ #[t,t] ty #[v,.slice a l.length c]).run P w= .ok v' w'/\w'.ownsRow base e sz v' (n+l.length) (xs++GR.flat enc l)/\w.grownBy w' v.ownBlock/\∀x,v'.ownBlock=some x->v.ownBlock=some x\/w.heap.size<=x:=by
 by_cases hl:l.length=0
 .have hn:l=[]:=List.eq_nil_of_length_eq_zero hl;subst hn;exact⟨v,w,nK w base t ty e i sz ht hi v n xs hown a c,by simpa [GR.flat] using hown,World.grownBy.refl _ _,λx hx=> .inl hx⟩
 .obtain⟨g,off,rfl,_⟩:=ha 0 Aaa;exact fV w base t ty e i z sz bytes ht hi hz0 hsize hby hzs hz v n xs hown ⟨g,off,none⟩ l.length c (GR.flat enc l) (GR.flat_length enc sz hs l) (R8 hs hz ha) h1 h63 hbytes hbase
theorem run_copy_row {P:Program} {α:Type} {enc:α->List Value} {sz:Nat} (hs:∀x,(enc x).length=sz) (hz:0 < sz) (w:World) (t e:TypeId) (i:TypeInfo) (z:Value) (bytes:Nat) (ht:P.underlying t=some (.slice e)) (hi:P.info? e=some i) (hz0:i.zero=some z)
 (hsize:i.size=sz) (hby:i.bytes=bytes) (hzs:z.cells.size=sz) (a:Option Addr) (l:List α) (c:Nat) (ha:GR.At enc sz w a l) (h1:∀u∈GR.flat enc l,u.oneCell'=true) (h63:l.length<=maxLen) (hbytes:l.length*bytes<=140737488355328):
 ∃a' c' w',(∀ty,(Builtin.append_ #[t,t] ty #[.slice (some ⟨w.heap.size,0,none⟩) 0 0,.slice a l.length c]).run P (w.alloc (.cells #[] e))= .ok (.slice a' l.length c') w')/\w'.ownsRow w.heap.size e sz (.slice a' l.length c') l.length (GR.flat enc l)/\aX w w'/\(∃g,a'=some ⟨g,0,none⟩)/\l.length<=c':=by
 open apR in exact adi
theorem FB {P:Program} {α:Type} {enc:α->List Value} {sz:Nat} (hs:∀x,(enc x).length=sz) (hz:0 < sz) (w:World) (t e:TypeId) (i:TypeInfo) (z:Value) (bytes:Nat) (ht:P.underlying t=some (.slice e)) (hi:P.info? e=some i) (hz0:i.zero=some z)
 (hsize:i.size=sz) (hby:i.bytes=bytes) (hzs:z.cells.size=sz) (a:Option Addr) (l:List α) (c:Nat) (ha:GR.At enc sz w a l) (h1:∀u∈GR.flat enc l,u.oneCell'=true) (h63:l.length<=maxLen) (hbytes:l.length*bytes<=140737488355328):
 ∃a' c' w',(∀ty,(Builtin.append_ #[t,t] ty #[.slice (some ⟨w.heap.size,0,none⟩) 0 0,.slice a l.length c]).run P (w.alloc (.cells #[] e))= .ok (.slice a' l.length c') w')/\w'.ownsRow w.heap.size e sz (.slice a' l.length c') l.length (GR.flat enc l)/\aX w w'/\(l=[]->c'=0):=by
 by_cases hl0:l.length=0
 .have hn:l=[]:=List.eq_nil_of_length_eq_zero hl0;subst hn;open apQ in exact adi
 .obtain⟨a',c',w',q1,q2,q3,_⟩:=run_copy_row hs hz w t e i z bytes ht hi hz0 hsize hby hzs a l c ha h1 h63 hbytes;exact⟨a',c',w',q1,q2,q3,λe=>absurd (by rw [e];rfl) hl0⟩
theorem fZ {P:Program} {w:World} {ops:Array Oper} {rest:List Oper} {o:Oper} {a:Act} {Q:Exit->Act->World->Prop} (hgd:o.guard=none) (s x:Operand) (t:TypeId)
 (ho:o.op= .call {callee:= .builtin .append,args:=#[s,x],argTypes:=#[t,t]}) (vs vx:Value) (hs:a.eval s=vs) (hx:a.eval x=vx) (v':Value) (w':World) (hrun:(Builtin.append_ #[t,t] o.type #[vs,vx]).run P w= .ok v' w')
 (h:wpList P ops Q rest (a.put o.dst v') w'):wpList P ops Q (o::rest) a w:=by
 refine wpList_plain hgd λK hK=>?_
 unfold Oper.wp;simp[execOp,ho,resolve,invoke,builtin,hs,hx,hrun,Result.andThen];exact hK _ _ h
end Go.Proofs.YtacgbldlonoaaaaGreatDoor
