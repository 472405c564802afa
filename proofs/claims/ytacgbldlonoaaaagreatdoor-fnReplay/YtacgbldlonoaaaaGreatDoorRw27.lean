/- Parts. -/
import Derived.Test.YtacgbldlonoaaaaGreatDoorRwT
import Derived.Test.YtacgbldlonoaaaaGreatDoorRw25
import Derived.Test.YtacgbldlonoaaaaGreatDoorRw24
import Derived.Test.YtacgbldlonoaaaaGreatDoorRw17
namespace Go.Proofs.YtacgbldlonoaaaaGreatDoor
open Go.Proofs.Tryz
set_option maxHeartbeats 8000000
set_option maxRecDepth 100000
open Go.RowKit
open Mth
variable {w Y W5 wr w':World} {B sz k cs nb i g B':Nat} {v:Value} {a:Option Addr} {l:List Sn} {P:Program} {T T2:List R3} {I:Nat->Nat} {α:Type} {enc:α->List Value} {t:TypeId} {xs:List Value}
theorem keepsN {X:World} (hb:aY X Y):aC [nb] X (Y.setCell ⟨nb,i,none⟩ v):=(aC.of_below hb).trans (aC.set v)
theorem uh (hn:w.heap.size<=nb) (hb:aY w Y):Below w.heap.size w (Y.setCell ⟨nb,i,none⟩ v):=hb.setCell (p:=⟨nb,i,none⟩) hn v
theorem pY {cs:Array Value} (h:Y.heap[nb]?=some (.cells cs 30 (0,0))):(Y.setCell ⟨nb,i,none⟩ v).heap[nb]?=some (.cells (cs.setIfInBounds i v) 30 (0,0)):=aT h i v
theorem dG {F:List Nat} {W:World} (h:Y.ownsRow B t sz v k xs) (hk:aC F Y W) (hd:∀x∈F,x < B):W.ownsRow B t sz v k xs:=by
 refine⟨h.1,?_⟩;rcases h.2 with hn|⟨g,cap,cur,rfl,hb,hgg,rest⟩
 .exact .inl hn
 .exact .inr ⟨g,cap,cur,rfl,hb,hk.obj hgg (λhm=>by have:=hd g hm;omega),rest⟩
theorem abd (u:Value):∀(l:List R3) (i:Nat) (hi:i < l.length),(GR.flat eP l).set (i*3+2) u=GR.flat eP (l.set i ⟨l[i].f,l[i].l,u⟩):=by
 intro l;induction l with
 |nil=>intro i hi;simp at hi
 |cons x r ih=>
  intro i hi
  cases i with
  |zero=>rfl
  |succ i=>
   have hi2:i < r.length:=Aaq
   have h1:=ih i hi2
   show(eP x++GR.flat eP r).set ((i+1)*3+2) u=eP x++GR.flat eP (r.set i ⟨r[i].f,r[i].l,u⟩)
   rw [<-h1,List.set_append_right _ _ (by show 3<=_;omega)]
   congr 2
   show(i+1)*3+2 - 3=_
   omega
structure SC (w W5 wr:World) (B k:Nat) (l:List Sn) (T T2:List R3) (I:Nat->Nat) (a:Option Addr) (cs:Nat):Prop where
 len:T2.length=l.length
 own:wr.ownsRow B 90 3 (.slice a l.length cs) l.length (GR.flat eP T2)
 dn:∀i (hi:i < l.length),i < k->∃b c,T2[i]?=some ⟨l[i].f,l[i].l,.slice b l[i].ids.length c⟩/\GR.W aS 1 wr b (I i) l[i].ids/\∀x∈fp (I i) l[i].ids,W5.heap.size<=x/\x < wr.heap.size
 up:∀i,k<=i->T2[i]?=T[i]?
 nd:∀i j (hi:i < l.length) (hj:j < l.length),i < j->j < k->0 < l[i].ids.length->0 < l[j].ids.length->I i≠I j
 gr:W5.grownBy wr (Value.slice a l.length cs).ownBlock
theorem SC.start (hT:T.length=l.length) (ho:W5.ownsRow B 90 3 (.slice a l.length cs) l.length (GR.flat eP T)):SC w W5 W5 B 0 l T T (λ_=>0) a cs:=
 ⟨hT,ho,λi _ h=>Aaa,λ_ _=>rfl,λi j _ _ _ h=>Aaa,World.grownBy.refl _ _⟩
theorem SC.next {x:World} {gi cc:Nat} {b:Option Addr} (h:SC w W5 wr B k l T T2 I a cs) (hk:k < l.length) (ha:a=some ⟨g,0,none⟩) (hT:∃b c,T[k]?=some ⟨l[k].f,l[k].l,.slice b l[k].ids.length c⟩) (hx:aY wr x) (hg5:g < W5.heap.size) (hi:GR.W aS 1 x b gi l[k].ids) (hlt:∀z∈fp gi l[k].ids,wr.heap.size<=z/\z < x.heap.size):SC w W5 (x.setCell ⟨g,k*3+2,none⟩ (.slice b l[k].ids.length cc)) B (k+1) l T (T2.set k ⟨l[k].f,l[k].l,.slice b l[k].ids.length cc⟩) (λi=>if i=k then gi else I i) a cs:=by
 subst ha;have hk2:k < T2.length:=by rw [h.len];exact hk
 have hTk:∃b c,T2[k]=⟨l[k].f,l[k].l,.slice b l[k].ids.length c⟩:=by
  obtain⟨b',c',e⟩:=hT;refine⟨b',c',?_⟩;have:=h.up k (Nat.le_refl _);rw [List.getElem?_eq_getElem hk2,e] at this;exact Option.some.inj this
 have hgs:x.heap.size=(x.setCell ⟨g,k*3+2,none⟩ (.slice b l[k].ids.length cc)).heap.size:=Aas
 have hkp:aC [g] x (x.setCell ⟨g,k*3+2,none⟩ (.slice b l[k].ids.length cc)):=aC.set _;have hws:=h.gr.size;have hxs:=hx.size;refine⟨by rw [List.length_set];exact h.len,?_,λi hi' hik=>?_,λi hik=>?_,λi j hi' hj hij hjk h1 h2=>?_,?_⟩
 .have ho:=GR.own_below h.own hx;have hst:=(ho.stored (k*3+2) (.slice b l[k].ids.length cc)).1;rw [abd _ T2 k hk2] at hst;obtain⟨b',c',e⟩:=hTk;rw [e] at hst;exact hst
 .by_cases e:i=k
  .subst e;refine⟨b,cc,by rw [List.getElem?_set_self hk2],?_,?_⟩
   .rw [if_pos rfl];exact hi.keeps hkp (λz hz hm=>by have:=(hlt z hz).1;have:z=g:=Aau;omega)
   .rw [if_pos rfl];exact λz hz=>⟨by have:=(hlt z hz).1;omega,by rw [<-hgs];exact(hlt z hz).2⟩
  .obtain⟨b',c',e1,e2,e3⟩:=h.dn i hi' Aaa;refine⟨b',c',by rw [List.getElem?_set_ne Aaa];exact e1,?_,?_⟩
   .rw [if_neg e];exact(e2.below hx).keeps hkp (λz hz hm=>by have:=(e3 z hz).1;have:z=g:=Aau;omega)
   .rw [if_neg e];exact λz hz=>⟨(e3 z hz).1,by rw [<-hgs];have:=(e3 z hz).2;omega⟩
 .rw [List.getElem?_set_ne Aaa];exact h.up i Aaa
 .by_cases ej:j=k
  .subst ej;rw [if_neg Aaa,if_pos rfl];obtain⟨_,_,_,_,e3⟩:=h.dn i hi' Aaa;have q1:=(e3 (I i) (dK h1)).2;have q2:=(hlt gi (dK h2)).1;omega
  .exact ah0
 .refine h.gr.andThen (row':=some g) ⟨hx.os,hx.tape,hx.output,by rw [<-hgs];exact hx.size,λz hz hne=>?_⟩ (λj hj=> .inr (by cases hj;rfl));rw [Below.heap_setCell _ _ _ _ (λe=>hne Aao)];exact hx.block z hz
theorem SC.done (h:SC w W5 wr B l.length l T T2 I a cs):∃g,jw wr a g I l/\(∀x∈fp g l,B<=x/\(Value.slice a l.length cs).ownBlock=some x)/\(∀x∈vR I l,W5.heap.size<=x/\x < wr.heap.size)/\(vR I l).Nodup:=by
 open ati in exact agc
theorem SC.below (h:SC w W5 wr B k l T T2 I a cs) {C:Nat} (hC:C<=B) (hs:C<=W5.heap.size):Below C W5 wr:=
 ⟨h.gr.os,h.gr.tape,h.gr.output,h.gr.size,λx hx=>h.gr.block x Aaa (λe=>by have:=(h.own.lt x e.symm).1;omega)⟩
theorem zx {l:List α} (h:GR.W enc sz w a g l) (hs:w.heap.size<=w'.heap.size) (hb:∀x∈fp g l,w'.heap[x]?=w.heap[x]?):GR.W enc sz w' a g l:=λi hi=>by
 obtain⟨e,hg,hc⟩:=h i hi;have hbl:=hb g (dK Aaa);exact⟨e,Aaa,λj hj=>⟨(World.cell?_of_block (w:=w) hbl).trans (hc j hj).1,(World.frozen?_of_block (w:=w) hbl).trans (hc j hj).2⟩⟩
theorem kH (h:w.ownsRow B t sz v k xs) (hb:∀x,v.ownBlock=some x->w'.heap[x]?=w.heap[x]?):w'.ownsRow B t sz v k xs:=by
 refine⟨h.1,?_⟩;rcases h.2 with hn|⟨g,cap,cur,rfl,hB,hgg,rest⟩
 .exact .inl hn
 .exact .inr ⟨g,cap,cur,rfl,hB,(hb g rfl).trans hgg,rest⟩
theorem jO (h:w.ownsRow B t sz v k xs) (hB:B'<=B):w.ownsRow B' t sz v k xs:=by
 refine⟨h.1,?_⟩;rcases h.2 with hn|⟨g,cap,cur,rfl,hBg,rest⟩
 .exact .inl hn
 .exact .inr ⟨g,cap,cur,rfl,Aaa,rest⟩
theorem Oz (h:jw w a g I l) (hs:w.heap.size<=w'.heap.size) (hb:∀x∈fp g l,w'.heap[x]?=w.heap[x]?) (hI:∀x∈vR I l,w'.heap[x]?=w.heap[x]?):jw w' a g I l:=by
 obtain⟨T,hT,hl,hr⟩:=h;refine⟨T,zx hT hs (λx hx=>hb x (by have:=gV hx;rw [this.1];exact dK (by omega))),hl,λi hi=>?_⟩;obtain⟨b,c,ht,hi2⟩:=hr i hi;exact⟨b,c,ht,zx hi2 hs (λx hx=>hI x (jH hi x hx))⟩
def Di (s0 s1 s2 s4 s5 s6 x:Nat):Nat:=if x < s0 then 0 else if x < s1 then 1 else if x < s2 then 2 else if x < s4 then 3 else if x < s5 then 4 else if x < s6 then 5 else 6
theorem uD (n:Nd) (A:bC) (w:World) (hz:eY n 1048576) (ha:bQ w A n):
 Calls prog 34 #[fT n A] w λe w'=>∃A' G' c',e= .returned (fT n A')/\NO w' w.heap.size n A' G' c'/\aY w w':=by
 have HZ:=Hq hz;have HA:=Hq ha;have hlo:=hz.o;have hls:=hz.s;have hlr:=hz.r;clear hz ha;go_in
 go_upto_region 1 with fail;refine wp_at (λW0 hW=>?_);obtain⟨e1,e2,e3⟩:=iO w (.cells (dD n A) 30) (.cells fU 30);rw [<-hW] at e1 e2 e3;have xH:=Hq e1;have Oh:=Hq e2;have EC:=Hq e3;have hsz0:=aA e2;clear hW e1 e2 e3;obtain⟨c0,c1,c2,c3,c4,c5,c6,c7,c8⟩:=nine xH;have ajB:=aA xH;have aAS:=aj xH 2;go_wp2_with fail;refine(BM A.k A.ck n.kids W0 (Nat.le_trans HZ.k Aaa) (GR.At.below HA.k EC)).mono ?_;rintro e y ⟨vk,rfl,hrow,hby⟩;obtain⟨ak,ck,gk,rfl,hWk,hgk,_⟩:=GR.W.of_own (enc:=aS) aR hrow;clear hrow;have zo:=Hq hby;have hN1:=ay xH hby;have f1:=aj hN1 2;have Lv:=aA hN1;obtain⟨d0,d1,d2,d3,d4,d5,d6,d7,d8⟩:=nine hN1;clear c0 c1 c2 c3 c4 c5 c6 c7 c8 hby aAS;go_upto_region 2 with fail;refine wp_at (λW1 hW=>?_);have xI:Hid (W1.heap[w.heap.size]?=some (.cells (gH n.id n.par ak n.kids.length ck n.next A.p n.pu.length A.cp A.o n.out.length A.co A.s n.seen.length A.cs n.old A.r n.reqs.length A.cr) 30 (0,0))):=Acr
 have Oi:Hid (W1.heap[w.heap.size+1]?=some (.cells fU 30 (0,0))):=by rw [hW];exact(Below.heap_setCell _ _ _ _ (show w.heap.size+1≠w.heap.size by omega)).trans (ay Oh zo)
 have ED:Hid (aY w W1):=by rw [hW];exact uh (Nat.le_refl _) (EC.trans (zo.mono EC.size))
 have NJ:Hid (aC [w.heap.size] W0 W1):=by rw [hW];exact keepsN zo
 have UY:Hid (aC [w.heap.size] y W1):=Abi
 clear hW hN1 f1 Lv d0 d1 d2 d3 d4 d5 d6 d7 d8 xH Oh;have HKW:Hid (GR.W aS 1 W1 ak gk n.kids/\∀x∈fp gk n.kids,W0.heap.size<=x/\x < W1.heap.size):=⟨hWk.keeps UY (λx hx=>by have:=(hgk x hx).1;simp;omega),λx hx=>⟨(hgk x hx).1,Nat.lt_of_lt_of_le (hgk x hx).2 UY.size⟩⟩;clear hWk hgk;obtain⟨c0,c1,c2,c3,c4,c5,c6,c7,c8⟩:=nine xI;have ajC:=aA xI;have aAT:=aj xI 4;go_wp2_with fail;refine(Pt A.p A.cp n.pu W1 HZ.p HZ.pk (GR.At.below HA.p ED)).mono ?_;rintro e y ⟨ap,cp,gp,hgp,rfl,hWp,hby⟩;have zq:=Hq hby;have hN1:=ay xI hby;have f1:=aj hN1 4;have Lv:=aA hN1;obtain⟨d0,d1,d2,d3,d4,d5,d6,d7,d8⟩:=nine hN1;clear c0 c1 c2 c3 c4 c5 c6 c7 c8 hby aAT;go_upto_region 3 with fail;refine wp_at (λW2 hW=>?_);have xJ:Hid (W2.heap[w.heap.size]?=some (.cells (gH n.id n.par ak n.kids.length ck n.next ap n.pu.length cp A.o n.out.length A.co A.s n.seen.length A.cs n.old A.r n.reqs.length A.cr) 30 (0,0))):=Acr
 have Oj:Hid (W2.heap[w.heap.size+1]?=some (.cells fU 30 (0,0))):=by rw [hW];exact(Below.heap_setCell _ _ _ _ (show w.heap.size+1≠w.heap.size by omega)).trans (ay Oi zq)
 have EF:Hid (aY w W2):=by rw [hW];exact uh (Nat.le_refl _) (ED.trans (zq.mono ED.size))
 have Jr:Hid (aC [w.heap.size] W1 W2):=by rw [hW];exact keepsN zq
 have UZ:Hid (aC [w.heap.size] y W2):=Abi
 clear hW hN1 f1 Lv d0 d1 d2 d3 d4 d5 d6 d7 d8 xI Oi
 have GQ:Hid (GR.W fH 4 W2 ap gp n.pu/\∀x∈fp gp n.pu,W1.heap.size<=x/\x < W2.heap.size):=by
  have hgy:=Fj (show GR.W fH 4 y ap gp n.pu from hWp);have hs0:=NJ.size;refine⟨GR.W.keeps (show GR.W fH 4 y ap gp n.pu from hWp) UZ (λx hx=>by have:=(gV hx).1;simp;omega),λx hx=>⟨by have:=(gV hx).1;omega,Nat.lt_of_lt_of_le (hgy x hx) UZ.size⟩⟩
 clear hWp hgp;obtain⟨c0,c1,c2,c3,c4,c5,c6,c7,c8⟩:=nine xJ;have ajD:=aA xJ;have aAU:=aj xJ 5;go_wp2_with fail;refine(aa0 A.o A.co n.out W2 (Nat.le_trans HZ.o Aaa) (CV _) (GR.At.below HA.o EF)).mono ?_;rintro e y ⟨vo,rfl,hrow,hby⟩;obtain⟨ao,co,rfl,_⟩:=GR.own_at (enc:=aW) (sz:=4) eu hrow;have zu:=Hq hby;have hN1:=ay xJ hby;have f1:=aj hN1 5;have Lv:=aA hN1;obtain⟨d0,d1,d2,d3,d4,d5,d6,d7,d8⟩:=nine hN1;clear c0 c1 c2 c3 c4 c5 c6 c7 c8 hby aAU;go_upto_region 4 with fail;refine wp_at (λW3 hW=>?_);have xK:Hid (W3.heap[w.heap.size]?=some (.cells (gH n.id n.par ak n.kids.length ck n.next ap n.pu.length cp ao n.out.length co A.s n.seen.length A.cs n.old A.r n.reqs.length A.cr) 30 (0,0))):=Acr
 have Ol:Hid (W3.heap[w.heap.size+1]?=some (.cells fU 30 (0,0))):=by rw [hW];exact(Below.heap_setCell _ _ _ _ (show w.heap.size+1≠w.heap.size by omega)).trans (ay Oj zu)
 have Jo:Hid (aY w W3):=by rw [hW];exact uh (Nat.le_refl _) (EF.trans (zu.mono EF.size))
 have Js:Hid (aC [w.heap.size] W2 W3):=by rw [hW];exact keepsN zu
 have ZJ:Hid (aC [w.heap.size] y W3):=Abi
 clear hW hN1 f1 Lv d0 d1 d2 d3 d4 d5 d6 d7 d8 xJ Oj;have HOW:Hid (W3.ownsRow W2.heap.size 95 4 (.slice ao n.out.length co) n.out.length (GR.flat aW n.out)):=dG hrow ZJ (λx hx=>by have:x=w.heap.size:=Aag;omega);clear hrow;have ajE:=aA xK;obtain⟨c0,c1,c2,c3,c4,c5,c6,c7,c8⟩:=nine xK;go_wp2_with fail;go_loopw [21] (λi wr=>∃k:Nat,k<=n.out.length/\i= .int .i64 k/\aY W3 wr) (λi _=>n.out.length - (intOf i).toNat)
 case atStart=>exact OI
 case' round=>
  obtain⟨k,hk,rfl,hbw⟩:=hrel
  clear c0 c1 c2 c3 c4 c5 c6 c7 c8
  by_cases hlt:k < n.out.length
  case' pos=>
   have Pg:(k:Int) < (n.out.length:Int):=Aaa
   have iA:=Hq hbw
   have Rs:=Hq (ay xK hbw)
   obtain⟨g,rest,e0,hBg,hgb⟩:=Ai (GR.own_below HOW hbw) (show 0 < n.out.length by omega)
   have lq:=Hq hgb
   have q2:wr.cell? ⟨g,k*4+2,none⟩=some (.string n.out[k].k):=FY eu hgb k hlt 2 Aaa
   have hkk:n.out[k].k.size<=281474976710656:=Nat.le_trans (HZ.ok _ (List.getElem_mem hlt)) Aaa
   have kR:=Hq (λw1=>clone n.out[k].k w1 hkk)
   obtain⟨c0,c1,c2,c3,c4,c5,c6,c7,c8⟩:=nine Rs
   have hnr:=aA Rs
   have hgr:=aA hgb
   clear hbw hgb hkk
   subst e0
   generalize n.out[k].k=kx at *
   go_upto_region 7 with fail
   have y5:=cell_regrown c5
   have z2:=cell_regrown q2
   clear c0 c1 c2 c3 c4 c5 c6 c7 c8
   refine bV 12 Aab ?_
   show fD _ _ _ _ _ 13 (Array.replicate 13 false) _ _
   refine tk [0,1,2,3,4,5,6,7,8] ?_
   iterate 9 (refine su (λK hK=>?_);go_simp;refine hK _ ?_;clear hK K)
   refine jc ?_
   clear y5 z2
   refine dM 9 rfl Aab Aad (λx hx=>?_)
   go_simp
   refine(kR x).mono ?_
   rintro e y ⟨rfl,hby⟩
   refine⟨hby,?_⟩
   have HY:=Hq (Ge.trans hx hby)
   clear hx hby kR
   refine tk [10,11] ?_
   iterate 2 (refine su (λK hK=>?_);go_simp;refine hK _ ?_;clear hK K)
   refine jc ?_
   refine bf Aab (λx3 hx3=>?_)
   have HX3:=Hq (Ge.trans HY hx3)
   have H7:=ay lq HX3
   have q3:x3.cell? ⟨g,k*4+2,none⟩=some (.string kx):=(HX3.cell (p:=⟨g,k*4+2,none⟩) hgr).trans q2
   have f3:=aj H7 (k*4+2)
   have YX:=Hq (EU H7 q3)
   clear hx3 H7 q2
   refine aF 12 rfl Aab Aad ?_
   go_simp
   refine wpAny_done Aab ?_
   go_simp
   clear q3 f3
   go_wp2_with fail
   go_roundw
   case rel=>exact ah1
   case measure=>simp[intOf];omega
  have hke:k=n.out.length:=Aaa
  subst hke
  have hnlt:decide ((n.out.length:Int) < (n.out.length:Int))=false:=Aac
  have iA:=Hq hbw
  clear hbw
  go_upto_region 9 with fail
  refine wp_at (λW4 hWW=>?_)
  subst hWW
  have zk:=Hq (ay xK iA)
  have UR:=Hq (ay Ol iA)
  have EG:=Hq (Jo.trans (iA.mono Jo.size))
  have Jt:Hid (aC [w.heap.size] W3 W4):=aC.of_below iA
  clear iA hnlt xK Ol hlt
 obtain⟨T,hT,hAt,hT1,hTr⟩:=acN HA.s;have HTR:=Hq hTr;have HT:=Hq hT;have RV:=adX A.s A.cs T W4 (by rw [hT];omega) hT1 (GR.At.below hAt EG);rw [hT] at RV;have HCS:=Hq RV;clear hTr hAt hT1 RV hT;obtain⟨c0,c1,c2,c3,c4,c5,c6,c7,c8⟩:=nine zk;have ajF:=aA zk;have aAV:=aj zk 6;go_wp2_with fail;refine HCS.mono ?_;rintro e y ⟨vs,rfl,hrow,hby⟩;have hrow2:=hrow;rw [<-ah HT] at hrow2;obtain⟨Y7,cs,hvs,_⟩:=GR.own_at (enc:=eP) (sz:=3) (l:=T) eF hrow2;rw [ah HT] at hvs;subst hvs;clear hrow2 HCS;have ZN:=Hq hby;have hN1:=ay zk hby;have f1:=aj hN1 6;have Lv:=aA hN1;obtain⟨d0,d1,d2,d3,d4,d5,d6,d7,d8⟩:=nine hN1;clear c0 c1 c2 c3 c4 c5 c6 c7 c8 hby aAV;go_upto_region 10 with fail;refine wp_at (λW5 hW=>?_);have UO:Hid (W5.heap[w.heap.size]?=some (.cells (gH n.id n.par ak n.kids.length ck n.next ap n.pu.length cp ao n.out.length co Y7 n.seen.length cs n.old A.r n.reqs.length A.cr) 30 (0,0))):=Acr
 have ZC:Hid (W5.heap[w.heap.size+1]?=some (.cells fU 30 (0,0))):=by rw [hW];exact(Below.heap_setCell _ _ _ _ (show w.heap.size+1≠w.heap.size by omega)).trans (ay UR ZN)
 have akx:Hid (aY w W5):=by rw [hW];exact uh (Nat.le_refl _) (EG.trans (ZN.mono EG.size))
 have Ju:Hid (aC [w.heap.size] W4 W5):=by rw [hW];exact keepsN ZN
 have akY:Hid (aC [w.heap.size] y W5):=Abi
 clear hW hN1 f1 Lv d0 d1 d2 d3 d4 d5 d6 d7 d8 zk UR;have HSW:Hid (W5.ownsRow W4.heap.size 90 3 (.slice Y7 n.seen.length cs) n.seen.length (GR.flat eP T)):=dG hrow akY (λx hx=>by have:x=w.heap.size:=Aag;omega);clear hrow;have aBz:=aA UO;have aB1:=aA ZC;have aBj:=Ju.size;have aA3:=EG.size;obtain⟨c0,c1,c2,c3,c4,c5,c6,c7,c8⟩:=nine UO;go_wp2_with fail;go_loopw [44] (λi wr=>∃(k:Nat) (T2:List R3) (I:Nat->Nat),k<=n.seen.length/\i= .int .i64 k/\SC w W5 wr W4.heap.size k n.seen T T2 I Y7 cs) (λi _=>n.seen.length - (intOf i).toNat)
 case atStart=>exact⟨0,T,_,Nat.zero_le _,rfl,SC.start HT HSW⟩
 case' round=>
  obtain⟨k,T2,I,hk,rfl,hsc⟩:=hrel
  clear c0 c1 c2 c3 c4 c5 c6 c7 c8
  have HSC:=Hq hsc
  have gI:=Hq (hsc.below (Nat.le_refl W4.heap.size) aBj)
  have hN4:w.heap.size+1 < W4.heap.size:=by have:=NJ.size;have:=Jr.size;have:=Js.size;have:=Jt.size;omega
  have Rs:Hid (wr.heap[w.heap.size]?=some (.cells (gH n.id n.par ak n.kids.length ck n.next ap n.pu.length cp ao n.out.length co Y7 n.seen.length cs n.old A.r n.reqs.length A.cr) 30 (0,0))):=(gI.block _ Aaa).trans UO
  have R7:Hid (wr.heap[w.heap.size+1]?=some (.cells fU 30 (0,0))):=(gI.block _ Aaa).trans ZC
  have Zf:=Hq (akx.trans (gI.mono aA3))
  clear hsc
  by_cases hlt:k < n.seen.length
  case' pos=>
   have Pg:(k:Int) < (n.seen.length:Int):=Aaa
   obtain⟨b,cc,hTk,hIb⟩:=ah HTR k hlt
   have hk2:k < T2.length:=by rw [(ah HSC).len];exact hlt
   have ho2:=HSC.own
   rw [<-(ah HSC).len] at ho2
   obtain⟨g,rest,e0,hBg,hgb⟩:=Ai ho2 (show 0 < T2.length by omega)
   have ax1:T2[k]=⟨n.seen[k].f,n.seen[k].l,.slice b n.seen[k].ids.length cc⟩:=by
    have:=HSC.up k (Nat.le_refl _);rw [List.getElem?_eq_getElem hk2,hTk] at this;exact Option.some.inj this
   have q2:wr.cell? ⟨g,k*3+2,none⟩=some (.slice b n.seen[k].ids.length cc):=by
    have:=FY eF hgb k hk2 2 Aaa;rw [ax1] at this;exact this
   have hg5:g < W5.heap.size:=(HSW.lt g (by rw [e0];rfl)).2
   have kR:=Hq (λw1 (h1:aY wr w1)=>BM b cc n.seen[k].ids w1 (Nat.le_trans (HZ.sk _ (List.getElem_mem hlt)) Aaa) (GR.At.below hIb (Zf.trans (h1.mono Zf.size))))
   have lq:=Hq hgb
   have gU:=Hq (λx b2 c2 g2 hx hi hl=>SC.next (x:=x) (b:=b2) (cc:=c2) (gi:=g2) HSC hlt e0 ⟨b,cc,hTk⟩ hx hg5 hi hl)
   obtain⟨c0,c1,c2,c3,c4,c5,c6,c7,c8⟩:=nine Rs
   have hnr:=aA Rs
   have hgr:=aA hgb
   clear hTk hIb ho2 hgb ax1
   subst e0
   generalize n.seen[k].ids=ids at *
   go_upto_region 13 with fail
   have y6:=cell_regrown c6
   have z2:=cell_regrown q2
   clear c0 c1 c2 c3 c4 c5 c6 c7 c8
   refine bV 12 Aab ?_
   show fD _ _ _ _ _ 13 (Array.replicate 13 false) _ _
   refine tk [0,1,2,3,4,5,6,7,8] ?_
   iterate 9 (refine su (λK hK=>?_);go_simp;refine hK _ ?_;clear hK K)
   refine jc ?_
   clear y6 z2
   refine dM 9 rfl Aab Aad (λx hx=>?_)
   go_simp
   refine(kR x hx).mono ?_
   rintro e y ⟨v2,rfl,hrow,hby⟩
   refine⟨hby,?_⟩
   obtain⟨b2,c2,g2,rfl,hW2,hg2,_⟩:=GR.W.of_own (enc:=aS) aR hrow
   have HY:=Hq (Ge.trans hx hby)
   have ZK:=Hq (And.intro hW2 (λz (hz:z∈fp g2 ids)=>And.intro (Nat.le_trans hx.size (hg2 z hz).1) (hg2 z hz).2))
   clear hx hby kR hrow hW2 hg2
   refine tk [10,11] ?_
   iterate 2 (refine su (λK hK=>?_);go_simp;refine hK _ ?_;clear hK K)
   refine jc ?_
   refine bf Aab (λx3 hx3=>?_)
   have HX3:=Hq (Ge.trans HY hx3)
   have HRL:=Hq (gU x3 b2 c2 g2 HX3 (ZK.1.below hx3) (λz hz=>⟨(ZK.2 z hz).1,Nat.lt_of_lt_of_le (ZK.2 z hz).2 hx3.size⟩))
   have H7:=ay lq HX3
   have q3:x3.cell? ⟨g,k*3+2,none⟩=some (.slice b ids.length cc):=(HX3.cell (p:=⟨g,k*3+2,none⟩) hgr).trans q2
   have f3:=aj H7 (k*3+2)
   clear hx3 H7 q2 gU
   refine aF 12 rfl Aab Aad ?_
   go_simp
   refine wpAny_done Aab ?_
   go_simp
   clear q3 f3
   go_wp2_with fail
   go_roundw
   case rel=>exact⟨k+1,_,_,Aaa,Aai,HRL⟩
   case measure=>simp[intOf];omega
  have hke:k=n.seen.length:=Aaa
  subst hke
  have hnlt:decide ((n.seen.length:Int) < (n.seen.length:Int))=false:=Aac
  go_upto_region 15 with fail
  refine wp_at (λW6 hWW=>?_)
  subst hWW
  have NY:=Hq Rs
  have ae6:=Hq R7
  have Ze:=Hq Zf
  have aeX:=Hq gI
  obtain⟨gs,hsn⟩:=HSC.done
  obtain⟨I6,hI6⟩:∃J,J=I:=⟨I,rfl⟩
  rw [<-hI6] at hsn
  have UU:=Hq hsn
  clear hsn hI6 HSC Rs R7 Zf gI hnlt UO ZC hlt
 obtain⟨c0,c1,c2,c3,c4,c5,c6,c7,c8⟩:=nine NY;have aBA:=aA NY;have aAW:=aj NY 8;go_wp2_with fail;refine(adY A.r A.cr n.reqs W6 (Nat.le_trans HZ.r Aaa) (iP _) (GR.At.below HA.r Ze)).mono ?_;rintro e y ⟨vr,rfl,hrow,hby⟩;obtain⟨ar,cr,rfl,_⟩:=GR.own_at (enc:=aN) (sz:=4) bX hrow;have ZO:=Hq hby;have hN1:=ay NY hby;have f1:=aj hN1 8;have Lv:=aA hN1;obtain⟨d0,d1,d2,d3,d4,d5,d6,d7,d8⟩:=nine hN1;clear c0 c1 c2 c3 c4 c5 c6 c7 c8 hby aAW;go_upto_region 16 with fail;refine wp_at (λW7 hW=>?_);have N8:Hid (W7.heap[w.heap.size]?=some (.cells (gH n.id n.par ak n.kids.length ck n.next ap n.pu.length cp ao n.out.length co Y7 n.seen.length cs n.old ar n.reqs.length cr) 30 (0,0))):=Acr
 have ae7:Hid (W7.heap[w.heap.size+1]?=some (.cells fU 30 (0,0))):=by rw [hW];exact(Below.heap_setCell _ _ _ _ (show w.heap.size+1≠w.heap.size by omega)).trans (ay ae6 ZO)
 have aeU:Hid (aY w W7):=by rw [hW];exact uh (Nat.le_refl _) (Ze.trans (ZO.mono Ze.size))
 have aeY:Hid (aC [w.heap.size] W6 W7):=by rw [hW];exact keepsN ZO
 have akZ:Hid (aC [w.heap.size] y W7):=Abi
 clear hW hN1 f1 Lv d0 d1 d2 d3 d4 d5 d6 d7 d8 NY ae6;have HQW:Hid (W7.ownsRow W6.heap.size 97 4 (.slice ar n.reqs.length cr) n.reqs.length (GR.flat aN n.reqs)):=dG hrow akZ (λx hx=>by have:x=w.heap.size:=Aag;omega);clear hrow;have aBB:=aA N8;obtain⟨c0,c1,c2,c3,c4,c5,c6,c7,c8⟩:=nine N8;go_wp2_with fail;go_loopw [67] (λi wr=>∃k:Nat,k<=n.reqs.length/\i= .int .i64 k/\aY W7 wr) (λi _=>n.reqs.length - (intOf i).toNat)
 case atStart=>exact OI
 case' round=>
  obtain⟨k,hk,rfl,hbw⟩:=hrel
  clear c0 c1 c2 c3 c4 c5 c6 c7 c8
  by_cases hlt:k < n.reqs.length
  case' pos=>
   have Pg:(k:Int) < (n.reqs.length:Int):=Aaa
   have iA:=Hq hbw
   have Rs:=Hq (ay N8 hbw)
   obtain⟨g,rest,e0,hBg,hgb⟩:=Ai (GR.own_below HQW hbw) (show 0 < n.reqs.length by omega)
   have lq:=Hq hgb
   have q2:wr.cell? ⟨g,k*4+1,none⟩=some (.string n.reqs[k].k):=FY bX hgb k hlt 1 Aaa
   have hkk:n.reqs[k].k.size<=281474976710656:=Nat.le_trans (HZ.rk _ (List.getElem_mem hlt)) Aaa
   have kR:=Hq (λw1=>clone n.reqs[k].k w1 hkk)
   obtain⟨c0,c1,c2,c3,c4,c5,c6,c7,c8⟩:=nine Rs
   have hnr:=aA Rs
   have hgr:=aA hgb
   clear hbw hgb hkk
   subst e0
   generalize n.reqs[k].k=kx at *
   go_upto_region 19 with fail
   have y5:=cell_regrown c8
   have z2:=cell_regrown q2
   clear c0 c1 c2 c3 c4 c5 c6 c7 c8
   refine bV 12 Aab ?_
   show fD _ _ _ _ _ 13 (Array.replicate 13 false) _ _
   refine tk [0,1,2,3,4,5,6,7,8] ?_
   iterate 9 (refine su (λK hK=>?_);go_simp;refine hK _ ?_;clear hK K)
   refine jc ?_
   clear y5 z2
   refine dM 9 rfl Aab Aad (λx hx=>?_)
   go_simp
   refine(kR x).mono ?_
   rintro e y ⟨rfl,hby⟩
   refine⟨hby,?_⟩
   have HY:=Hq (Ge.trans hx hby)
   clear hx hby kR
   refine tk [10,11] ?_
   iterate 2 (refine su (λK hK=>?_);go_simp;refine hK _ ?_;clear hK K)
   refine jc ?_
   refine bf Aab (λx3 hx3=>?_)
   have HX3:=Hq (Ge.trans HY hx3)
   have H7:=ay lq HX3
   have q3:x3.cell? ⟨g,k*4+1,none⟩=some (.string kx):=(HX3.cell (p:=⟨g,k*4+1,none⟩) hgr).trans q2
   have f3:=aj H7 (k*4+1)
   have YX:=Hq (EU H7 q3)
   clear hx3 H7 q2
   refine aF 12 rfl Aab Aad ?_
   go_simp
   refine wpAny_done Aab ?_
   go_simp
   clear q3 f3
   go_wp2_with fail
   go_roundw
   case rel=>exact ah1
   case measure=>simp[intOf];omega
  have hke:k=n.reqs.length:=Aaa
  subst hke
  have hnlt:decide ((n.reqs.length:Int) < (n.reqs.length:Int))=false:=Aac
  have iA:=Hq hbw
  clear hbw
  go_upto_region 21 with fail
  refine wp_at (λW8 hWW=>?_)
  subst hWW
  have ae3:=Hq (ay N8 iA)
  have uZ:=Hq (ay ae7 iA)
  have aky:=Hq (aeU.trans (iA.mono aeU.size))
  have aeZ:Hid (aC [w.heap.size] W7 W8):=aC.of_below iA
  clear iA hnlt N8 ae7 hlt
 obtain⟨c0,c1,c2,c3,c4,c5,c6,c7,c8⟩:=nine ae3;obtain⟨d0,d1,d2,d3,d4,d5,d6,d7,d8⟩:=nine uZ;have f0:=aj uZ 0;have f1:=aj uZ 1;have f2:=aj uZ 2;have f3:=aj uZ 3;have f4:=aj uZ 4;have f5:=aj uZ 5;have f6:=aj uZ 6;have f7:=aj uZ 7;have f8:=aj uZ 8;have aBy:=aA ae3;have aBJ:=aA uZ;go_wp2_with fail;refine aO (λW' hW'=>?_)
 have e4:W'.heap[w.heap.size+1]?=some (.cells (gH n.id n.par ak n.kids.length ck n.next ap n.pu.length cp ao n.out.length co Y7 n.seen.length cs n.old ar n.reqs.length cr) 30 (0,0)):=by
  rw [hW'];exact GR.setW_blk (gH n.id n.par ak n.kids.length ck n.next ap n.pu.length cp ao n.out.length co Y7 n.seen.length cs n.old ar n.reqs.length cr).toList (o:=0) (xs:=fU.toList) uZ
 have hso:∀x,x≠w.heap.size+1->W'.heap[x]?=W8.heap[x]?:=λx hx=>by
  rw [hW']
  exact GR.setW_other hx (gH n.id n.par ak n.kids.length ck n.next ap n.pu.length cp ao n.out.length co Y7 n.seen.length cs n.old ar n.reqs.length cr).toList (o:=0)
 have hsz:W8.heap.size=W'.heap.size:=by rw [hW'];simp[World.setCell]
 have HBE:Hid (aY w W'):=by
  rw [hW'];exact GR.setW_below Aaa (gH n.id n.par ak n.kids.length ck n.next ap n.pu.length cp ao n.out.length co Y7 n.seen.length cs n.old ar n.reqs.length cr).toList (o:=0) aky
 clear hW' c0 c1 c2 c3 c4 c5 c6 c7 c8 d0 d1 d2 d3 d4 d5 d6 d7 d8 f0 f1 f2 f3 f4 f5 f6 f7 f8;obtain⟨c0,c1,c2,c3,c4,c5,c6,c7,c8⟩:=nine e4;have k1:=Jr.size;have k2:=Js.size;have k3:=Jt.size;have k4:=Ju.size;have k5:=aeX.size;have k6:=aeY.size;have k7:=aeZ.size;have k0:=NJ.size;have b8:∀x,w.heap.size+1 < x->x < W7.heap.size->W'.heap[x]?=W7.heap[x]?:=λx h1 h2=>(hso x Aaa).trans (aeZ.block x h2 Aaf)
 have b6:∀x,w.heap.size+1 < x->x < W6.heap.size->W'.heap[x]?=W6.heap[x]?:=λx h1 h2=>(b8 x h1 Aaa).trans (aeY.block x h2 Aaf)
 have b4:∀x,w.heap.size+1 < x->x < W4.heap.size->W'.heap[x]?=W4.heap[x]?:=λx h1 h2=>((b6 x h1 Aaa).trans (aeX.block x h2)).trans (Ju.block x h2 Aaf)
 have b3:∀x,w.heap.size+1 < x->x < W3.heap.size->W'.heap[x]?=W3.heap[x]?:=λx h1 h2=>(b4 x h1 Aaa).trans (Jt.block x h2 Aaf)
 have b2:∀x,w.heap.size+1 < x->x < W2.heap.size->W'.heap[x]?=W2.heap[x]?:=λx h1 h2=>(b3 x h1 Aaa).trans (Js.block x h2 Aaf)
 have b1:∀x,w.heap.size+1 < x->x < W1.heap.size->W'.heap[x]?=W1.heap[x]?:=λx h1 h2=>(b2 x h1 Aaa).trans (Jr.block x h2 Aaf)
 have oS:=HSW.lt;have oO:=HOW.lt;have oQ:=HQW.lt;obtain⟨sw,sg,si,snd⟩:=ah UU
 have kS:Hid (NO W' w.heap.size n ⟨ak,ap,ao,Y7,ar,ck,cp,co,cs,cr⟩ ⟨gk,gp,0,gs,0,I6⟩ (Di W0.heap.size W1.heap.size W2.heap.size W4.heap.size W5.heap.size W6.heap.size)):=by
  refine⟨zx HKW.1 Aaa (λx hx=>b1 x (by have:=HKW.2 x hx;omega) (HKW.2 x hx).2),zx GQ.1 Aaa (λx hx=>b2 x (by have:=GQ.2 x hx;omega) (GQ.2 x hx).2),jO (kH HOW (λx hx=>b3 x (by have:=oO x hx;omega) (oO x hx).2)) Aaa,Oz sw Aaa (λx hx=>b6 x (by have:=(sg x hx).1;omega) (by have:=oS x (sg x hx).2;omega)) (λx hx=>b6 x (by have:=si x hx;omega) (si x hx).2),jO (kH HQW (λx hx=>b8 x (by have:=oQ x hx;omega) (oQ x hx).2)) Aaa,λx hx=>?_,λx hx=>?_,λx hx=>?_,λx hx=>?_,λx hx=>?_,λx hx=>?_,λx hx=>?_,snd⟩
  .unfold Di;rw [if_pos Aaa]
  .have:=HKW.2 x hx;unfold Di;rw [if_neg Aaa,if_pos Aaa]
  .have:=GQ.2 x hx;unfold Di;rw [if_neg Aaa,if_neg Aaa,if_pos Aaa]
  .have:=oO x hx;unfold Di;rw [if_neg Aaa,if_neg Aaa,if_neg Aaa,if_pos Aaa]
  .have:=oS x (sg x hx).2;unfold Di;rw [if_neg Aaa,if_neg Aaa,if_neg Aaa,if_neg Aaa,if_pos Aaa]
  .have:=si x hx;unfold Di;rw [if_neg Aaa,if_neg Aaa,if_neg Aaa,if_neg Aaa,if_neg Aaa,if_pos Aaa]
  .have:=oQ x hx;unfold Di;rw [if_neg Aaa,if_neg Aaa,if_neg Aaa,if_neg Aaa,if_neg Aaa,if_neg Aaa]
 clear e4 hso b8 b6 b4 b3 b2 b1 oS oO oQ sw sg si snd;exact bodyPost_ret (v:= .agg (gH n.id n.par ak n.kids.length ck n.next ap n.pu.length cp ao n.out.length co Y7 n.seen.length cs n.old ar n.reqs.length cr)) (by simp[results,results34,go_sem,c0,c1,c2,c3,c4,c5,c6,c7,c8]) rfl ⟨⟨ak,ap,ao,Y7,ar,ck,cp,co,cs,cr⟩,_,_,rfl,kS,HBE⟩
theorem NO.base {n:Nd} {A:bC} {G:bJ} {c:Nat->Nat} (h:NO w B n A G c) (hB:B'<=B):NO w B' n A G c:=
 ⟨h.k,h.p,jO h.o hB,h.s,jO h.r hB,λx hx=>h.lo x Aaa,h.ck,h.cp,h.co,h.c4,h.ci,h.cr,h.ni⟩
theorem gD (w:World) (a b d:Obj):(((w.alloc a).alloc b).alloc d).heap[w.heap.size]?=some a/\(((w.alloc a).alloc b).alloc d).heap[w.heap.size+1]?=some b/\(((w.alloc a).alloc b).alloc d).heap[w.heap.size+2]?=some d/\Below w.heap.size w (((w.alloc a).alloc b).alloc d):=K7 w a b d
theorem lX (w:World) (base:Nat) (t ty e:TypeId) (i:TypeInfo) (size:Nat) (ht:P.underlying t=some (.slice e)) (hi:P.info? e=some i) (v:Value) (n:Nat) (xs:List Value) (hown:w.ownsRow base e size v n xs) (a:Option Addr) (c:Nat):
 (Builtin.append_ #[t,t] ty #[v,.slice a 0 c]).run P w= .ok v w:=by
 rcases hown.2 with⟨rfl,rfl⟩|⟨g,cap,cur,rfl,_,_,hnc,_⟩
 .cases a<;>simp[Builtin.append_,run_underlying ht,sizeOf,typeInfo,hi,Builtin.lenOf,Builtin.firstCells,loadCells,loadCellsFrom]
 .cases a<;>simp[Builtin.append_,run_underlying ht,sizeOf,typeInfo,hi,Builtin.lenOf,Builtin.firstCells,loadCells,loadCellsFrom,hnc,storeCells]
theorem fK (hs:∀x,(enc x).length=sz) (hz:0 < sz) (w:World) (base:Nat) (t ty e:TypeId) (i:TypeInfo) (z:Value) (bytes:Nat) (ht:P.underlying t=some (.slice e)) (hi:P.info? e=some i) (hz0:i.zero=some z) (hsize:i.size=sz) (hby:i.bytes=bytes) (hzs:z.cells.size=sz) (v:Value) (n:Nat) (xs:List Value) (hown:w.ownsRow base e sz v n xs) (a:Option Addr) (l:List α) (c:Nat) (ha:GR.At enc sz w a l) (h1:∀u∈GR.flat enc l,u.oneCell'=true) (h63:n+l.length<=maxLen) (hbytes:(n+l.length)*bytes<=140737488355328) (hbase:base<=w.heap.size):
 ∃v' w',(Builtin.append_ #[t,t] ty #[v,.slice a l.length c]).run P w= .ok v' w'/\w'.ownsRow base e sz v' (n+l.length) (xs++GR.flat enc l)/\w.grownBy w' v.ownBlock/\∀x,v'.ownBlock=some x->v.ownBlock=some x\/w.heap.size<=x:=by
 by_cases hl:l.length=0
 .have hn:l=[]:=List.eq_nil_of_length_eq_zero hl;subst hn;exact⟨v,w,lX w base t ty e i sz ht hi v n xs hown a c,by simpa [GR.flat] using hown,World.grownBy.refl _ _,λx hx=> .inl hx⟩
 .obtain⟨g,off,rfl,_⟩:=ha 0 Aaa;exact dR w base t ty e i z sz bytes ht hi hz0 hsize hby hzs hz v n xs hown ⟨g,off,none⟩ l.length c (GR.flat enc l) (GR.flat_length enc sz hs l) (VI hs hz ha) h1 h63 hbytes hbase
theorem run_copy_row (hs:∀x,(enc x).length=sz) (hz:0 < sz) (w:World) (t e:TypeId) (i:TypeInfo) (z:Value) (bytes:Nat) (ht:P.underlying t=some (.slice e)) (hi:P.info? e=some i) (hz0:i.zero=some z) (hsize:i.size=sz) (hby:i.bytes=bytes) (hzs:z.cells.size=sz) (a:Option Addr) (l:List α) (c:Nat) (ha:GR.At enc sz w a l) (h1:∀u∈GR.flat enc l,u.oneCell'=true) (h63:l.length<=maxLen) (hbytes:l.length*bytes<=140737488355328):
 ∃a' c' w',(∀ty,(Builtin.append_ #[t,t] ty #[.slice (some ⟨w.heap.size,0,none⟩) 0 0,.slice a l.length c]).run P (w.alloc (.cells #[] e))= .ok (.slice a' l.length c') w')/\w'.ownsRow w.heap.size e sz (.slice a' l.length c') l.length (GR.flat enc l)/\aY w w'/\(∃g,a'=some ⟨g,0,none⟩)/\l.length<=c':=by
 open auQ in exact agy
theorem IJ (hs:∀x,(enc x).length=sz) (hz:0 < sz) (w:World) (t e:TypeId) (i:TypeInfo) (z:Value) (bytes:Nat) (ht:P.underlying t=some (.slice e)) (hi:P.info? e=some i) (hz0:i.zero=some z) (hsize:i.size=sz) (hby:i.bytes=bytes) (hzs:z.cells.size=sz) (a:Option Addr) (l:List α) (c:Nat) (ha:GR.At enc sz w a l) (h1:∀u∈GR.flat enc l,u.oneCell'=true) (h63:l.length<=maxLen) (hbytes:l.length*bytes<=140737488355328):
 ∃a' c' w',(∀ty,(Builtin.append_ #[t,t] ty #[.slice (some ⟨w.heap.size,0,none⟩) 0 0,.slice a l.length c]).run P (w.alloc (.cells #[] e))= .ok (.slice a' l.length c') w')/\w'.ownsRow w.heap.size e sz (.slice a' l.length c') l.length (GR.flat enc l)/\aY w w'/\(l=[]->c'=0):=by
 by_cases hl0:l.length=0
 .have hn:l=[]:=List.eq_nil_of_length_eq_zero hl0;subst hn;open auP in exact agy
 .obtain⟨a',c',w',q1,q2,q3,_⟩:=run_copy_row hs hz w t e i z bytes ht hi hz0 hsize hby hzs a l c ha h1 h63 hbytes;exact⟨a',c',w',q1,q2,q3,λe=>absurd (by rw [e];rfl) hl0⟩
theorem gu {ops:Array Oper} {rest:List Oper} {o:Oper} {a:Act} {Q:Exit->Act->World->Prop} (hgd:o.guard=none) (s x:Operand) (t:TypeId)
 (ho:o.op= .call {callee:= .builtin .append,args:=#[s,x],argTypes:=#[t,t]}) (vs vx:Value) (hs:a.eval s=vs) (hx:a.eval x=vx) (v':Value) (w':World) (hrun:(Builtin.append_ #[t,t] o.type #[vs,vx]).run P w= .ok v' w')
 (h:wpList P ops Q rest (a.put o.dst v') w'):wpList P ops Q (o::rest) a w:=by
 refine wpList_plain hgd λK hK=>?_
 unfold Oper.wp;simp[execOp,ho,resolve,invoke,builtin,hs,hx,hrun,Result.andThen];exact hK _ _ h
end Go.Proofs.YtacgbldlonoaaaaGreatDoor
