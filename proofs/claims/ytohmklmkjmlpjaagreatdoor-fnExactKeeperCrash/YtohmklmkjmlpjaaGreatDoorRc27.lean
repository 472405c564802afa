/- Parts. -/
import Derived.Test.YtohmklmkjmlpjaaGreatDoorRc26
import Derived.Test.YtohmklmkjmlpjaaGreatDoorRc22
import Derived.Test.YtohmklmkjmlpjaaGreatDoorRc25
namespace Go.Proofs.YtohmklmkjmlpjaaGreatDoor
open Go.Proofs.Tryz
set_option maxHeartbeats 8000000
set_option maxRecDepth 100000
open Go.RowKit
open Mth
variable {w X Y W5 wr w':World} {B g i k sz cs nb B':Nat} {v b0 b1 b2 b3 b4 b5 b6 b7 b8:Value} {a:Option Addr} {n:Nd} {l:List Sn} {t:TypeId} {T T2:List R3} {I c:Nat->Nat} {xs:List Value} {A:bV} {G:aR} {m:Mg} {s0:Sn}
theorem keepsN (hb:aI X Y):aC [nb] X (Y.setCell ⟨nb,i,none⟩ v):=(aC.of_below hb).trans (aC.set v)
theorem belowN (hn:w.heap.size<=nb) (hb:aI w Y):Below w.heap.size w (Y.setCell ⟨nb,i,none⟩ v):=hb.setCell (p:=⟨nb,i,none⟩) hn v
theorem pU {cs:Array Value} (h:Y.heap[nb]?=some (.cells cs 40 (0,0))):(Y.setCell ⟨nb,i,none⟩ v).heap[nb]?=some (.cells (cs.setIfInBounds i v) 40 (0,0)):=aT h i v
theorem dU {F:List Nat} {W:World} (h:Y.ownsRow B t sz v k xs) (hk:aC F Y W) (hd:∀x∈F,x < B):W.ownsRow B t sz v k xs:=by
 refine⟨h.1,?_⟩;rcases h.2 with hn|⟨g,cap,cur,rfl,hb,hgg,rest⟩
 .exact .inl hn
 .exact .inr ⟨g,cap,cur,rfl,hb,hk.obj hgg (λhm=>by have:=hd g hm;omega),rest⟩
theorem abX (u:Value):∀(l:List R3) (i:Nat) (hi:i < l.length),(GR.flat fq l).set (i*3+2) u=GR.flat fq (l.set i ⟨l[i].f,l[i].l,u⟩):=by
 intro l;induction l with
 |nil=>intro i hi;simp at hi
 |cons x r ih=>
  intro i hi;cases i with
  |zero=>rfl
  |succ i=>
   have hi2:i < r.length:=Aao
   have h1:=ih i hi2;show(fq x++GR.flat fq r).set ((i+1)*3+2) u=fq x++GR.flat fq (r.set i ⟨r[i].f,r[i].l,u⟩)
   rw [<-h1,aHL _ _ (by show 3<=_;omega)];congr 2
   show(i+1)*3+2 - 3=_
   omega
structure SC (w W5 wr:World) (B k:Nat) (l:List Sn) (T T2:List R3) (I:Nat->Nat) (a:Option Addr) (cs:Nat):Prop where
 len:T2.length=l.length
 own:wr.ownsRow B 110 3 (.slice a l.length cs) l.length (GR.flat fq T2)
 dn:∀i (hi:i < l.length),i < k->∃b c,T2[i]?=some ⟨l[i].f,l[i].l,.slice b l[i].ids.length c⟩/\GR.W aS 1 wr b (I i) l[i].ids/\∀x∈fp (I i) l[i].ids,W5.heap.size<=x/\x < wr.heap.size
 up:∀i,k<=i->T2[i]?=T[i]?
 nd:∀i j (hi:i < l.length) (hj:j < l.length),i < j->j < k->0 < l[i].ids.length->0 < l[j].ids.length->I i≠I j
 gr:W5.grownBy wr (Value.slice a l.length cs).ownBlock
theorem SC.start (hT:T.length=l.length) (ho:W5.ownsRow B 110 3 (.slice a l.length cs) l.length (GR.flat fq T)):SC w W5 W5 B 0 l T T (λ_=>0) a cs:=
 ⟨hT,ho,λi _ h=>Aaa,λ_ _=>rfl,λi j _ _ _ h=>Aaa,World.grownBy.refl _ _⟩
theorem SC.next {x:World} {gi cc:Nat} {b:Option Addr} (h:SC w W5 wr B k l T T2 I a cs) (hk:k < l.length) (ha:a=some ⟨g,0,none⟩) (hT:∃b c,T[k]?=some ⟨l[k].f,l[k].l,.slice b l[k].ids.length c⟩) (hx:aI wr x) (hg5:g < W5.heap.size) (hi:GR.W aS 1 x b gi l[k].ids) (hlt:∀z∈fp gi l[k].ids,wr.heap.size<=z/\z < x.heap.size):SC w W5 (x.setCell ⟨g,k*3+2,none⟩ (.slice b l[k].ids.length cc)) B (k+1) l T (T2.set k ⟨l[k].f,l[k].l,.slice b l[k].ids.length cc⟩) (λi=>if i=k then gi else I i) a cs:=by
 subst ha;have hk2:k < T2.length:=by rw [h.len];exact hk
 have hTk:∃b c,T2[k]=⟨l[k].f,l[k].l,.slice b l[k].ids.length c⟩:=by
  obtain⟨b',c',e⟩:=hT;refine⟨b',c',?_⟩;have:=h.up k (aGh _);rw [aGo hk2,e] at this;exact aHd this
 have hgs:x.heap.size=(x.setCell ⟨g,k*3+2,none⟩ (.slice b l[k].ids.length cc)).heap.size:=Aaq
 have hkp:aC [g] x (x.setCell ⟨g,k*3+2,none⟩ (.slice b l[k].ids.length cc)):=aC.set _;have hws:=h.gr.size;have hxs:=hx.size;refine⟨by rw [aHU];exact h.len,?_,λi hi' hik=>?_,λi hik=>?_,λi j hi' hj hij hjk h1 h2=>?_,?_⟩
 .have ho:=GR.own_below h.own hx;have hst:=(ho.stored (k*3+2) (.slice b l[k].ids.length cc)).1;rw [abX _ T2 k hk2] at hst;obtain⟨b',c',e⟩:=hTk;rw [e] at hst;exact hst
 .by_cases e:i=k
  .subst e;refine⟨b,cc,by rw [aH2 hk2],?_,?_⟩
   .rw [aGC rfl];exact hi.keeps hkp (λz hz hm=>by have:=(hlt z hz).1;have:z=g:=Abb;omega)
   .rw [aGC rfl];exact λz hz=>⟨by have:=(hlt z hz).1;omega,by rw [<-hgs];exact(hlt z hz).2⟩
  .obtain⟨b',c',e1,e2,e3⟩:=h.dn i hi' Aaa;refine⟨b',c',by rw [aHG Aaa];exact e1,?_,?_⟩
   .rw [aGr e];exact(e2.below hx).keeps hkp (λz hz hm=>by have:=(e3 z hz).1;have:z=g:=Abb;omega)
   .rw [aGr e];exact λz hz=>⟨(e3 z hz).1,by rw [<-hgs];have:=(e3 z hz).2;omega⟩
 .rw [aHG Aaa];exact h.up i Aaa
 .by_cases ej:j=k
  .subst ej;rw [aGr Aaa,aGC rfl];obtain⟨_,_,_,_,e3⟩:=h.dn i hi' Aaa;have q1:=(e3 (I i) (dX h1)).2;have q2:=(hlt gi (dX h2)).1;omega
  .exact ajP
 .refine h.gr.andThen (row':=some g) ⟨hx.os,hx.tape,hx.output,by rw [<-hgs];exact hx.size,λz hz hne=>?_⟩ (λj hj=> .inr (by cases hj;rfl));rw [aGx _ _ _ _ (λe=>hne Aap)];exact hx.block z hz
theorem SC.done (h:SC w W5 wr B l.length l T T2 I a cs):∃g,eF wr a g I l/\(∀x∈fp g l,B<=x/\(Value.slice a l.length cs).ownBlock=some x)/\(∀x∈nA I l,W5.heap.size<=x/\x < wr.heap.size)/\(nA I l).Nodup:=by
 open avh in exact ahq
theorem SC.below (h:SC w W5 wr B k l T T2 I a cs) {C:Nat} (hC:C<=B) (hs:C<=W5.heap.size):Below C W5 wr:=
 ⟨h.gr.os,h.gr.tape,h.gr.output,h.gr.size,λx hx=>h.gr.block x Aaa (λe=>by have:=(h.own.lt x e.symm).1;omega)⟩
theorem zM {α:Type} {enc:α->List Value} {l:List α} (h:GR.W enc sz w a g l) (hs:w.heap.size<=w'.heap.size) (hb:∀x∈fp g l,w'.heap[x]?=w.heap[x]?):GR.W enc sz w' a g l:=λi hi=>by
 obtain⟨e,hg,hc⟩:=h i hi;have hbl:=hb g (dX Aaa);exact⟨e,Aaa,λj hj=>⟨(aG0 (w:=w) hbl).trans (hc j hj).1,(aH5 (w:=w) hbl).trans (hc j hj).2⟩⟩
theorem jK (h:w.ownsRow B t sz v k xs) (hb:∀x,v.ownBlock=some x->w'.heap[x]?=w.heap[x]?):w'.ownsRow B t sz v k xs:=by
 refine⟨h.1,?_⟩;rcases h.2 with hn|⟨g,cap,cur,rfl,hB,hgg,rest⟩
 .exact .inl hn
 .exact .inr ⟨g,cap,cur,rfl,hB,(hb g rfl).trans hgg,rest⟩
theorem lK (h:w.ownsRow B t sz v k xs) (hB:B'<=B):w.ownsRow B' t sz v k xs:=by
 refine⟨h.1,?_⟩;rcases h.2 with hn|⟨g,cap,cur,rfl,hBg,rest⟩
 .exact .inl hn
 .exact .inr ⟨g,cap,cur,rfl,Aaa,rest⟩
theorem OX (h:eF w a g I l) (hs:w.heap.size<=w'.heap.size) (hb:∀x∈fp g l,w'.heap[x]?=w.heap[x]?) (hI:∀x∈nA I l,w'.heap[x]?=w.heap[x]?):eF w' a g I l:=by
 obtain⟨T,hT,hl,hr⟩:=h;refine⟨T,zM hT hs (λx hx=>hb x (by have:=dQ hx;rw [this.1];exact dX (by omega))),hl,λi hi=>?_⟩;obtain⟨b,c,ht,hi2⟩:=hr i hi;exact⟨b,c,ht,zM hi2 hs (λx hx=>hI x (jI hi x hx))⟩
def Dq (s0 s1 s2 s4 s5 s6 x:Nat):Nat:=if x < s0 then 0 else if x < s1 then 1 else if x < s2 then 2 else if x < s4 then 3 else if x < s5 then 4 else if x < s6 then 5 else 6
theorem uP (n:Nd) (A:bV) (w:World) (hz:eG n 1048576) (ha:dD w A n):
 Calls prog 66 #[gP n A] w λe w'=>∃A' G' c',e= .returned (gP n A')/\NO w' w.heap.size n A' G' c'/\aI w w':=by
 have HZ:=Hq hz;have HA:=Hq ha;have hlo:=hz.o;have hls:=hz.s;have hlr:=hz.r;clear hz ha;go_in
 go_upto_region 1 with fail;refine wp_at (λW0 hW=>?_);obtain⟨e1,e2,e3⟩:=gQ w (.cells (dG n A) 40) (.cells iP 40);rw [<-hW] at e1 e2 e3;have xX:=Hq e1;have OM:=Hq e2;have ED:=Hq e3;have hsz0:=aA e2;clear hW e1 e2 e3;obtain⟨c0,c1,c2,c3,c4,c5,c6,c7,c8⟩:=nine xX;have alE:=aA xX;have aDA:=aj xX 2;go_wp2_with fail;refine(BQ A.k A.ck n.kids W0 (aGm HZ.k Aaa) (GR.At.below HA.k ED)).mono ?_;rintro e y ⟨vk,rfl,hrow,hby⟩;obtain⟨ak,ck,gk,rfl,hWk,hgk,_⟩:=GR.W.of_own (enc:=aS) aO hrow;clear hrow;have zH:=Hq hby;have hN1:=au xX hby;have f1:=aj hN1 2;have Mw:=aA hN1;obtain⟨d0,d1,d2,d3,d4,d5,d6,d7,d8⟩:=nine hN1;clear c0 c1 c2 c3 c4 c5 c6 c7 c8 hby aDA;go_upto_region 2 with fail;refine wp_at (λW1 hW=>?_);have xY:Hid (W1.heap[w.heap.size]?=some (.cells (iT n.id n.par ak n.kids.length ck n.next A.p n.pu.length A.cp A.o n.out.length A.co A.s n.seen.length A.cs n.old A.r n.reqs.length A.cr) 40 (0,0))):=Acl
 have OO:Hid (W1.heap[w.heap.size+1]?=some (.cells iP 40 (0,0))):=by rw [hW];exact(aGx _ _ _ _ (show w.heap.size+1≠w.heap.size by omega)).trans (au OM zH)
 have EF:Hid (aI w W1):=by rw [hW];exact belowN (aGh _) (ED.trans (zH.mono ED.size))
 have OD:Hid (aC [w.heap.size] W0 W1):=by rw [hW];exact keepsN zH
 have VY:Hid (aC [w.heap.size] y W1):=Abf
 clear hW hN1 f1 Mw d0 d1 d2 d3 d4 d5 d6 d7 d8 xX OM;have HKW:Hid (GR.W aS 1 W1 ak gk n.kids/\∀x∈fp gk n.kids,W0.heap.size<=x/\x < W1.heap.size):=⟨hWk.keeps VY (λx hx=>by have:=(hgk x hx).1;simp;omega),λx hx=>⟨(hgk x hx).1,aGq (hgk x hx).2 VY.size⟩⟩;clear hWk hgk;obtain⟨c0,c1,c2,c3,c4,c5,c6,c7,c8⟩:=nine xY;have alF:=aA xY;have aDB:=aj xY 4;go_wp2_with fail;refine(P9 A.p A.cp n.pu W1 HZ.p HZ.pk (GR.At.below HA.p EF)).mono ?_;rintro e y ⟨ap,cp,gp,hgp,rfl,hWp,hby⟩;have zI:=Hq hby;have hN1:=au xY hby;have f1:=aj hN1 4;have Mw:=aA hN1;obtain⟨d0,d1,d2,d3,d4,d5,d6,d7,d8⟩:=nine hN1;clear c0 c1 c2 c3 c4 c5 c6 c7 c8 hby aDB;go_upto_region 3 with fail;refine wp_at (λW2 hW=>?_);have xZ:Hid (W2.heap[w.heap.size]?=some (.cells (iT n.id n.par ak n.kids.length ck n.next ap n.pu.length cp A.o n.out.length A.co A.s n.seen.length A.cs n.old A.r n.reqs.length A.cr) 40 (0,0))):=Acl
 have OP:Hid (W2.heap[w.heap.size+1]?=some (.cells iP 40 (0,0))):=by rw [hW];exact(aGx _ _ _ _ (show w.heap.size+1≠w.heap.size by omega)).trans (au OO zI)
 have EG:Hid (aI w W2):=by rw [hW];exact belowN (aGh _) (EF.trans (zI.mono EF.size))
 have JF:Hid (aC [w.heap.size] W1 W2):=by rw [hW];exact keepsN zI
 have VZ:Hid (aC [w.heap.size] y W2):=Abf
 clear hW hN1 f1 Mw d0 d1 d2 d3 d4 d5 d6 d7 d8 xY OO
 have H6:Hid (GR.W fD 4 W2 ap gp n.pu/\∀x∈fp gp n.pu,W1.heap.size<=x/\x < W2.heap.size):=by
  have hgy:=uL (show GR.W fD 4 y ap gp n.pu from hWp);have hs0:=OD.size;refine⟨GR.W.keeps (show GR.W fD 4 y ap gp n.pu from hWp) VZ (λx hx=>by have:=(dQ hx).1;simp;omega),λx hx=>⟨by have:=(dQ hx).1;omega,aGq (hgy x hx) VZ.size⟩⟩
 clear hWp hgp;obtain⟨c0,c1,c2,c3,c4,c5,c6,c7,c8⟩:=nine xZ;have alG:=aA xZ;have aDC:=aj xZ 5;go_wp2_with fail;refine(abK A.o A.co n.out W2 (aGm HZ.o Aaa) (CY _) (GR.At.below HA.o EG)).mono ?_;rintro e y ⟨vo,rfl,hrow,hby⟩;obtain⟨ao,co,rfl,_⟩:=GR.own_at (enc:=aM) (sz:=4) aZ hrow;have zJ:=Hq hby;have hN1:=au xZ hby;have f1:=aj hN1 5;have Mw:=aA hN1;obtain⟨d0,d1,d2,d3,d4,d5,d6,d7,d8⟩:=nine hN1;clear c0 c1 c2 c3 c4 c5 c6 c7 c8 hby aDC;go_upto_region 4 with fail;refine wp_at (λW3 hW=>?_);have yc:Hid (W3.heap[w.heap.size]?=some (.cells (iT n.id n.par ak n.kids.length ck n.next ap n.pu.length cp ao n.out.length co A.s n.seen.length A.cs n.old A.r n.reqs.length A.cr) 40 (0,0))):=Acl
 have OQ:Hid (W3.heap[w.heap.size+1]?=some (.cells iP 40 (0,0))):=by rw [hW];exact(aGx _ _ _ _ (show w.heap.size+1≠w.heap.size by omega)).trans (au OP zJ)
 have JD:Hid (aI w W3):=by rw [hW];exact belowN (aGh _) (EG.trans (zJ.mono EG.size))
 have JG:Hid (aC [w.heap.size] W2 W3):=by rw [hW];exact keepsN zJ
 have aay:Hid (aC [w.heap.size] y W3):=Abf
 clear hW hN1 f1 Mw d0 d1 d2 d3 d4 d5 d6 d7 d8 xZ OP;have HOW:Hid (W3.ownsRow W2.heap.size 91 4 (.slice ao n.out.length co) n.out.length (GR.flat aM n.out)):=dU hrow aay (λx hx=>by have:x=w.heap.size:=Aah;omega);clear hrow;have alH:=aA yc;obtain⟨c0,c1,c2,c3,c4,c5,c6,c7,c8⟩:=nine yc;go_wp2_with fail;go_loopw [21] (λi wr=>∃k:Nat,k<=n.out.length/\i= .int .i64 k/\aI W3 wr) (λi _=>n.out.length - (intOf i).toNat)
 case atStart=>exact BM
 case' round=>
  obtain⟨k,hk,rfl,hbw⟩:=hrel
  clear c0 c1 c2 c3 c4 c5 c6 c7 c8
  by_cases hlt:k < n.out.length
  case' pos=>
   have PW:(k:Int) < (n.out.length:Int):=Aaa
   have jl:=Hq hbw
   have Sm:=Hq (au yc hbw)
   obtain⟨g,rest,e0,hBg,hgb⟩:=xE (GR.own_below HOW hbw) (show 0 < n.out.length by omega)
   have lu:=Hq hgb
   have q2:wr.cell? ⟨g,k*4+2,none⟩=some (.string n.out[k].k):=wO aZ hgb k hlt 2 Aaa
   have hkk:n.out[k].k.size<=281474976710656:=aGm (HZ.ok _ (aGz hlt)) Aaa
   have jR:=Hq (λw1=>clone n.out[k].k w1 hkk)
   obtain⟨c0,c1,c2,c3,c4,c5,c6,c7,c8⟩:=nine Sm
   have hnr:=aA Sm
   have hgr:=aA hgb
   clear hbw hgb hkk
   subst e0
   generalize n.out[k].k=kx at *
   go_upto_region 7 with fail
   have y5:=aGj c5
   have z2:=aGj q2
   clear c0 c1 c2 c3 c4 c5 c6 c7 c8
   refine dx 12 Aab ?_
   show fA _ _ _ _ _ 13 (Array.replicate 13 false) _ _
   refine tk [0,1,2,3,4,5,6,7,8] ?_
   iterate 9 (refine vX (λK hK=>?_);go_simp;refine hK _ ?_;clear hK K)
   refine kD ?_
   clear y5 z2
   refine dP 9 rfl Aab Aad (λx hx=>?_)
   go_simp
   refine(jR x).mono ?_
   rintro e y ⟨rfl,hby⟩
   refine⟨hby,?_⟩
   have HY:=Hq (Ge.trans hx hby)
   clear hx hby jR
   refine tk [10,11] ?_
   iterate 2 (refine vX (λK hK=>?_);go_simp;refine hK _ ?_;clear hK K)
   refine kD ?_
   refine bE Aab (λx3 hx3=>?_)
   have LH:=Hq (Ge.trans HY hx3)
   have IC:=au lu LH
   have q3:x3.cell? ⟨g,k*4+2,none⟩=some (.string kx):=(LH.cell (p:=⟨g,k*4+2,none⟩) hgr).trans q2
   have f3:=aj IC (k*4+2)
   have HSM:=Hq (nH IC q3)
   clear hx3 IC q2
   refine aG 12 rfl Aab Aad ?_
   go_simp
   refine wpAny_done Aab ?_
   go_simp
   clear q3 f3
   go_wp2_with fail
   go_roundw
   case rel=>exact ajQ
   case measure=>simp[intOf];omega
  have hke:k=n.out.length:=Aaa
  subst hke
  have hnlt:decide ((n.out.length:Int) < (n.out.length:Int))=false:=Aac
  have jl:=Hq hbw
  clear hbw
  go_upto_region 9 with fail
  refine wp_at (λW4 hWW=>?_)
  subst hWW
  have zF:=Hq (au yc jl)
  have VU:=Hq (au OQ jl)
  have EH:=Hq (JD.trans (jl.mono JD.size))
  have JH:Hid (aC [w.heap.size] W3 W4):=aC.of_below jl
  clear jl hnlt yc OQ hlt
 obtain⟨T,hT,hAt,hT1,hTr⟩:=adN HA.s;have HTR:=Hq hTr;have HT:=Hq hT;have HC5:=afb A.s A.cs T W4 (by rw [hT];omega) hT1 (GR.At.below hAt EH);rw [hT] at HC5;have HCS:=Hq HC5;clear hTr hAt hT1 HC5 hT;obtain⟨c0,c1,c2,c3,c4,c5,c6,c7,c8⟩:=nine zF;have alI:=aA zF;have aDD:=aj zF 6;go_wp2_with fail;refine HCS.mono ?_;rintro e y ⟨vs,rfl,hrow,hby⟩;have hrow2:=hrow;rw [<-ah HT] at hrow2;obtain⟨as2,cs,hvs,_⟩:=GR.own_at (enc:=fq) (sz:=3) (l:=T) bY hrow2;rw [ah HT] at hvs;subst hvs;clear hrow2 HCS;have aaB:=Hq hby;have hN1:=au zF hby;have f1:=aj hN1 6;have Mw:=aA hN1;obtain⟨d0,d1,d2,d3,d4,d5,d6,d7,d8⟩:=nine hN1;clear c0 c1 c2 c3 c4 c5 c6 c7 c8 hby aDD;go_upto_region 10 with fail;refine wp_at (λW5 hW=>?_);have VR:Hid (W5.heap[w.heap.size]?=some (.cells (iT n.id n.par ak n.kids.length ck n.next ap n.pu.length cp ao n.out.length co as2 n.seen.length cs n.old A.r n.reqs.length A.cr) 40 (0,0))):=Acl
 have aat:Hid (W5.heap[w.heap.size+1]?=some (.cells iP 40 (0,0))):=by rw [hW];exact(aGx _ _ _ _ (show w.heap.size+1≠w.heap.size by omega)).trans (au VU aaB)
 have amK:Hid (aI w W5):=by rw [hW];exact belowN (aGh _) (EH.trans (aaB.mono EH.size))
 have JI:Hid (aC [w.heap.size] W4 W5):=by rw [hW];exact keepsN aaB
 have ano:Hid (aC [w.heap.size] y W5):=Abf
 clear hW hN1 f1 Mw d0 d1 d2 d3 d4 d5 d6 d7 d8 zF VU;have HSW:Hid (W5.ownsRow W4.heap.size 110 3 (.slice as2 n.seen.length cs) n.seen.length (GR.flat fq T)):=dU hrow ano (λx hx=>by have:x=w.heap.size:=Aah;omega);clear hrow;have aEe:=aA VR;have aE2:=aA aat;have aDY:=JI.size;have aDK:=EH.size;obtain⟨c0,c1,c2,c3,c4,c5,c6,c7,c8⟩:=nine VR;go_wp2_with fail;go_loopw [44] (λi wr=>∃(k:Nat) (T2:List R3) (I:Nat->Nat),k<=n.seen.length/\i= .int .i64 k/\SC w W5 wr W4.heap.size k n.seen T T2 I as2 cs) (λi _=>n.seen.length - (intOf i).toNat)
 case atStart=>exact⟨0,T,_,aGB _,rfl,SC.start HT HSW⟩
 case' round=>
  obtain⟨k,T2,I,hk,rfl,hsc⟩:=hrel
  clear c0 c1 c2 c3 c4 c5 c6 c7 c8
  have HSC:=Hq hsc
  have dS:=Hq (hsc.below (aGh W4.heap.size) aDY)
  have hN4:w.heap.size+1 < W4.heap.size:=by have:=OD.size;have:=JF.size;have:=JG.size;have:=JH.size;omega
  have Sm:Hid (wr.heap[w.heap.size]?=some (.cells (iT n.id n.par ak n.kids.length ck n.next ap n.pu.length cp ao n.out.length co as2 n.seen.length cs n.old A.r n.reqs.length A.cr) 40 (0,0))):=(dS.block _ Aaa).trans VR
  have Tf:Hid (wr.heap[w.heap.size+1]?=some (.cells iP 40 (0,0))):=(dS.block _ Aaa).trans aat
  have HBr:=Hq (amK.trans (dS.mono aDK))
  clear hsc
  by_cases hlt:k < n.seen.length
  case' pos=>
   have PW:(k:Int) < (n.seen.length:Int):=Aaa
   obtain⟨b,cc,hTk,hIb⟩:=ah HTR k hlt
   have hk2:k < T2.length:=by rw [(ah HSC).len];exact hlt
   have ho2:=HSC.own
   rw [<-(ah HSC).len] at ho2
   obtain⟨g,rest,e0,hBg,hgb⟩:=xE ho2 (show 0 < T2.length by omega)
   have aAs:T2[k]=⟨n.seen[k].f,n.seen[k].l,.slice b n.seen[k].ids.length cc⟩:=by
    have:=HSC.up k (aGh _);rw [aGo hk2,hTk] at this;exact aHd this
   have q2:wr.cell? ⟨g,k*3+2,none⟩=some (.slice b n.seen[k].ids.length cc):=by
    have:=wO bY hgb k hk2 2 Aaa;rw [aAs] at this;exact this
   have hg5:g < W5.heap.size:=(HSW.lt g (by rw [e0];rfl)).2
   have jR:=Hq (λw1 (h1:aI wr w1)=>BQ b cc n.seen[k].ids w1 (aGm (HZ.sk _ (aGz hlt)) Aaa) (GR.At.below hIb (HBr.trans (h1.mono HBr.size))))
   have lu:=Hq hgb
   have iQ:=Hq (λx b2 c2 g2 hx hi hl=>SC.next (x:=x) (b:=b2) (cc:=c2) (gi:=g2) HSC hlt e0 ⟨b,cc,hTk⟩ hx hg5 hi hl)
   obtain⟨c0,c1,c2,c3,c4,c5,c6,c7,c8⟩:=nine Sm
   have hnr:=aA Sm
   have hgr:=aA hgb
   clear hTk hIb ho2 hgb aAs
   subst e0
   generalize n.seen[k].ids=ids at *
   go_upto_region 13 with fail
   have y6:=aGj c6
   have z2:=aGj q2
   clear c0 c1 c2 c3 c4 c5 c6 c7 c8
   refine dx 12 Aab ?_
   show fA _ _ _ _ _ 13 (Array.replicate 13 false) _ _
   refine tk [0,1,2,3,4,5,6,7,8] ?_
   iterate 9 (refine vX (λK hK=>?_);go_simp;refine hK _ ?_;clear hK K)
   refine kD ?_
   clear y6 z2
   refine dP 9 rfl Aab Aad (λx hx=>?_)
   go_simp
   refine(jR x hx).mono ?_
   rintro e y ⟨v2,rfl,hrow,hby⟩
   refine⟨hby,?_⟩
   obtain⟨b2,c2,g2,rfl,hW2,hg2,_⟩:=GR.W.of_own (enc:=aS) aO hrow
   have HY:=Hq (Ge.trans hx hby)
   have HWI:=Hq (And.intro hW2 (λz (hz:z∈fp g2 ids)=>And.intro (aGm hx.size (hg2 z hz).1) (hg2 z hz).2))
   clear hx hby jR hrow hW2 hg2
   refine tk [10,11] ?_
   iterate 2 (refine vX (λK hK=>?_);go_simp;refine hK _ ?_;clear hK K)
   refine kD ?_
   refine bE Aab (λx3 hx3=>?_)
   have LH:=Hq (Ge.trans HY hx3)
   have HRL:=Hq (iQ x3 b2 c2 g2 LH (HWI.1.below hx3) (λz hz=>⟨(HWI.2 z hz).1,aGq (HWI.2 z hz).2 hx3.size⟩))
   have IC:=au lu LH
   have q3:x3.cell? ⟨g,k*3+2,none⟩=some (.slice b ids.length cc):=(LH.cell (p:=⟨g,k*3+2,none⟩) hgr).trans q2
   have f3:=aj IC (k*3+2)
   clear hx3 IC q2 iQ
   refine aG 12 rfl Aab Aad ?_
   go_simp
   refine wpAny_done Aab ?_
   go_simp
   clear q3 f3
   go_wp2_with fail
   go_roundw
   case rel=>exact⟨k+1,_,_,Aaa,Aaf,HRL⟩
   case measure=>simp[intOf];omega
  have hke:k=n.seen.length:=Aaa
  subst hke
  have hnlt:decide ((n.seen.length:Int) < (n.seen.length:Int))=false:=Aac
  go_upto_region 15 with fail
  refine wp_at (λW6 hWW=>?_)
  subst hWW
  have OH:=Hq Sm
  have agA:=Hq Tf
  have aaf:=Hq HBr
  have agr:=Hq dS
  obtain⟨gs,hsn⟩:=HSC.done
  obtain⟨I6,hI6⟩:∃J,J=I:=⟨I,rfl⟩
  rw [<-hI6] at hsn
  have HSN:=Hq hsn
  clear hsn hI6 HSC Sm Tf HBr dS hnlt VR aat hlt
 obtain⟨c0,c1,c2,c3,c4,c5,c6,c7,c8⟩:=nine OH;have aEf:=aA OH;have aDE:=aj OH 8;go_wp2_with fail;refine(afc A.r A.cr n.reqs W6 (aGm HZ.r Aaa) (jq _) (GR.At.below HA.r aaf)).mono ?_;rintro e y ⟨vr,rfl,hrow,hby⟩;obtain⟨ar,cr,rfl,_⟩:=GR.own_at (enc:=aJ) (sz:=4) aN hrow;have aaC:=Hq hby;have hN1:=au OH hby;have f1:=aj hN1 8;have Mw:=aA hN1;obtain⟨d0,d1,d2,d3,d4,d5,d6,d7,d8⟩:=nine hN1;clear c0 c1 c2 c3 c4 c5 c6 c7 c8 hby aDE;go_upto_region 16 with fail;refine wp_at (λW7 hW=>?_);have OI:Hid (W7.heap[w.heap.size]?=some (.cells (iT n.id n.par ak n.kids.length ck n.next ap n.pu.length cp ao n.out.length co as2 n.seen.length cs n.old ar n.reqs.length cr) 40 (0,0))):=Acl
 have agB:Hid (W7.heap[w.heap.size+1]?=some (.cells iP 40 (0,0))):=by rw [hW];exact(aGx _ _ _ _ (show w.heap.size+1≠w.heap.size by omega)).trans (au agA aaC)
 have agm:Hid (aI w W7):=by rw [hW];exact belowN (aGh _) (aaf.trans (aaC.mono aaf.size))
 have ags:Hid (aC [w.heap.size] W6 W7):=by rw [hW];exact keepsN aaC
 have anp:Hid (aC [w.heap.size] y W7):=Abf
 clear hW hN1 f1 Mw d0 d1 d2 d3 d4 d5 d6 d7 d8 OH agA;have HQW:Hid (W7.ownsRow W6.heap.size 95 4 (.slice ar n.reqs.length cr) n.reqs.length (GR.flat aJ n.reqs)):=dU hrow anp (λx hx=>by have:x=w.heap.size:=Aah;omega);clear hrow;have aEg:=aA OI;obtain⟨c0,c1,c2,c3,c4,c5,c6,c7,c8⟩:=nine OI;go_wp2_with fail;go_loopw [67] (λi wr=>∃k:Nat,k<=n.reqs.length/\i= .int .i64 k/\aI W7 wr) (λi _=>n.reqs.length - (intOf i).toNat)
 case atStart=>exact BM
 case' round=>
  obtain⟨k,hk,rfl,hbw⟩:=hrel
  clear c0 c1 c2 c3 c4 c5 c6 c7 c8
  by_cases hlt:k < n.reqs.length
  case' pos=>
   have PW:(k:Int) < (n.reqs.length:Int):=Aaa
   have jl:=Hq hbw
   have Sm:=Hq (au OI hbw)
   obtain⟨g,rest,e0,hBg,hgb⟩:=xE (GR.own_below HQW hbw) (show 0 < n.reqs.length by omega)
   have lu:=Hq hgb
   have q2:wr.cell? ⟨g,k*4+1,none⟩=some (.string n.reqs[k].k):=wO aN hgb k hlt 1 Aaa
   have hkk:n.reqs[k].k.size<=281474976710656:=aGm (HZ.rk _ (aGz hlt)) Aaa
   have jR:=Hq (λw1=>clone n.reqs[k].k w1 hkk)
   obtain⟨c0,c1,c2,c3,c4,c5,c6,c7,c8⟩:=nine Sm
   have hnr:=aA Sm
   have hgr:=aA hgb
   clear hbw hgb hkk
   subst e0
   generalize n.reqs[k].k=kx at *
   go_upto_region 19 with fail
   have y5:=aGj c8
   have z2:=aGj q2
   clear c0 c1 c2 c3 c4 c5 c6 c7 c8
   refine dx 12 Aab ?_
   show fA _ _ _ _ _ 13 (Array.replicate 13 false) _ _
   refine tk [0,1,2,3,4,5,6,7,8] ?_
   iterate 9 (refine vX (λK hK=>?_);go_simp;refine hK _ ?_;clear hK K)
   refine kD ?_
   clear y5 z2
   refine dP 9 rfl Aab Aad (λx hx=>?_)
   go_simp
   refine(jR x).mono ?_
   rintro e y ⟨rfl,hby⟩
   refine⟨hby,?_⟩
   have HY:=Hq (Ge.trans hx hby)
   clear hx hby jR
   refine tk [10,11] ?_
   iterate 2 (refine vX (λK hK=>?_);go_simp;refine hK _ ?_;clear hK K)
   refine kD ?_
   refine bE Aab (λx3 hx3=>?_)
   have LH:=Hq (Ge.trans HY hx3)
   have IC:=au lu LH
   have q3:x3.cell? ⟨g,k*4+1,none⟩=some (.string kx):=(LH.cell (p:=⟨g,k*4+1,none⟩) hgr).trans q2
   have f3:=aj IC (k*4+1)
   have HSM:=Hq (nH IC q3)
   clear hx3 IC q2
   refine aG 12 rfl Aab Aad ?_
   go_simp
   refine wpAny_done Aab ?_
   go_simp
   clear q3 f3
   go_wp2_with fail
   go_roundw
   case rel=>exact ajQ
   case measure=>simp[intOf];omega
  have hke:k=n.reqs.length:=Aaa
  subst hke
  have hnlt:decide ((n.reqs.length:Int) < (n.reqs.length:Int))=false:=Aac
  have jl:=Hq hbw
  clear hbw
  go_upto_region 21 with fail
  refine wp_at (λW8 hWW=>?_)
  subst hWW
  have agx:=Hq (au OI jl)
  have vK:=Hq (au agB jl)
  have amL:=Hq (agm.trans (jl.mono agm.size))
  have agt:Hid (aC [w.heap.size] W7 W8):=aC.of_below jl
  clear jl hnlt OI agB hlt
 obtain⟨c0,c1,c2,c3,c4,c5,c6,c7,c8⟩:=nine agx;obtain⟨d0,d1,d2,d3,d4,d5,d6,d7,d8⟩:=nine vK;have f0:=aj vK 0;have f1:=aj vK 1;have f2:=aj vK 2;have f3:=aj vK 3;have f4:=aj vK 4;have f5:=aj vK 5;have f6:=aj vK 6;have f7:=aj vK 7;have f8:=aj vK 8;have aEd:=aA agx;have aEn:=aA vK;go_wp2_with fail;refine aP (λW' hW'=>?_)
 have e4:W'.heap[w.heap.size+1]?=some (.cells (iT n.id n.par ak n.kids.length ck n.next ap n.pu.length cp ao n.out.length co as2 n.seen.length cs n.old ar n.reqs.length cr) 40 (0,0)):=by
  rw [hW'];exact GR.setW_blk (iT n.id n.par ak n.kids.length ck n.next ap n.pu.length cp ao n.out.length co as2 n.seen.length cs n.old ar n.reqs.length cr).toList (o:=0) (xs:=iP.toList) vK
 have hso:∀x,x≠w.heap.size+1->W'.heap[x]?=W8.heap[x]?:=λx hx=>by
  rw [hW']
  exact GR.setW_other hx (iT n.id n.par ak n.kids.length ck n.next ap n.pu.length cp ao n.out.length co as2 n.seen.length cs n.old ar n.reqs.length cr).toList (o:=0)
 have hsz:W8.heap.size=W'.heap.size:=by rw [hW'];simp[World.setCell]
 have HBE:Hid (aI w W'):=by
  rw [hW'];exact GR.setW_below Aaa (iT n.id n.par ak n.kids.length ck n.next ap n.pu.length cp ao n.out.length co as2 n.seen.length cs n.old ar n.reqs.length cr).toList (o:=0) amL
 clear hW' c0 c1 c2 c3 c4 c5 c6 c7 c8 d0 d1 d2 d3 d4 d5 d6 d7 d8 f0 f1 f2 f3 f4 f5 f6 f7 f8;obtain⟨c0,c1,c2,c3,c4,c5,c6,c7,c8⟩:=nine e4;have k1:=JF.size;have k2:=JG.size;have k3:=JH.size;have k4:=JI.size;have k5:=agr.size;have k6:=ags.size;have k7:=agt.size;have k0:=OD.size;have b8:∀x,w.heap.size+1 < x->x < W7.heap.size->W'.heap[x]?=W7.heap[x]?:=λx h1 h2=>(hso x Aaa).trans (agt.block x h2 Aag)
 have b6:∀x,w.heap.size+1 < x->x < W6.heap.size->W'.heap[x]?=W6.heap[x]?:=λx h1 h2=>(b8 x h1 Aaa).trans (ags.block x h2 Aag)
 have b4:∀x,w.heap.size+1 < x->x < W4.heap.size->W'.heap[x]?=W4.heap[x]?:=λx h1 h2=>((b6 x h1 Aaa).trans (agr.block x h2)).trans (JI.block x h2 Aag)
 have b3:∀x,w.heap.size+1 < x->x < W3.heap.size->W'.heap[x]?=W3.heap[x]?:=λx h1 h2=>(b4 x h1 Aaa).trans (JH.block x h2 Aag)
 have b2:∀x,w.heap.size+1 < x->x < W2.heap.size->W'.heap[x]?=W2.heap[x]?:=λx h1 h2=>(b3 x h1 Aaa).trans (JG.block x h2 Aag)
 have b1:∀x,w.heap.size+1 < x->x < W1.heap.size->W'.heap[x]?=W1.heap[x]?:=λx h1 h2=>(b2 x h1 Aaa).trans (JF.block x h2 Aag)
 have oS:=HSW.lt;have oO:=HOW.lt;have oQ:=HQW.lt;obtain⟨sw,sg,si,snd⟩:=ah HSN
 have mZ:Hid (NO W' w.heap.size n ⟨ak,ap,ao,as2,ar,ck,cp,co,cs,cr⟩ ⟨gk,gp,0,gs,0,I6⟩ (Dq W0.heap.size W1.heap.size W2.heap.size W4.heap.size W5.heap.size W6.heap.size)):=by
  refine⟨zM HKW.1 Aaa (λx hx=>b1 x (by have:=HKW.2 x hx;omega) (HKW.2 x hx).2),zM H6.1 Aaa (λx hx=>b2 x (by have:=H6.2 x hx;omega) (H6.2 x hx).2),lK (jK HOW (λx hx=>b3 x (by have:=oO x hx;omega) (oO x hx).2)) Aaa,OX sw Aaa (λx hx=>b6 x (by have:=(sg x hx).1;omega) (by have:=oS x (sg x hx).2;omega)) (λx hx=>b6 x (by have:=si x hx;omega) (si x hx).2),lK (jK HQW (λx hx=>b8 x (by have:=oQ x hx;omega) (oQ x hx).2)) Aaa,λx hx=>?_,λx hx=>?_,λx hx=>?_,λx hx=>?_,λx hx=>?_,λx hx=>?_,λx hx=>?_,snd⟩
  .unfold Dq;rw [aGC Aaa]
  .have:=HKW.2 x hx;unfold Dq;rw [aGr Aaa,aGC Aaa]
  .have:=H6.2 x hx;unfold Dq;rw [aGr Aaa,aGr Aaa,aGC Aaa]
  .have:=oO x hx;unfold Dq;rw [aGr Aaa,aGr Aaa,aGr Aaa,aGC Aaa]
  .have:=oS x (sg x hx).2;unfold Dq;rw [aGr Aaa,aGr Aaa,aGr Aaa,aGr Aaa,aGC Aaa]
  .have:=si x hx;unfold Dq;rw [aGr Aaa,aGr Aaa,aGr Aaa,aGr Aaa,aGr Aaa,aGC Aaa]
  .have:=oQ x hx;unfold Dq;rw [aGr Aaa,aGr Aaa,aGr Aaa,aGr Aaa,aGr Aaa,aGr Aaa]
 clear e4 hso b8 b6 b4 b3 b2 b1 oS oO oQ sw sg si snd;exact aGn (v:= .agg (iT n.id n.par ak n.kids.length ck n.next ap n.pu.length cp ao n.out.length co as2 n.seen.length cs n.old ar n.reqs.length cr)) (by simp[results,results66,go_sem,c0,c1,c2,c3,c4,c5,c6,c7,c8]) rfl ⟨⟨ak,ap,ao,as2,ar,ck,cp,co,cs,cr⟩,_,_,rfl,mZ,HBE⟩
theorem NO.base (h:NO w B n A G c) (hB:B'<=B):NO w B' n A G c:=
 ⟨h.k,h.p,lK h.o hB,h.s,lK h.r hB,λx hx=>h.lo x Aaa,h.ck,h.cp,h.co,h.c4,h.ci,h.cr,h.ni⟩
theorem gF (w:World) (a b d:Obj):(((w.alloc a).alloc b).alloc d).heap[w.heap.size]?=some a/\(((w.alloc a).alloc b).alloc d).heap[w.heap.size+1]?=some b/\(((w.alloc a).alloc b).alloc d).heap[w.heap.size+2]?=some d/\Below w.heap.size w (((w.alloc a).alloc b).alloc d):=zO w a b d
theorem PI (z:Int):∀(l:List Rq) (i:Nat) (hi:i < l.length),(GR.flat aJ l).set (i*4+3) (.int .i64 z)=GR.flat aJ (l.set i ⟨l[i].no,l[i].k,l[i].n,z⟩):=by
 intro l;induction l with
 |nil=>intro i hi;simp at hi
 |cons x r ih=>
  intro i hi;cases i with
  |zero=>rfl
  |succ i=>
   have hi2:i < r.length:=Aao
   have h1:=ih i hi2;show(aJ x++GR.flat aJ r).set ((i+1)*4+3) (.int .i64 z)=aJ x++GR.flat aJ (r.set i ⟨r[i].no,r[i].k,r[i].n,z⟩)
   rw [<-h1,aHL _ _ (by show 4<=_;omega)];congr 2
   show(i+1)*4+3 - 4=_
   omega
theorem yN (s:jM):∀u∈aM s,u.oneCell'=true:=by
 intro u hu;simp only[aM,aGF,aHx,or_false] at hu;rcases hu with rfl|rfl|rfl|rfl<;>rfl
theorem J5 (k:ByteArray) (m f s:Int) (w:World):(Instr.field 108 (.agg (jh k m f s)) 2).run prog w= .ok (.int .i64 f) w:=Aab
theorem MV:(prog.info? 91).map (λi=>(i.zero,i.size,i.bytes))=some (some (.agg (gV 0 0 ByteArray.empty 0)),4,40):=Aab
theorem JX {l:List Pu} {key:ByteArray} {dm df ds n:Int} (h:(dK l key dm df ds n).2=false):(dK l key dm df ds n).1=l:=by
 exact ajT
theorem GZ (hi:i < n.seen.length) (e:iJ n.seen m.F=i) (hs:n.seen[i]=s0) (h:sV s0 m.L m.I=false) (hg:mG n s0 m=true):takeN n m=(dM (setPu n (dK n.pu m.k 0 1 0 m.N).1) (n.seen.set i ⟨m.F,fK s0 m.L,lX (aY s0 m.L) m.I⟩),true):=by
 subst e hs;unfold takeN;rw [Ew hi,aGr (by rw [h];simp),aGC hg]
theorem Ld (hi:i < n.seen.length) (e:iJ n.seen m.F=i) (hs:n.seen[i]=s0) (h:sV s0 m.L m.I=true):takeN n m=(dM n (n.seen.set i ⟨m.F,fK s0 m.L,aY s0 m.L⟩),true):=by
 subst e hs;unfold takeN;rw [Ew hi,aGC h]
theorem RY (hi:i < n.seen.length) (e:iJ n.seen m.F=i) (hs:n.seen[i]=s0) (h:sV s0 m.L m.I=false) (hg:mG n s0 m=false):takeN n m=(dM n (n.seen.set i ⟨m.F,fK s0 m.L,aY s0 m.L⟩),false):=by
 subst e hs;unfold takeN;rw [Ew hi,aGr (by rw [h];simp),aGr (by rw [hg];simp)]
theorem uF (h:Below B w X) (hg:B<=g):
 Below B w (((((((((X.setCell ⟨g,0,none⟩ b0).setCell ⟨g,1,none⟩ b1).setCell ⟨g,2,none⟩ b2).setCell ⟨g,3,none⟩ b3).setCell ⟨g,4,none⟩ b4).setCell ⟨g,5,none⟩ b5).setCell ⟨g,6,none⟩ b6).setCell ⟨g,7,none⟩ b7).setCell ⟨g,8,none⟩ b8):=
 ((((((((h.setCell (p:=⟨g,0,none⟩) hg b0).setCell (p:=⟨g,1,none⟩) hg b1).setCell (p:=⟨g,2,none⟩) hg b2).setCell (p:=⟨g,3,none⟩) hg b3).setCell (p:=⟨g,4,none⟩) hg b4).setCell (p:=⟨g,5,none⟩) hg b5).setCell (p:=⟨g,6,none⟩) hg b6).setCell (p:=⟨g,7,none⟩) hg b7).setCell (p:=⟨g,8,none⟩) hg b8
theorem wC {a0 a1 a2 a3 a4 a5 a6 a7 a8:Value} (h:X.heap[g]?=some (.cells #[a0,a1,a2,a3,a4,a5,a6,a7,a8] t (0,0))):
 (((((((((X.setCell ⟨g,0,none⟩ b0).setCell ⟨g,1,none⟩ b1).setCell ⟨g,2,none⟩ b2).setCell ⟨g,3,none⟩ b3).setCell ⟨g,4,none⟩ b4).setCell ⟨g,5,none⟩ b5).setCell ⟨g,6,none⟩ b6).setCell ⟨g,7,none⟩ b7).setCell ⟨g,8,none⟩ b8).heap[g]?=some (.cells #[b0,b1,b2,b3,b4,b5,b6,b7,b8] t (0,0)):=by
 exact(aT (aT (aT (aT (aT (aT (aT (aT (aT h 0 b0) 1 b1) 2 b2) 3 b3) 4 b4) 5 b5) 6 b6) 7 b7) 8 b8).trans (by kernel_rfl)
theorem qG:
 aC [g] X (((((((((X.setCell ⟨g,0,none⟩ b0).setCell ⟨g,1,none⟩ b1).setCell ⟨g,2,none⟩ b2).setCell ⟨g,3,none⟩ b3).setCell ⟨g,4,none⟩ b4).setCell ⟨g,5,none⟩ b5).setCell ⟨g,6,none⟩ b6).setCell ⟨g,7,none⟩ b7).setCell ⟨g,8,none⟩ b8):=
 (((((((((aC.set b0).trans (aC.set b1)).trans (aC.set b2)).trans (aC.set b3)).trans (aC.set b4)).trans (aC.set b5)).trans (aC.set b6)).trans (aC.set b7)).trans (aC.set b8))
theorem NO.keepsN (h:NO w B n A G c) (hg:g < B) (hk:aC [g] w X):NO X B n A G c:=by
 have hc:KC c 0 w X:=KC.keeps hk (λx hx=>by rw [aGA.1 hx];exact h.lo g hg);exact aiB
theorem NO.belowN (h:NO w B n A G c) (hb:aI w X):NO X B n A G c:=by
 have hc:KC c 0 w X:=KC.of_below hb;exact aiB
end Go.Proofs.YtohmklmkjmlpjaaGreatDoor
