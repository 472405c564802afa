/- Parts. -/
import Derived.Test.YtohmklmkjmlpjaaGreatDoorRk22
import Derived.Test.YtohmklmkjmlpjaaGreatDoorRk27
import Derived.Test.YtohmklmkjmlpjaaGreatDoorRk11
import Derived.Test.YtohmklmkjmlpjaaGreatDoorRk21
namespace Go.Proofs.YtohmklmkjmlpjaaGreatDoor
open Go.Proofs.Tryz
set_option maxHeartbeats 8000000
set_option maxRecDepth 100000
open Go.RowKit
open Mth
variable {w X Y W5 wr w':World} {B sz g i k cs nb B':Nat} {v b0 b1 b2 b3 b4 b5 b6 b7 b8:Value} {a:Option Addr} {l:List Sn} {n:Nd} {P:Program} {t:TypeId} {T T2:List R3} {I c:Nat->Nat} {α:Type} {enc:α->List Value} {xs:List Value} {m:Mg} {s0:Sn} {A:bQ} {G:aX}
theorem keepsN (hb:aI X Y):aC [nb] X (Y.setCell ⟨nb,i,none⟩ v):=(aC.of_below hb).trans (aC.set v)
theorem tq (hn:w.heap.size<=nb) (hb:aI w Y):Below w.heap.size w (Y.setCell ⟨nb,i,none⟩ v):=hb.setCell (p:=⟨nb,i,none⟩) hn v
theorem ow {cs:Array Value} (h:Y.heap[nb]?=some (.cells cs 40 (0,0))):(Y.setCell ⟨nb,i,none⟩ v).heap[nb]?=some (.cells (cs.setIfInBounds i v) 40 (0,0)):=aN h i v
theorem dQ {F:List Nat} {W:World} (h:Y.ownsRow B t sz v k xs) (hk:aC F Y W) (hd:∀x∈F,x < B):W.ownsRow B t sz v k xs:=by
 refine⟨h.1,?_⟩;rcases h.2 with hn|⟨g,cap,cur,rfl,hb,hgg,rest⟩
 .exact .inl hn
 .exact .inr ⟨g,cap,cur,rfl,hb,hk.obj hgg (λhm=>by have:=hd g hm;omega),rest⟩
theorem aa3 (u:Value):∀(l:List R3) (i:Nat) (hi:i < l.length),(GR.flat fK l).set (i*3+2) u=GR.flat fK (l.set i ⟨l[i].f,l[i].l,u⟩):=by
 intro l;induction l with
 |nil=>intro i hi;simp at hi
 |cons x r ih=>
  intro i hi;cases i with
  |zero=>rfl
  |succ i=>
   have hi2:i < r.length:=Aap
   have h1:=ih i hi2;show(fK x++GR.flat fK r).set ((i+1)*3+2) u=fK x++GR.flat fK (r.set i ⟨r[i].f,r[i].l,u⟩)
   rw [<-h1,List.set_append_right _ _ (by show 3<=_;omega)];congr 2
   show(i+1)*3+2 - 3=_
   omega
structure SC (w W5 wr:World) (B k:Nat) (l:List Sn) (T T2:List R3) (I:Nat->Nat) (a:Option Addr) (cs:Nat):Prop where
 len:T2.length=l.length
 own:wr.ownsRow B 110 3 (.slice a l.length cs) l.length (GR.flat fK T2)
 dn:∀i (hi:i < l.length),i < k->∃b c,T2[i]?=some ⟨l[i].f,l[i].l,.slice b l[i].ids.length c⟩/\GR.W aU 1 wr b (I i) l[i].ids/\∀x∈fp (I i) l[i].ids,W5.heap.size<=x/\x < wr.heap.size
 up:∀i,k<=i->T2[i]?=T[i]?
 nd:∀i j (hi:i < l.length) (hj:j < l.length),i < j->j < k->0 < l[i].ids.length->0 < l[j].ids.length->I i≠I j
 gr:W5.grownBy wr (Value.slice a l.length cs).ownBlock
theorem SC.start (hT:T.length=l.length) (ho:W5.ownsRow B 110 3 (.slice a l.length cs) l.length (GR.flat fK T)):SC w W5 W5 B 0 l T T (λ_=>0) a cs:=
 ⟨hT,ho,λi _ h=>Aaa,λ_ _=>rfl,λi j _ _ _ h=>Aaa,World.grownBy.refl _ _⟩
theorem SC.next {x:World} {gi cc:Nat} {b:Option Addr} (h:SC w W5 wr B k l T T2 I a cs) (hk:k < l.length) (ha:a=some ⟨g,0,none⟩) (hT:∃b c,T[k]?=some ⟨l[k].f,l[k].l,.slice b l[k].ids.length c⟩) (hx:aI wr x) (hg5:g < W5.heap.size) (hi:GR.W aU 1 x b gi l[k].ids) (hlt:∀z∈fp gi l[k].ids,wr.heap.size<=z/\z < x.heap.size):SC w W5 (x.setCell ⟨g,k*3+2,none⟩ (.slice b l[k].ids.length cc)) B (k+1) l T (T2.set k ⟨l[k].f,l[k].l,.slice b l[k].ids.length cc⟩) (λi=>if i=k then gi else I i) a cs:=by
 subst ha;have hk2:k < T2.length:=by rw [h.len];exact hk
 have hTk:∃b c,T2[k]=⟨l[k].f,l[k].l,.slice b l[k].ids.length c⟩:=by
  obtain⟨b',c',e⟩:=hT;refine⟨b',c',?_⟩;have:=h.up k (Nat.le_refl _);rw [List.getElem?_eq_getElem hk2,e] at this;exact Option.some.inj this
 have hgs:x.heap.size=(x.setCell ⟨g,k*3+2,none⟩ (.slice b l[k].ids.length cc)).heap.size:=Aaq
 have hkp:aC [g] x (x.setCell ⟨g,k*3+2,none⟩ (.slice b l[k].ids.length cc)):=aC.set _;have hws:=h.gr.size;have hxs:=hx.size;refine⟨by rw [List.length_set];exact h.len,?_,λi hi' hik=>?_,λi hik=>?_,λi j hi' hj hij hjk h1 h2=>?_,?_⟩
 .have ho:=GR.own_below h.own hx;have hst:=(ho.stored (k*3+2) (.slice b l[k].ids.length cc)).1;rw [aa3 _ T2 k hk2] at hst;obtain⟨b',c',e⟩:=hTk;rw [e] at hst;exact hst
 .by_cases e:i=k
  .subst e;refine⟨b,cc,by rw [List.getElem?_set_self hk2],?_,?_⟩
   .rw [if_pos rfl];exact hi.keeps hkp (λz hz hm=>by have:=(hlt z hz).1;have:z=g:=Aba;omega)
   .rw [if_pos rfl];exact λz hz=>⟨by have:=(hlt z hz).1;omega,by rw [<-hgs];exact(hlt z hz).2⟩
  .obtain⟨b',c',e1,e2,e3⟩:=h.dn i hi' Aaa;refine⟨b',c',by rw [List.getElem?_set_ne Aaa];exact e1,?_,?_⟩
   .rw [if_neg e];exact(e2.below hx).keeps hkp (λz hz hm=>by have:=(e3 z hz).1;have:z=g:=Aba;omega)
   .rw [if_neg e];exact λz hz=>⟨(e3 z hz).1,by rw [<-hgs];have:=(e3 z hz).2;omega⟩
 .rw [List.getElem?_set_ne Aaa];exact h.up i Aaa
 .by_cases ej:j=k
  .subst ej;rw [if_neg Aaa,if_pos rfl];obtain⟨_,_,_,_,e3⟩:=h.dn i hi' Aaa;have q1:=(e3 (I i) (eu h1)).2;have q2:=(hlt gi (eu h2)).1;omega
  .exact aiH
 .refine h.gr.andThen (row':=some g) ⟨hx.os,hx.tape,hx.output,by rw [<-hgs];exact hx.size,λz hz hne=>?_⟩ (λj hj=> .inr (by cases hj;rfl));rw [Below.heap_setCell _ _ _ _ (λe=>hne Aao)];exact hx.block z hz
theorem SC.done (h:SC w W5 wr B l.length l T T2 I a cs):∃g,iL wr a g I l/\(∀x∈fp g l,B<=x/\(Value.slice a l.length cs).ownBlock=some x)/\(∀x∈wO I l,W5.heap.size<=x/\x < wr.heap.size)/\(wO I l).Nodup:=by
 open ath in exact agi
theorem SC.below (h:SC w W5 wr B k l T T2 I a cs) {C:Nat} (hC:C<=B) (hs:C<=W5.heap.size):Below C W5 wr:=
 ⟨h.gr.os,h.gr.tape,h.gr.output,h.gr.size,λx hx=>h.gr.block x Aaa (λe=>by have:=(h.own.lt x e.symm).1;omega)⟩
theorem yV {l:List α} (h:GR.W enc sz w a g l) (hs:w.heap.size<=w'.heap.size) (hb:∀x∈fp g l,w'.heap[x]?=w.heap[x]?):GR.W enc sz w' a g l:=λi hi=>by
 obtain⟨e,hg,hc⟩:=h i hi;have hbl:=hb g (eu Aaa);exact⟨e,Aaa,λj hj=>⟨(World.cell?_of_block (w:=w) hbl).trans (hc j hj).1,(World.frozen?_of_block (w:=w) hbl).trans (hc j hj).2⟩⟩
theorem jm (h:w.ownsRow B t sz v k xs) (hb:∀x,v.ownBlock=some x->w'.heap[x]?=w.heap[x]?):w'.ownsRow B t sz v k xs:=by
 refine⟨h.1,?_⟩;rcases h.2 with hn|⟨g,cap,cur,rfl,hB,hgg,rest⟩
 .exact .inl hn
 .exact .inr ⟨g,cap,cur,rfl,hB,(hb g rfl).trans hgg,rest⟩
theorem kK (h:w.ownsRow B t sz v k xs) (hB:B'<=B):w.ownsRow B' t sz v k xs:=by
 refine⟨h.1,?_⟩;rcases h.2 with hn|⟨g,cap,cur,rfl,hBg,rest⟩
 .exact .inl hn
 .exact .inr ⟨g,cap,cur,rfl,Aaa,rest⟩
theorem NV (h:iL w a g I l) (hs:w.heap.size<=w'.heap.size) (hb:∀x∈fp g l,w'.heap[x]?=w.heap[x]?) (hI:∀x∈wO I l,w'.heap[x]?=w.heap[x]?):iL w' a g I l:=by
 obtain⟨T,hT,hl,hr⟩:=h;refine⟨T,yV hT hs (λx hx=>hb x (by have:=dY hx;rw [this.1];exact eu (by omega))),hl,λi hi=>?_⟩;obtain⟨b,c,ht,hi2⟩:=hr i hi;exact⟨b,c,ht,yV hi2 hs (λx hx=>hI x (lM hi x hx))⟩
def Cv (s0 s1 s2 s4 s5 s6 x:Nat):Nat:=if x < s0 then 0 else if x < s1 then 1 else if x < s2 then 2 else if x < s4 then 3 else if x < s5 then 4 else if x < s6 then 5 else 6
theorem tO (n:Nd) (A:bQ) (w:World) (hz:eU n 1048576) (ha:dw w A n):
 Calls prog 66 #[gB n A] w λe w'=>∃A' G' c',e= .returned (gB n A')/\NO w' w.heap.size n A' G' c'/\aI w w':=by
 have HZ:=Hq hz;have HA:=Hq ha;have hlo:=hz.o;have hls:=hz.s;have hlr:=hz.r;clear hz ha;go_in
 go_upto_region 1 with fail;refine wp_at (λW0 hW=>?_);obtain⟨e1,e2,e3⟩:=ig w (.cells (dG n A) 40) (.cells iF 40);rw [<-hW] at e1 e2 e3;have wU:=Hq e1;have NA:=Hq e2;have DK:=Hq e3;have hsz0:=aA e2;clear hW e1 e2 e3;obtain⟨c0,c1,c2,c3,c4,c5,c6,c7,c8⟩:=nine wU;have aks:=aA wU;have aBv:=aj wU 2;go_wp2_with fail;refine(AU A.k A.ck n.kids W0 (Nat.le_trans HZ.k Aaa) (GR.At.below HA.k DK)).mono ?_;rintro e y ⟨vk,rfl,hrow,hby⟩;obtain⟨ak,ck,gk,rfl,hWk,hgk,_⟩:=GR.W.of_own (enc:=aU) aQ hrow;clear hrow;have yQ:=Hq hby;have hN1:=au wU hby;have f1:=aj hN1 2;have KW:=aA hN1;obtain⟨d0,d1,d2,d3,d4,d5,d6,d7,d8⟩:=nine hN1;clear c0 c1 c2 c3 c4 c5 c6 c7 c8 hby aBv;go_upto_region 2 with fail;refine wp_at (λW1 hW=>?_);have wV:Hid (W1.heap[w.heap.size]?=some (.cells (iD n.id n.par ak n.kids.length ck n.next A.p n.pu.length A.cp A.o n.out.length A.co A.s n.seen.length A.cs n.old A.r n.reqs.length A.cr) 40 (0,0))):=Ack
 have NC:Hid (W1.heap[w.heap.size+1]?=some (.cells iF 40 (0,0))):=by rw [hW];exact(Below.heap_setCell _ _ _ _ (show w.heap.size+1≠w.heap.size by omega)).trans (au NA yQ)
 have DR:Hid (aI w W1):=by rw [hW];exact tq (Nat.le_refl _) (DK.trans (yQ.mono DK.size))
 have Nr:Hid (aC [w.heap.size] W0 W1):=by rw [hW];exact keepsN yQ
 have UL:Hid (aC [w.heap.size] y W1):=Abe
 clear hW hN1 f1 KW d0 d1 d2 d3 d4 d5 d6 d7 d8 wU NA;have HKW:Hid (GR.W aU 1 W1 ak gk n.kids/\∀x∈fp gk n.kids,W0.heap.size<=x/\x < W1.heap.size):=⟨hWk.keeps UL (λx hx=>by have:=(hgk x hx).1;simp;omega),λx hx=>⟨(hgk x hx).1,Nat.lt_of_lt_of_le (hgk x hx).2 UL.size⟩⟩;clear hWk hgk;obtain⟨c0,c1,c2,c3,c4,c5,c6,c7,c8⟩:=nine wV;have akt:=aA wV;have aBw:=aj wV 4;go_wp2_with fail;refine(O7 A.p A.cp n.pu W1 HZ.p HZ.pk (GR.At.below HA.p DR)).mono ?_;rintro e y ⟨ap,cp,gp,hgp,rfl,hWp,hby⟩;have yR:=Hq hby;have hN1:=au wV hby;have f1:=aj hN1 4;have KW:=aA hN1;obtain⟨d0,d1,d2,d3,d4,d5,d6,d7,d8⟩:=nine hN1;clear c0 c1 c2 c3 c4 c5 c6 c7 c8 hby aBw;go_upto_region 3 with fail;refine wp_at (λW2 hW=>?_);have wW:Hid (W2.heap[w.heap.size]?=some (.cells (iD n.id n.par ak n.kids.length ck n.next ap n.pu.length cp A.o n.out.length A.co A.s n.seen.length A.cs n.old A.r n.reqs.length A.cr) 40 (0,0))):=Ack
 have ND:Hid (W2.heap[w.heap.size+1]?=some (.cells iF 40 (0,0))):=by rw [hW];exact(Below.heap_setCell _ _ _ _ (show w.heap.size+1≠w.heap.size by omega)).trans (au NC yR)
 have DU:Hid (aI w W2):=by rw [hW];exact tq (Nat.le_refl _) (DR.trans (yR.mono DR.size))
 have IX:Hid (aC [w.heap.size] W1 W2):=by rw [hW];exact keepsN yR
 have UN:Hid (aC [w.heap.size] y W2):=Abe
 clear hW hN1 f1 KW d0 d1 d2 d3 d4 d5 d6 d7 d8 wV NC
 have Gg:Hid (GR.W gu 4 W2 ap gp n.pu/\∀x∈fp gp n.pu,W1.heap.size<=x/\x < W2.heap.size):=by
  have hgy:=tK (show GR.W gu 4 y ap gp n.pu from hWp);have hs0:=Nr.size;refine⟨GR.W.keeps (show GR.W gu 4 y ap gp n.pu from hWp) UN (λx hx=>by have:=(dY hx).1;simp;omega),λx hx=>⟨by have:=(dY hx).1;omega,Nat.lt_of_lt_of_le (hgy x hx) UN.size⟩⟩
 clear hWp hgp;obtain⟨c0,c1,c2,c3,c4,c5,c6,c7,c8⟩:=nine wW;have aku:=aA wW;have aBx:=aj wW 5;go_wp2_with fail;refine(aaR A.o A.co n.out W2 (Nat.le_trans HZ.o Aaa) (Cb _) (GR.At.below HA.o DU)).mono ?_;rintro e y ⟨vo,rfl,hrow,hby⟩;obtain⟨ao,co,rfl,_⟩:=GR.own_at (enc:=aS) (sz:=4) bH hrow;have yS:=Hq hby;have hN1:=au wW hby;have f1:=aj hN1 5;have KW:=aA hN1;obtain⟨d0,d1,d2,d3,d4,d5,d6,d7,d8⟩:=nine hN1;clear c0 c1 c2 c3 c4 c5 c6 c7 c8 hby aBx;go_upto_region 4 with fail;refine wp_at (λW3 hW=>?_);have wX:Hid (W3.heap[w.heap.size]?=some (.cells (iD n.id n.par ak n.kids.length ck n.next ap n.pu.length cp ao n.out.length co A.s n.seen.length A.cs n.old A.r n.reqs.length A.cr) 40 (0,0))):=Ack
 have NH:Hid (W3.heap[w.heap.size+1]?=some (.cells iF 40 (0,0))):=by rw [hW];exact(Below.heap_setCell _ _ _ _ (show w.heap.size+1≠w.heap.size by omega)).trans (au ND yS)
 have IV:Hid (aI w W3):=by rw [hW];exact tq (Nat.le_refl _) (DU.trans (yS.mono DU.size))
 have IY:Hid (aC [w.heap.size] W2 W3):=by rw [hW];exact keepsN yS
 have Zu:Hid (aC [w.heap.size] y W3):=Abe
 clear hW hN1 f1 KW d0 d1 d2 d3 d4 d5 d6 d7 d8 wW ND;have HOW:Hid (W3.ownsRow W2.heap.size 91 4 (.slice ao n.out.length co) n.out.length (GR.flat aS n.out)):=dQ hrow Zu (λx hx=>by have:x=w.heap.size:=Aaf;omega);clear hrow;have akv:=aA wX;obtain⟨c0,c1,c2,c3,c4,c5,c6,c7,c8⟩:=nine wX;go_wp2_with fail;go_loopw [21] (λi wr=>∃k:Nat,k<=n.out.length/\i= .int .i64 k/\aI W3 wr) (λi _=>n.out.length - (intOf i).toNat)
 case atStart=>exact AQ
 case' round=>
  obtain⟨k,hk,rfl,hbw⟩:=hrel
  clear c0 c1 c2 c3 c4 c5 c6 c7 c8
  by_cases hlt:k < n.out.length
  case' pos=>
   have OU:(k:Int) < (n.out.length:Int):=Aaa
   have iR:=Hq hbw
   have Rb:=Hq (au wX hbw)
   obtain⟨g,rest,e0,hBg,hgb⟩:=wC (GR.own_below HOW hbw) (show 0 < n.out.length by omega)
   have ku:=Hq hgb
   have q2:wr.cell? ⟨g,k*4+2,none⟩=some (.string n.out[k].k):=vI bH hgb k hlt 2 Aaa
   have hkk:n.out[k].k.size<=281474976710656:=Nat.le_trans (HZ.ok _ (List.getElem_mem hlt)) Aaa
   have jy:=Hq (λw1=>clone n.out[k].k w1 hkk)
   obtain⟨c0,c1,c2,c3,c4,c5,c6,c7,c8⟩:=nine Rb
   have hnr:=aA Rb
   have hgr:=aA hgb
   clear hbw hgb hkk
   subst e0
   generalize n.out[k].k=kx at *
   go_upto_region 7 with fail
   have y5:=cell_regrown c5
   have z2:=cell_regrown q2
   clear c0 c1 c2 c3 c4 c5 c6 c7 c8
   refine dB 12 Aab ?_
   show eY _ _ _ _ _ 13 (Array.replicate 13 false) _ _
   refine tk [0,1,2,3,4,5,6,7,8] ?_
   iterate 9 (refine uR (λK hK=>?_);go_simp;refine hK _ ?_;clear hK K)
   refine jJ ?_
   clear y5 z2
   refine dU 9 rfl Aab Aad (λx hx=>?_)
   go_simp
   refine(jy x).mono ?_
   rintro e y ⟨rfl,hby⟩
   refine⟨hby,?_⟩
   have HY:=Hq (Ge.trans hx hby)
   clear hx hby jy
   refine tk [10,11] ?_
   iterate 2 (refine uR (λK hK=>?_);go_simp;refine hK _ ?_;clear hK K)
   refine jJ ?_
   refine bC Aab (λx3 hx3=>?_)
   have Rh:=Hq (Ge.trans HY hx3)
   have GJ:=au ku Rh
   have q3:x3.cell? ⟨g,k*4+2,none⟩=some (.string kx):=(Rh.cell (p:=⟨g,k*4+2,none⟩) hgr).trans q2
   have f3:=aj GJ (k*4+2)
   have yP:=Hq (mD GJ q3)
   clear hx3 GJ q2
   refine aH 12 rfl Aab Aad ?_
   go_simp
   refine wpAny_done Aab ?_
   go_simp
   clear q3 f3
   go_wp2_with fail
   go_roundw
   case rel=>exact aiI
   case measure=>simp[intOf];omega
  have hke:k=n.out.length:=Aaa
  subst hke
  have hnlt:decide ((n.out.length:Int) < (n.out.length:Int))=false:=Aac
  have iR:=Hq hbw
  clear hbw
  go_upto_region 9 with fail
  refine wp_at (λW4 hWW=>?_)
  subst hWW
  have yN:=Hq (au wX iR)
  have UK:=Hq (au NH iR)
  have DV:=Hq (IV.trans (iR.mono IV.size))
  have IZ:Hid (aC [w.heap.size] W3 W4):=aC.of_below iR
  clear iR hnlt wX NH hlt
 obtain⟨T,hT,hAt,hT1,hTr⟩:=acK HA.s;have HTR:=Hq hTr;have HT:=Hq hT;have HC5:=aea A.s A.cs T W4 (by rw [hT];omega) hT1 (GR.At.below hAt DV);rw [hT] at HC5;have HCS:=Hq HC5;clear hTr hAt hT1 HC5 hT;obtain⟨c0,c1,c2,c3,c4,c5,c6,c7,c8⟩:=nine yN;have akw:=aA yN;have aBy:=aj yN 6;go_wp2_with fail;refine HCS.mono ?_;rintro e y ⟨vs,rfl,hrow,hby⟩;have hrow2:=hrow;rw [<-ah HT] at hrow2;obtain⟨YH,cs,hvs,_⟩:=GR.own_at (enc:=fK) (sz:=3) (l:=T) dK hrow2;rw [ah HT] at hvs;subst hvs;clear hrow2 HCS;have Zy:=Hq hby;have hN1:=au yN hby;have f1:=aj hN1 6;have KW:=aA hN1;obtain⟨d0,d1,d2,d3,d4,d5,d6,d7,d8⟩:=nine hN1;clear c0 c1 c2 c3 c4 c5 c6 c7 c8 hby aBy;go_upto_region 10 with fail;refine wp_at (λW5 hW=>?_);have UH:Hid (W5.heap[w.heap.size]?=some (.cells (iD n.id n.par ak n.kids.length ck n.next ap n.pu.length cp ao n.out.length co YH n.seen.length cs n.old A.r n.reqs.length A.cr) 40 (0,0))):=Ack
 have Zm:Hid (W5.heap[w.heap.size+1]?=some (.cells iF 40 (0,0))):=by rw [hW];exact(Below.heap_setCell _ _ _ _ (show w.heap.size+1≠w.heap.size by omega)).trans (au UK Zy)
 have aly:Hid (aI w W5):=by rw [hW];exact tq (Nat.le_refl _) (DV.trans (Zy.mono DV.size))
 have I7:Hid (aC [w.heap.size] W4 W5):=by rw [hW];exact keepsN Zy
 have al1:Hid (aC [w.heap.size] y W5):=Abe
 clear hW hN1 f1 KW d0 d1 d2 d3 d4 d5 d6 d7 d8 yN UK;have HSW:Hid (W5.ownsRow W4.heap.size 110 3 (.slice YH n.seen.length cs) n.seen.length (GR.flat fK T)):=dQ hrow al1 (λx hx=>by have:x=w.heap.size:=Aaf;omega);clear hrow;have aB8:=aA UH;have aCW:=aA Zm;have aBT:=I7.size;have aBF:=DV.size;obtain⟨c0,c1,c2,c3,c4,c5,c6,c7,c8⟩:=nine UH;go_wp2_with fail;go_loopw [44] (λi wr=>∃(k:Nat) (T2:List R3) (I:Nat->Nat),k<=n.seen.length/\i= .int .i64 k/\SC w W5 wr W4.heap.size k n.seen T T2 I YH cs) (λi _=>n.seen.length - (intOf i).toNat)
 case atStart=>exact⟨0,T,_,Nat.zero_le _,rfl,SC.start HT HSW⟩
 case' round=>
  obtain⟨k,T2,I,hk,rfl,hsc⟩:=hrel
  clear c0 c1 c2 c3 c4 c5 c6 c7 c8
  have HSC:=Hq hsc
  have cK:=Hq (hsc.below (Nat.le_refl W4.heap.size) aBT)
  have hN4:w.heap.size+1 < W4.heap.size:=by have:=Nr.size;have:=IX.size;have:=IY.size;have:=IZ.size;omega
  have Rb:Hid (wr.heap[w.heap.size]?=some (.cells (iD n.id n.par ak n.kids.length ck n.next ap n.pu.length cp ao n.out.length co YH n.seen.length cs n.old A.r n.reqs.length A.cr) 40 (0,0))):=(cK.block _ Aaa).trans UH
  have Ry:Hid (wr.heap[w.heap.size+1]?=some (.cells iF 40 (0,0))):=(cK.block _ Aaa).trans Zm
  have YX:=Hq (aly.trans (cK.mono aBF))
  clear hsc
  by_cases hlt:k < n.seen.length
  case' pos=>
   have OU:(k:Int) < (n.seen.length:Int):=Aaa
   obtain⟨b,cc,hTk,hIb⟩:=ah HTR k hlt
   have hk2:k < T2.length:=by rw [(ah HSC).len];exact hlt
   have ho2:=HSC.own
   rw [<-(ah HSC).len] at ho2
   obtain⟨g,rest,e0,hBg,hgb⟩:=wC ho2 (show 0 < T2.length by omega)
   have ayb:T2[k]=⟨n.seen[k].f,n.seen[k].l,.slice b n.seen[k].ids.length cc⟩:=by
    have:=HSC.up k (Nat.le_refl _);rw [List.getElem?_eq_getElem hk2,hTk] at this;exact Option.some.inj this
   have q2:wr.cell? ⟨g,k*3+2,none⟩=some (.slice b n.seen[k].ids.length cc):=by
    have:=vI dK hgb k hk2 2 Aaa;rw [ayb] at this;exact this
   have hg5:g < W5.heap.size:=(HSW.lt g (by rw [e0];rfl)).2
   have jy:=Hq (λw1 (h1:aI wr w1)=>AU b cc n.seen[k].ids w1 (Nat.le_trans (HZ.sk _ (List.getElem_mem hlt)) Aaa) (GR.At.below hIb (YX.trans (h1.mono YX.size))))
   have ku:=Hq hgb
   have iH:=Hq (λx b2 c2 g2 hx hi hl=>SC.next (x:=x) (b:=b2) (cc:=c2) (gi:=g2) HSC hlt e0 ⟨b,cc,hTk⟩ hx hg5 hi hl)
   obtain⟨c0,c1,c2,c3,c4,c5,c6,c7,c8⟩:=nine Rb
   have hnr:=aA Rb
   have hgr:=aA hgb
   clear hTk hIb ho2 hgb ayb
   subst e0
   generalize n.seen[k].ids=ids at *
   go_upto_region 13 with fail
   have y6:=cell_regrown c6
   have z2:=cell_regrown q2
   clear c0 c1 c2 c3 c4 c5 c6 c7 c8
   refine dB 12 Aab ?_
   show eY _ _ _ _ _ 13 (Array.replicate 13 false) _ _
   refine tk [0,1,2,3,4,5,6,7,8] ?_
   iterate 9 (refine uR (λK hK=>?_);go_simp;refine hK _ ?_;clear hK K)
   refine jJ ?_
   clear y6 z2
   refine dU 9 rfl Aab Aad (λx hx=>?_)
   go_simp
   refine(jy x hx).mono ?_
   rintro e y ⟨v2,rfl,hrow,hby⟩
   refine⟨hby,?_⟩
   obtain⟨b2,c2,g2,rfl,hW2,hg2,_⟩:=GR.W.of_own (enc:=aU) aQ hrow
   have HY:=Hq (Ge.trans hx hby)
   have HWI:=Hq (And.intro hW2 (λz (hz:z∈fp g2 ids)=>And.intro (Nat.le_trans hx.size (hg2 z hz).1) (hg2 z hz).2))
   clear hx hby jy hrow hW2 hg2
   refine tk [10,11] ?_
   iterate 2 (refine uR (λK hK=>?_);go_simp;refine hK _ ?_;clear hK K)
   refine jJ ?_
   refine bC Aab (λx3 hx3=>?_)
   have Rh:=Hq (Ge.trans HY hx3)
   have HRL:=Hq (iH x3 b2 c2 g2 Rh (HWI.1.below hx3) (λz hz=>⟨(HWI.2 z hz).1,Nat.lt_of_lt_of_le (HWI.2 z hz).2 hx3.size⟩))
   have GJ:=au ku Rh
   have q3:x3.cell? ⟨g,k*3+2,none⟩=some (.slice b ids.length cc):=(Rh.cell (p:=⟨g,k*3+2,none⟩) hgr).trans q2
   have f3:=aj GJ (k*3+2)
   clear hx3 GJ q2 iH
   refine aH 12 rfl Aab Aad ?_
   go_simp
   refine wpAny_done Aab ?_
   go_simp
   clear q3 f3
   go_wp2_with fail
   go_roundw
   case rel=>exact⟨k+1,_,_,Aaa,Aah,HRL⟩
   case measure=>simp[intOf];omega
  have hke:k=n.seen.length:=Aaa
  subst hke
  have hnlt:decide ((n.seen.length:Int) < (n.seen.length:Int))=false:=Aac
  go_upto_region 15 with fail
  refine wp_at (λW6 hWW=>?_)
  subst hWW
  have Nt:=Hq Rb
  have afw:=Hq Ry
  have YW:=Hq YX
  have afm:=Hq cK
  obtain⟨gs,hsn⟩:=HSC.done
  obtain⟨I6,hI6⟩:∃J,J=I:=⟨I,rfl⟩
  rw [<-hI6] at hsn
  have HSN:=Hq hsn
  clear hsn hI6 HSC Rb Ry YX cK hnlt UH Zm hlt
 obtain⟨c0,c1,c2,c3,c4,c5,c6,c7,c8⟩:=nine Nt;have aB9:=aA Nt;have aBz:=aj Nt 8;go_wp2_with fail;refine(aeb A.r A.cr n.reqs W6 (Nat.le_trans HZ.r Aaa) (jc _) (GR.At.below HA.r YW)).mono ?_;rintro e y ⟨vr,rfl,hrow,hby⟩;obtain⟨ar,cr,rfl,_⟩:=GR.own_at (enc:=aL) (sz:=4) aR hrow;have Zz:=Hq hby;have hN1:=au Nt hby;have f1:=aj hN1 8;have KW:=aA hN1;obtain⟨d0,d1,d2,d3,d4,d5,d6,d7,d8⟩:=nine hN1;clear c0 c1 c2 c3 c4 c5 c6 c7 c8 hby aBz;go_upto_region 16 with fail;refine wp_at (λW7 hW=>?_);have Nu:Hid (W7.heap[w.heap.size]?=some (.cells (iD n.id n.par ak n.kids.length ck n.next ap n.pu.length cp ao n.out.length co YH n.seen.length cs n.old ar n.reqs.length cr) 40 (0,0))):=Ack
 have afx:Hid (W7.heap[w.heap.size+1]?=some (.cells iF 40 (0,0))):=by rw [hW];exact(Below.heap_setCell _ _ _ _ (show w.heap.size+1≠w.heap.size by omega)).trans (au afw Zz)
 have afi:Hid (aI w W7):=by rw [hW];exact tq (Nat.le_refl _) (YW.trans (Zz.mono YW.size))
 have afn:Hid (aC [w.heap.size] W6 W7):=by rw [hW];exact keepsN Zz
 have al2:Hid (aC [w.heap.size] y W7):=Abe
 clear hW hN1 f1 KW d0 d1 d2 d3 d4 d5 d6 d7 d8 Nt afw;have HQW:Hid (W7.ownsRow W6.heap.size 95 4 (.slice ar n.reqs.length cr) n.reqs.length (GR.flat aL n.reqs)):=dQ hrow al2 (λx hx=>by have:x=w.heap.size:=Aaf;omega);clear hrow;have aCa:=aA Nu;obtain⟨c0,c1,c2,c3,c4,c5,c6,c7,c8⟩:=nine Nu;go_wp2_with fail;go_loopw [67] (λi wr=>∃k:Nat,k<=n.reqs.length/\i= .int .i64 k/\aI W7 wr) (λi _=>n.reqs.length - (intOf i).toNat)
 case atStart=>exact AQ
 case' round=>
  obtain⟨k,hk,rfl,hbw⟩:=hrel
  clear c0 c1 c2 c3 c4 c5 c6 c7 c8
  by_cases hlt:k < n.reqs.length
  case' pos=>
   have OU:(k:Int) < (n.reqs.length:Int):=Aaa
   have iR:=Hq hbw
   have Rb:=Hq (au Nu hbw)
   obtain⟨g,rest,e0,hBg,hgb⟩:=wC (GR.own_below HQW hbw) (show 0 < n.reqs.length by omega)
   have ku:=Hq hgb
   have q2:wr.cell? ⟨g,k*4+1,none⟩=some (.string n.reqs[k].k):=vI aR hgb k hlt 1 Aaa
   have hkk:n.reqs[k].k.size<=281474976710656:=Nat.le_trans (HZ.rk _ (List.getElem_mem hlt)) Aaa
   have jy:=Hq (λw1=>clone n.reqs[k].k w1 hkk)
   obtain⟨c0,c1,c2,c3,c4,c5,c6,c7,c8⟩:=nine Rb
   have hnr:=aA Rb
   have hgr:=aA hgb
   clear hbw hgb hkk
   subst e0
   generalize n.reqs[k].k=kx at *
   go_upto_region 19 with fail
   have y5:=cell_regrown c8
   have z2:=cell_regrown q2
   clear c0 c1 c2 c3 c4 c5 c6 c7 c8
   refine dB 12 Aab ?_
   show eY _ _ _ _ _ 13 (Array.replicate 13 false) _ _
   refine tk [0,1,2,3,4,5,6,7,8] ?_
   iterate 9 (refine uR (λK hK=>?_);go_simp;refine hK _ ?_;clear hK K)
   refine jJ ?_
   clear y5 z2
   refine dU 9 rfl Aab Aad (λx hx=>?_)
   go_simp
   refine(jy x).mono ?_
   rintro e y ⟨rfl,hby⟩
   refine⟨hby,?_⟩
   have HY:=Hq (Ge.trans hx hby)
   clear hx hby jy
   refine tk [10,11] ?_
   iterate 2 (refine uR (λK hK=>?_);go_simp;refine hK _ ?_;clear hK K)
   refine jJ ?_
   refine bC Aab (λx3 hx3=>?_)
   have Rh:=Hq (Ge.trans HY hx3)
   have GJ:=au ku Rh
   have q3:x3.cell? ⟨g,k*4+1,none⟩=some (.string kx):=(Rh.cell (p:=⟨g,k*4+1,none⟩) hgr).trans q2
   have f3:=aj GJ (k*4+1)
   have yP:=Hq (mD GJ q3)
   clear hx3 GJ q2
   refine aH 12 rfl Aab Aad ?_
   go_simp
   refine wpAny_done Aab ?_
   go_simp
   clear q3 f3
   go_wp2_with fail
   go_roundw
   case rel=>exact aiI
   case measure=>simp[intOf];omega
  have hke:k=n.reqs.length:=Aaa
  subst hke
  have hnlt:decide ((n.reqs.length:Int) < (n.reqs.length:Int))=false:=Aac
  have iR:=Hq hbw
  clear hbw
  go_upto_region 21 with fail
  refine wp_at (λW8 hWW=>?_)
  subst hWW
  have afs:=Hq (au Nu iR)
  have uG:=Hq (au afx iR)
  have alz:=Hq (afi.trans (iR.mono afi.size))
  have afo:Hid (aC [w.heap.size] W7 W8):=aC.of_below iR
  clear iR hnlt Nu afx hlt
 obtain⟨c0,c1,c2,c3,c4,c5,c6,c7,c8⟩:=nine afs;obtain⟨d0,d1,d2,d3,d4,d5,d6,d7,d8⟩:=nine uG;have f0:=aj uG 0;have f1:=aj uG 1;have f2:=aj uG 2;have f3:=aj uG 3;have f4:=aj uG 4;have f5:=aj uG 5;have f6:=aj uG 6;have f7:=aj uG 7;have f8:=aj uG 8;have aB7:=aA afs;have aCh:=aA uG;go_wp2_with fail;refine aO (λW' hW'=>?_)
 have e4:W'.heap[w.heap.size+1]?=some (.cells (iD n.id n.par ak n.kids.length ck n.next ap n.pu.length cp ao n.out.length co YH n.seen.length cs n.old ar n.reqs.length cr) 40 (0,0)):=by
  rw [hW'];exact GR.setW_blk (iD n.id n.par ak n.kids.length ck n.next ap n.pu.length cp ao n.out.length co YH n.seen.length cs n.old ar n.reqs.length cr).toList (o:=0) (xs:=iF.toList) uG
 have hso:∀x,x≠w.heap.size+1->W'.heap[x]?=W8.heap[x]?:=λx hx=>by
  rw [hW']
  exact GR.setW_other hx (iD n.id n.par ak n.kids.length ck n.next ap n.pu.length cp ao n.out.length co YH n.seen.length cs n.old ar n.reqs.length cr).toList (o:=0)
 have hsz:W8.heap.size=W'.heap.size:=by rw [hW'];simp[World.setCell]
 have HBE:Hid (aI w W'):=by
  rw [hW'];exact GR.setW_below Aaa (iD n.id n.par ak n.kids.length ck n.next ap n.pu.length cp ao n.out.length co YH n.seen.length cs n.old ar n.reqs.length cr).toList (o:=0) alz
 clear hW' c0 c1 c2 c3 c4 c5 c6 c7 c8 d0 d1 d2 d3 d4 d5 d6 d7 d8 f0 f1 f2 f3 f4 f5 f6 f7 f8;obtain⟨c0,c1,c2,c3,c4,c5,c6,c7,c8⟩:=nine e4;have k1:=IX.size;have k2:=IY.size;have k3:=IZ.size;have k4:=I7.size;have k5:=afm.size;have k6:=afn.size;have k7:=afo.size;have k0:=Nr.size;have b8:∀x,w.heap.size+1 < x->x < W7.heap.size->W'.heap[x]?=W7.heap[x]?:=λx h1 h2=>(hso x Aaa).trans (afo.block x h2 Aag)
 have b6:∀x,w.heap.size+1 < x->x < W6.heap.size->W'.heap[x]?=W6.heap[x]?:=λx h1 h2=>(b8 x h1 Aaa).trans (afn.block x h2 Aag)
 have b4:∀x,w.heap.size+1 < x->x < W4.heap.size->W'.heap[x]?=W4.heap[x]?:=λx h1 h2=>((b6 x h1 Aaa).trans (afm.block x h2)).trans (I7.block x h2 Aag)
 have b3:∀x,w.heap.size+1 < x->x < W3.heap.size->W'.heap[x]?=W3.heap[x]?:=λx h1 h2=>(b4 x h1 Aaa).trans (IZ.block x h2 Aag)
 have b2:∀x,w.heap.size+1 < x->x < W2.heap.size->W'.heap[x]?=W2.heap[x]?:=λx h1 h2=>(b3 x h1 Aaa).trans (IY.block x h2 Aag)
 have b1:∀x,w.heap.size+1 < x->x < W1.heap.size->W'.heap[x]?=W1.heap[x]?:=λx h1 h2=>(b2 x h1 Aaa).trans (IX.block x h2 Aag)
 have oS:=HSW.lt;have oO:=HOW.lt;have oQ:=HQW.lt;obtain⟨sw,sg,si,snd⟩:=ah HSN
 have l7:Hid (NO W' w.heap.size n ⟨ak,ap,ao,YH,ar,ck,cp,co,cs,cr⟩ ⟨gk,gp,0,gs,0,I6⟩ (Cv W0.heap.size W1.heap.size W2.heap.size W4.heap.size W5.heap.size W6.heap.size)):=by
  refine⟨yV HKW.1 Aaa (λx hx=>b1 x (by have:=HKW.2 x hx;omega) (HKW.2 x hx).2),yV Gg.1 Aaa (λx hx=>b2 x (by have:=Gg.2 x hx;omega) (Gg.2 x hx).2),kK (jm HOW (λx hx=>b3 x (by have:=oO x hx;omega) (oO x hx).2)) Aaa,NV sw Aaa (λx hx=>b6 x (by have:=(sg x hx).1;omega) (by have:=oS x (sg x hx).2;omega)) (λx hx=>b6 x (by have:=si x hx;omega) (si x hx).2),kK (jm HQW (λx hx=>b8 x (by have:=oQ x hx;omega) (oQ x hx).2)) Aaa,λx hx=>?_,λx hx=>?_,λx hx=>?_,λx hx=>?_,λx hx=>?_,λx hx=>?_,λx hx=>?_,snd⟩
  .unfold Cv;rw [if_pos Aaa]
  .have:=HKW.2 x hx;unfold Cv;rw [if_neg Aaa,if_pos Aaa]
  .have:=Gg.2 x hx;unfold Cv;rw [if_neg Aaa,if_neg Aaa,if_pos Aaa]
  .have:=oO x hx;unfold Cv;rw [if_neg Aaa,if_neg Aaa,if_neg Aaa,if_pos Aaa]
  .have:=oS x (sg x hx).2;unfold Cv;rw [if_neg Aaa,if_neg Aaa,if_neg Aaa,if_neg Aaa,if_pos Aaa]
  .have:=si x hx;unfold Cv;rw [if_neg Aaa,if_neg Aaa,if_neg Aaa,if_neg Aaa,if_neg Aaa,if_pos Aaa]
  .have:=oQ x hx;unfold Cv;rw [if_neg Aaa,if_neg Aaa,if_neg Aaa,if_neg Aaa,if_neg Aaa,if_neg Aaa]
 clear e4 hso b8 b6 b4 b3 b2 b1 oS oO oQ sw sg si snd;exact bodyPost_ret (v:= .agg (iD n.id n.par ak n.kids.length ck n.next ap n.pu.length cp ao n.out.length co YH n.seen.length cs n.old ar n.reqs.length cr)) (by simp[results,results66,go_sem,c0,c1,c2,c3,c4,c5,c6,c7,c8]) rfl ⟨⟨ak,ap,ao,YH,ar,ck,cp,co,cs,cr⟩,_,_,rfl,l7,HBE⟩
theorem NO.base (h:NO w B n A G c) (hB:B'<=B):NO w B' n A G c:=
 ⟨h.k,h.p,kK h.o hB,h.s,kK h.r hB,λx hx=>h.lo x Aaa,h.ck,h.cp,h.co,h.c4,h.ci,h.cr,h.ni⟩
theorem fV (w:World) (a b d:Obj):(((w.alloc a).alloc b).alloc d).heap[w.heap.size]?=some a/\(((w.alloc a).alloc b).alloc d).heap[w.heap.size+1]?=some b/\(((w.alloc a).alloc b).alloc d).heap[w.heap.size+2]?=some d/\Below w.heap.size w (((w.alloc a).alloc b).alloc d):=yZ w a b d
theorem OO (z:Int):∀(l:List Rq) (i:Nat) (hi:i < l.length),(GR.flat aL l).set (i*4+3) (.int .i64 z)=GR.flat aL (l.set i ⟨l[i].no,l[i].k,l[i].n,z⟩):=by
 intro l;induction l with
 |nil=>intro i hi;simp at hi
 |cons x r ih=>
  intro i hi;cases i with
  |zero=>rfl
  |succ i=>
   have hi2:i < r.length:=Aap
   have h1:=ih i hi2;show(aL x++GR.flat aL r).set ((i+1)*4+3) (.int .i64 z)=aL x++GR.flat aL (r.set i ⟨r[i].no,r[i].k,r[i].n,z⟩)
   rw [<-h1,List.set_append_right _ _ (by show 4<=_;omega)];congr 2
   show(i+1)*4+3 - 4=_
   omega
theorem xR (s:jK):∀u∈aS s,u.oneCell'=true:=by
 intro u hu;simp only[aS,List.mem_cons,List.not_mem_nil,or_false] at hu;rcases hu with rfl|rfl|rfl|rfl<;>rfl
theorem Jp (k:ByteArray) (m f s:Int) (w:World):(Instr.field 108 (.agg (iW k m f s)) 2).run prog w= .ok (.int .i64 f) w:=Aab
theorem Lp:(prog.info? 91).map (λi=>(i.zero,i.size,i.bytes))=some (some (.agg (gJ 0 0 ByteArray.empty 0)),4,40):=Aab
theorem Ji {l:List Pu} {key:ByteArray} {dm df ds n:Int} (h:(dJ l key dm df ds n).2=false):(dJ l key dm df ds n).1=l:=by
 exact aiL
theorem FX (hi:i < n.seen.length) (e:iA n.seen m.F=i) (hs:n.seen[i]=s0) (h:rF s0 m.L m.I=false) (hg:lN n s0 m=true):takeN n m=(dM (setPu n (dJ n.pu m.k 0 1 0 m.N).1) (n.seen.set i ⟨m.F,fE s0 m.L,lD (aV s0 m.L) m.I⟩),true):=by
 subst e hs;unfold takeN;rw [Dz hi,if_neg (by rw [h];simp),if_pos hg]
theorem J2 (hi:i < n.seen.length) (e:iA n.seen m.F=i) (hs:n.seen[i]=s0) (h:rF s0 m.L m.I=true):takeN n m=(dM n (n.seen.set i ⟨m.F,fE s0 m.L,aV s0 m.L⟩),true):=by
 subst e hs;unfold takeN;rw [Dz hi,if_pos h]
theorem QS (hi:i < n.seen.length) (e:iA n.seen m.F=i) (hs:n.seen[i]=s0) (h:rF s0 m.L m.I=false) (hg:lN n s0 m=false):takeN n m=(dM n (n.seen.set i ⟨m.F,fE s0 m.L,aV s0 m.L⟩),false):=by
 subst e hs;unfold takeN;rw [Dz hi,if_neg (by rw [h];simp),if_neg (by rw [hg];simp)]
theorem tu (h:Below B w X) (hg:B<=g):
 Below B w (((((((((X.setCell ⟨g,0,none⟩ b0).setCell ⟨g,1,none⟩ b1).setCell ⟨g,2,none⟩ b2).setCell ⟨g,3,none⟩ b3).setCell ⟨g,4,none⟩ b4).setCell ⟨g,5,none⟩ b5).setCell ⟨g,6,none⟩ b6).setCell ⟨g,7,none⟩ b7).setCell ⟨g,8,none⟩ b8):=
 ((((((((h.setCell (p:=⟨g,0,none⟩) hg b0).setCell (p:=⟨g,1,none⟩) hg b1).setCell (p:=⟨g,2,none⟩) hg b2).setCell (p:=⟨g,3,none⟩) hg b3).setCell (p:=⟨g,4,none⟩) hg b4).setCell (p:=⟨g,5,none⟩) hg b5).setCell (p:=⟨g,6,none⟩) hg b6).setCell (p:=⟨g,7,none⟩) hg b7).setCell (p:=⟨g,8,none⟩) hg b8
theorem uW {a0 a1 a2 a3 a4 a5 a6 a7 a8:Value} (h:X.heap[g]?=some (.cells #[a0,a1,a2,a3,a4,a5,a6,a7,a8] t (0,0))):
 (((((((((X.setCell ⟨g,0,none⟩ b0).setCell ⟨g,1,none⟩ b1).setCell ⟨g,2,none⟩ b2).setCell ⟨g,3,none⟩ b3).setCell ⟨g,4,none⟩ b4).setCell ⟨g,5,none⟩ b5).setCell ⟨g,6,none⟩ b6).setCell ⟨g,7,none⟩ b7).setCell ⟨g,8,none⟩ b8).heap[g]?=some (.cells #[b0,b1,b2,b3,b4,b5,b6,b7,b8] t (0,0)):=by
 have h0:(X.setCell ⟨g,0,none⟩ b0).heap[g]?=some (.cells #[b0,a1,a2,a3,a4,a5,a6,a7,a8] t (0,0)):=aN h 0 b0;have h1:((X.setCell ⟨g,0,none⟩ b0).setCell ⟨g,1,none⟩ b1).heap[g]?=some (.cells #[b0,b1,a2,a3,a4,a5,a6,a7,a8] t (0,0)):=aN h0 1 b1;have h2:(((X.setCell ⟨g,0,none⟩ b0).setCell ⟨g,1,none⟩ b1).setCell ⟨g,2,none⟩ b2).heap[g]?=some (.cells #[b0,b1,b2,a3,a4,a5,a6,a7,a8] t (0,0)):=aN h1 2 b2;have h3:((((X.setCell ⟨g,0,none⟩ b0).setCell ⟨g,1,none⟩ b1).setCell ⟨g,2,none⟩ b2).setCell ⟨g,3,none⟩ b3).heap[g]?=some (.cells #[b0,b1,b2,b3,a4,a5,a6,a7,a8] t (0,0)):=aN h2 3 b3;have h4:(((((X.setCell ⟨g,0,none⟩ b0).setCell ⟨g,1,none⟩ b1).setCell ⟨g,2,none⟩ b2).setCell ⟨g,3,none⟩ b3).setCell ⟨g,4,none⟩ b4).heap[g]?=some (.cells #[b0,b1,b2,b3,b4,a5,a6,a7,a8] t (0,0)):=aN h3 4 b4;have h5:((((((X.setCell ⟨g,0,none⟩ b0).setCell ⟨g,1,none⟩ b1).setCell ⟨g,2,none⟩ b2).setCell ⟨g,3,none⟩ b3).setCell ⟨g,4,none⟩ b4).setCell ⟨g,5,none⟩ b5).heap[g]?=some (.cells #[b0,b1,b2,b3,b4,b5,a6,a7,a8] t (0,0)):=aN h4 5 b5;have h6:(((((((X.setCell ⟨g,0,none⟩ b0).setCell ⟨g,1,none⟩ b1).setCell ⟨g,2,none⟩ b2).setCell ⟨g,3,none⟩ b3).setCell ⟨g,4,none⟩ b4).setCell ⟨g,5,none⟩ b5).setCell ⟨g,6,none⟩ b6).heap[g]?=some (.cells #[b0,b1,b2,b3,b4,b5,b6,a7,a8] t (0,0)):=aN h5 6 b6;have h7:((((((((X.setCell ⟨g,0,none⟩ b0).setCell ⟨g,1,none⟩ b1).setCell ⟨g,2,none⟩ b2).setCell ⟨g,3,none⟩ b3).setCell ⟨g,4,none⟩ b4).setCell ⟨g,5,none⟩ b5).setCell ⟨g,6,none⟩ b6).setCell ⟨g,7,none⟩ b7).heap[g]?=some (.cells #[b0,b1,b2,b3,b4,b5,b6,b7,a8] t (0,0)):=aN h6 7 b7;have h8:(((((((((X.setCell ⟨g,0,none⟩ b0).setCell ⟨g,1,none⟩ b1).setCell ⟨g,2,none⟩ b2).setCell ⟨g,3,none⟩ b3).setCell ⟨g,4,none⟩ b4).setCell ⟨g,5,none⟩ b5).setCell ⟨g,6,none⟩ b6).setCell ⟨g,7,none⟩ b7).setCell ⟨g,8,none⟩ b8).heap[g]?=some (.cells #[b0,b1,b2,b3,b4,b5,b6,b7,b8] t (0,0)):=aN h7 8 b8;exact h8
theorem pR:
 aC [g] X (((((((((X.setCell ⟨g,0,none⟩ b0).setCell ⟨g,1,none⟩ b1).setCell ⟨g,2,none⟩ b2).setCell ⟨g,3,none⟩ b3).setCell ⟨g,4,none⟩ b4).setCell ⟨g,5,none⟩ b5).setCell ⟨g,6,none⟩ b6).setCell ⟨g,7,none⟩ b7).setCell ⟨g,8,none⟩ b8):=
 (((((((((aC.set b0).trans (aC.set b1)).trans (aC.set b2)).trans (aC.set b3)).trans (aC.set b4)).trans (aC.set b5)).trans (aC.set b6)).trans (aC.set b7)).trans (aC.set b8))
theorem NO.keepsN (h:NO w B n A G c) (hg:g < B) (hk:aC [g] w X):NO X B n A G c:=by
 have hc:KC c 0 w X:=KC.keeps hk (λx hx=>by rw [List.mem_singleton.1 hx];exact h.lo g hg);exact⟨hc.w h.k h.ck Aaa,hc.w h.p h.cp Aaa,hc.own h.o h.co Aaa,hc.seen h.s h.c4 h.ci Aaa Aaa,hc.own h.r h.cr Aaa,h.lo,h.ck,h.cp,h.co,h.c4,h.ci,h.cr,h.ni⟩
theorem nX (w:World) (base:Nat) (t ty e:TypeId) (i:TypeInfo) (size:Nat) (ht:P.underlying t=some (.slice e)) (hi:P.info? e=some i) (v:Value) (n:Nat) (xs:List Value) (hown:w.ownsRow base e size v n xs) (a:Option Addr) (c:Nat):
 (Builtin.append_ #[t,t] ty #[v,.slice a 0 c]).run P w= .ok v w:=by
 rcases hown.2 with⟨rfl,rfl⟩|⟨g,cap,cur,rfl,_,_,hnc,_⟩
 .cases a<;>simp[Builtin.append_,run_underlying ht,sizeOf,typeInfo,hi,Builtin.lenOf,Builtin.firstCells,loadCells,loadCellsFrom]
 .cases a<;>simp[Builtin.append_,run_underlying ht,sizeOf,typeInfo,hi,Builtin.lenOf,Builtin.firstCells,loadCells,loadCellsFrom,hnc,storeCells]
theorem fQ (hs:∀x,(enc x).length=sz) (hz:0 < sz) (w:World) (base:Nat) (t ty e:TypeId) (i:TypeInfo) (z:Value) (bytes:Nat) (ht:P.underlying t=some (.slice e)) (hi:P.info? e=some i) (hz0:i.zero=some z) (hsize:i.size=sz) (hby:i.bytes=bytes) (hzs:z.cells.size=sz) (v:Value) (n:Nat) (xs:List Value) (hown:w.ownsRow base e sz v n xs) (a:Option Addr) (l:List α) (c:Nat) (ha:GR.At enc sz w a l) (h1:∀u∈GR.flat enc l,u.oneCell'=true) (h63:n+l.length<=maxLen) (hbytes:(n+l.length)*bytes<=140737488355328) (hbase:base<=w.heap.size):
 ∃v' w',(Builtin.append_ #[t,t] ty #[v,.slice a l.length c]).run P w= .ok v' w'/\w'.ownsRow base e sz v' (n+l.length) (xs++GR.flat enc l)/\w.grownBy w' v.ownBlock/\∀x,v'.ownBlock=some x->v.ownBlock=some x\/w.heap.size<=x:=by
 by_cases hl:l.length=0
 .have hn:l=[]:=List.eq_nil_of_length_eq_zero hl;subst hn;exact⟨v,w,nX w base t ty e i sz ht hi v n xs hown a c,by simpa [GR.flat] using hown,World.grownBy.refl _ _,λx hx=> .inl hx⟩
 .obtain⟨g,off,rfl,_⟩:=ha 0 Aaa;exact iJ w base t ty e i z sz bytes ht hi hz0 hsize hby hzs hz v n xs hown ⟨g,off,none⟩ l.length c (GR.flat enc l) (GR.flat_length enc sz hs l) (JE hs hz ha) h1 h63 hbytes hbase
theorem run_copy_row (hs:∀x,(enc x).length=sz) (hz:0 < sz) (w:World) (t e:TypeId) (i:TypeInfo) (z:Value) (bytes:Nat) (ht:P.underlying t=some (.slice e)) (hi:P.info? e=some i) (hz0:i.zero=some z) (hsize:i.size=sz) (hby:i.bytes=bytes) (hzs:z.cells.size=sz) (a:Option Addr) (l:List α) (c:Nat) (ha:GR.At enc sz w a l) (h1:∀u∈GR.flat enc l,u.oneCell'=true) (h63:l.length<=maxLen) (hbytes:l.length*bytes<=140737488355328):
 ∃a' c' w',(∀ty,(Builtin.append_ #[t,t] ty #[.slice (some ⟨w.heap.size,0,none⟩) 0 0,.slice a l.length c]).run P (w.alloc (.cells #[] e))= .ok (.slice a' l.length c') w')/\w'.ownsRow w.heap.size e sz (.slice a' l.length c') l.length (GR.flat enc l)/\aI w w'/\(∃g,a'=some ⟨g,0,none⟩)/\l.length<=c':=by
 open aur in exact agy
theorem Hw (hs:∀x,(enc x).length=sz) (hz:0 < sz) (w:World) (t e:TypeId) (i:TypeInfo) (z:Value) (bytes:Nat) (ht:P.underlying t=some (.slice e)) (hi:P.info? e=some i) (hz0:i.zero=some z) (hsize:i.size=sz) (hby:i.bytes=bytes) (hzs:z.cells.size=sz) (a:Option Addr) (l:List α) (c:Nat) (ha:GR.At enc sz w a l) (h1:∀u∈GR.flat enc l,u.oneCell'=true) (h63:l.length<=maxLen) (hbytes:l.length*bytes<=140737488355328):
 ∃a' c' w',(∀ty,(Builtin.append_ #[t,t] ty #[.slice (some ⟨w.heap.size,0,none⟩) 0 0,.slice a l.length c]).run P (w.alloc (.cells #[] e))= .ok (.slice a' l.length c') w')/\w'.ownsRow w.heap.size e sz (.slice a' l.length c') l.length (GR.flat enc l)/\aI w w'/\(l=[]->c'=0):=by
 by_cases hl0:l.length=0
 .have hn:l=[]:=List.eq_nil_of_length_eq_zero hl0;subst hn;open auq in exact agy
 .obtain⟨a',c',w',q1,q2,q3,_⟩:=run_copy_row hs hz w t e i z bytes ht hi hz0 hsize hby hzs a l c ha h1 h63 hbytes;exact⟨a',c',w',q1,q2,q3,λe=>absurd (by rw [e];rfl) hl0⟩
theorem fZ {ops:Array Oper} {rest:List Oper} {o:Oper} {a:Act} {Q:Exit->Act->World->Prop} (hgd:o.guard=none) (s x:Operand) (t:TypeId)
 (ho:o.op= .call {callee:= .builtin .append,args:=#[s,x],argTypes:=#[t,t]}) (vs vx:Value) (hs:a.eval s=vs) (hx:a.eval x=vx) (v':Value) (w':World) (hrun:(Builtin.append_ #[t,t] o.type #[vs,vx]).run P w= .ok v' w')
 (h:wpList P ops Q rest (a.put o.dst v') w'):wpList P ops Q (o::rest) a w:=by
 refine wpList_plain hgd λK hK=>?_
 unfold Oper.wp;simp[execOp,ho,resolve,invoke,builtin,hs,hx,hrun,Result.andThen];exact hK _ _ h
end Go.Proofs.YtohmklmkjmlpjaaGreatDoor
