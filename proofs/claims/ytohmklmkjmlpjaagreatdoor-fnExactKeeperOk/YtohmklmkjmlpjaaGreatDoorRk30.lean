/- Parts. -/
import Derived.Test.YtohmklmkjmlpjaaGreatDoorRk28
import Derived.Test.YtohmklmkjmlpjaaGreatDoorRk26
import Derived.Test.YtohmklmkjmlpjaaGreatDoorRk10
import Derived.Test.YtohmklmkjmlpjaaGreatDoorRk27
namespace Go.Proofs.YtohmklmkjmlpjaaGreatDoor
open Go.Proofs.Tryz
set_option maxHeartbeats 8000000
set_option maxRecDepth 100000
open Go.RowKit
open Mth
variable {w X Y W5 wr w':World} {B g i sz k cs nb B':Nat} {v b0 b1 b2 b3 b4 b5 b6 b7 b8:Value} {a:Option Addr} {l:List Sn} {n:Nd} {P:Program} {t:TypeId} {T T2:List R3} {I c:Nat->Nat} {α:Type} {enc:α->List Value} {xs:List Value} {m:Mg} {s0:Sn} {A:bV} {G:aY}
theorem keepsN (hb:aI X Y):aC [nb] X (Y.setCell ⟨nb,i,none⟩ v):=(aC.of_below hb).trans (aC.set v)
theorem tu (hn:w.heap.size<=nb) (hb:aI w Y):Below w.heap.size w (Y.setCell ⟨nb,i,none⟩ v):=hb.setCell (p:=⟨nb,i,none⟩) hn v
theorem oD {cs:Array Value} (h:Y.heap[nb]?=some (.cells cs 40 (0,0))):(Y.setCell ⟨nb,i,none⟩ v).heap[nb]?=some (.cells (cs.setIfInBounds i v) 40 (0,0)):=aR h i v
theorem dM {F:List Nat} {W:World} (h:Y.ownsRow B t sz v k xs) (hk:aC F Y W) (hd:∀x∈F,x < B):W.ownsRow B t sz v k xs:=by
 refine⟨h.1,?_⟩;rcases h.2 with hn|⟨g,cap,cur,rfl,hb,hgg,rest⟩
 .exact .inl hn
 .exact .inr ⟨g,cap,cur,rfl,hb,hk.obj hgg (λhm=>by have:=hd g hm;omega),rest⟩
theorem abF (u:Value):∀(l:List R3) (i:Nat) (hi:i < l.length),(GR.flat fV l).set (i*3+2) u=GR.flat fV (l.set i ⟨l[i].f,l[i].l,u⟩):=by
 intro l;induction l with
 |nil=>intro i hi;simp at hi
 |cons x r ih=>
  intro i hi;cases i with
  |zero=>rfl
  |succ i=>
   have hi2:i < r.length:=Aap
   have h1:=ih i hi2;show(fV x++GR.flat fV r).set ((i+1)*3+2) u=fV x++GR.flat fV (r.set i ⟨r[i].f,r[i].l,u⟩)
   rw [<-h1,List.set_append_right _ _ (by show 3<=_;omega)];congr 2
   show(i+1)*3+2 - 3=_
   omega
structure SC (w W5 wr:World) (B k:Nat) (l:List Sn) (T T2:List R3) (I:Nat->Nat) (a:Option Addr) (cs:Nat):Prop where
 len:T2.length=l.length
 own:wr.ownsRow B 110 3 (.slice a l.length cs) l.length (GR.flat fV T2)
 dn:∀i (hi:i < l.length),i < k->∃b c,T2[i]?=some ⟨l[i].f,l[i].l,.slice b l[i].ids.length c⟩/\GR.W bf 1 wr b (I i) l[i].ids/\∀x∈fp (I i) l[i].ids,W5.heap.size<=x/\x < wr.heap.size
 up:∀i,k<=i->T2[i]?=T[i]?
 nd:∀i j (hi:i < l.length) (hj:j < l.length),i < j->j < k->0 < l[i].ids.length->0 < l[j].ids.length->I i≠I j
 gr:W5.grownBy wr (Value.slice a l.length cs).ownBlock
theorem SC.start (hT:T.length=l.length) (ho:W5.ownsRow B 110 3 (.slice a l.length cs) l.length (GR.flat fV T)):SC w W5 W5 B 0 l T T (λ_=>0) a cs:=
 ⟨hT,ho,λi _ h=>Aaa,λ_ _=>rfl,λi j _ _ _ h=>Aaa,World.grownBy.refl _ _⟩
theorem SC.next {x:World} {gi cc:Nat} {b:Option Addr} (h:SC w W5 wr B k l T T2 I a cs) (hk:k < l.length) (ha:a=some ⟨g,0,none⟩) (hT:∃b c,T[k]?=some ⟨l[k].f,l[k].l,.slice b l[k].ids.length c⟩) (hx:aI wr x) (hg5:g < W5.heap.size) (hi:GR.W bf 1 x b gi l[k].ids) (hlt:∀z∈fp gi l[k].ids,wr.heap.size<=z/\z < x.heap.size):SC w W5 (x.setCell ⟨g,k*3+2,none⟩ (.slice b l[k].ids.length cc)) B (k+1) l T (T2.set k ⟨l[k].f,l[k].l,.slice b l[k].ids.length cc⟩) (λi=>if i=k then gi else I i) a cs:=by
 subst ha;have hk2:k < T2.length:=by rw [h.len];exact hk
 have hTk:∃b c,T2[k]=⟨l[k].f,l[k].l,.slice b l[k].ids.length c⟩:=by
  obtain⟨b',c',e⟩:=hT;refine⟨b',c',?_⟩;have:=h.up k (Nat.le_refl _);rw [List.getElem?_eq_getElem hk2,e] at this;exact Option.some.inj this
 have hgs:x.heap.size=(x.setCell ⟨g,k*3+2,none⟩ (.slice b l[k].ids.length cc)).heap.size:=Aar
 have hkp:aC [g] x (x.setCell ⟨g,k*3+2,none⟩ (.slice b l[k].ids.length cc)):=aC.set _;have hws:=h.gr.size;have hxs:=hx.size;refine⟨by rw [List.length_set];exact h.len,?_,λi hi' hik=>?_,λi hik=>?_,λi j hi' hj hij hjk h1 h2=>?_,?_⟩
 .have ho:=GR.own_below h.own hx;have hst:=(ho.stored (k*3+2) (.slice b l[k].ids.length cc)).1;rw [abF _ T2 k hk2] at hst;obtain⟨b',c',e⟩:=hTk;rw [e] at hst;exact hst
 .by_cases e:i=k
  .subst e;refine⟨b,cc,by rw [List.getElem?_set_self hk2],?_,?_⟩
   .rw [if_pos rfl];exact hi.keeps hkp (λz hz hm=>by have:=(hlt z hz).1;have:z=g:=Aaz;omega)
   .rw [if_pos rfl];exact λz hz=>⟨by have:=(hlt z hz).1;omega,by rw [<-hgs];exact(hlt z hz).2⟩
  .obtain⟨b',c',e1,e2,e3⟩:=h.dn i hi' Aaa;refine⟨b',c',by rw [List.getElem?_set_ne Aaa];exact e1,?_,?_⟩
   .rw [if_neg e];exact(e2.below hx).keeps hkp (λz hz hm=>by have:=(e3 z hz).1;have:z=g:=Aaz;omega)
   .rw [if_neg e];exact λz hz=>⟨(e3 z hz).1,by rw [<-hgs];have:=(e3 z hz).2;omega⟩
 .rw [List.getElem?_set_ne Aaa];exact h.up i Aaa
 .by_cases ej:j=k
  .subst ej;rw [if_neg Aaa,if_pos rfl];obtain⟨_,_,_,_,e3⟩:=h.dn i hi' Aaa;have q1:=(e3 (I i) (eG h1)).2;have q2:=(hlt gi (eG h2)).1;omega
  .exact ajW
 .refine h.gr.andThen (row':=some g) ⟨hx.os,hx.tape,hx.output,by rw [<-hgs];exact hx.size,λz hz hne=>?_⟩ (λj hj=> .inr (by cases hj;rfl));rw [Below.heap_setCell _ _ _ _ (λe=>hne Aao)];exact hx.block z hz
theorem SC.done (h:SC w W5 wr B l.length l T T2 I a cs):∃g,iL wr a g I l/\(∀x∈fp g l,B<=x/\(Value.slice a l.length cs).ownBlock=some x)/\(∀x∈wR I l,W5.heap.size<=x/\x < wr.heap.size)/\(wR I l).Nodup:=by
 open awX in exact ahn
theorem SC.below (h:SC w W5 wr B k l T T2 I a cs) {C:Nat} (hC:C<=B) (hs:C<=W5.heap.size):Below C W5 wr:=
 ⟨h.gr.os,h.gr.tape,h.gr.output,h.gr.size,λx hx=>h.gr.block x Aaa (λe=>by have:=(h.own.lt x e.symm).1;omega)⟩
theorem za {l:List α} (h:GR.W enc sz w a g l) (hs:w.heap.size<=w'.heap.size) (hb:∀x∈fp g l,w'.heap[x]?=w.heap[x]?):GR.W enc sz w' a g l:=λi hi=>by
 obtain⟨e,hg,hc⟩:=h i hi;have hbl:=hb g (eG Aaa);exact⟨e,Aaa,λj hj=>⟨(World.cell?_of_block (w:=w) hbl).trans (hc j hj).1,(World.frozen?_of_block (w:=w) hbl).trans (hc j hj).2⟩⟩
theorem jd (h:w.ownsRow B t sz v k xs) (hb:∀x,v.ownBlock=some x->w'.heap[x]?=w.heap[x]?):w'.ownsRow B t sz v k xs:=by
 refine⟨h.1,?_⟩;rcases h.2 with hn|⟨g,cap,cur,rfl,hB,hgg,rest⟩
 .exact .inl hn
 .exact .inr ⟨g,cap,cur,rfl,hB,(hb g rfl).trans hgg,rest⟩
theorem kS (h:w.ownsRow B t sz v k xs) (hB:B'<=B):w.ownsRow B' t sz v k xs:=by
 refine⟨h.1,?_⟩;rcases h.2 with hn|⟨g,cap,cur,rfl,hBg,rest⟩
 .exact .inl hn
 .exact .inr ⟨g,cap,cur,rfl,Aaa,rest⟩
theorem Oh (h:iL w a g I l) (hs:w.heap.size<=w'.heap.size) (hb:∀x∈fp g l,w'.heap[x]?=w.heap[x]?) (hI:∀x∈wR I l,w'.heap[x]?=w.heap[x]?):iL w' a g I l:=by
 obtain⟨T,hT,hl,hr⟩:=h;refine⟨T,za hT hs (λx hx=>hb x (by have:=eD hx;rw [this.1];exact eG (by omega))),hl,λi hi=>?_⟩;obtain⟨b,c,ht,hi2⟩:=hr i hi;exact⟨b,c,ht,za hi2 hs (λx hx=>hI x (lV hi x hx))⟩
def CJ (s0 s1 s2 s4 s5 s6 x:Nat):Nat:=if x < s0 then 0 else if x < s1 then 1 else if x < s2 then 2 else if x < s4 then 3 else if x < s5 then 4 else if x < s6 then 5 else 6
theorem tV (n:Nd) (A:bV) (w:World) (hz:eX n 1048576) (ha:dx w A n):
 Calls prog 66 #[fQ n A] w λe w'=>∃A' G' c',e= .returned (fQ n A')/\NO w' w.heap.size n A' G' c'/\aI w w':=by
 have HZ:=Hq hz;have HA:=Hq ha;have hlo:=hz.o;have hls:=hz.s;have hlr:=hz.r;clear hz ha;go_in
 go_upto_region 1 with fail;refine wp_at (λW0 hW=>?_);obtain⟨e1,e2,e3⟩:=iA w (.cells (dH n A) 40) (.cells gN 40);rw [<-hW] at e1 e2 e3;have wW:=Hq e1;have NV:=Hq e2;have DZ:=Hq e3;have hsz0:=aA e2;clear hW e1 e2 e3;obtain⟨c0,c1,c2,c3,c4,c5,c6,c7,c8⟩:=nine wW;have alB:=aA wW;have aFq:=aj wW 2;go_wp2_with fail;refine(Bb A.k A.ck n.kids W0 (Nat.le_trans HZ.k Aaa) (GR.At.below HA.k DZ)).mono ?_;rintro e y ⟨vk,rfl,hrow,hby⟩;obtain⟨ak,ck,gk,rfl,hWk,hgk,_⟩:=GR.W.of_own (enc:=bf) aX hrow;clear hrow;have yU:=Hq hby;have hN1:=au wW hby;have f1:=aj hN1 2;have KT:=aA hN1;obtain⟨d0,d1,d2,d3,d4,d5,d6,d7,d8⟩:=nine hN1;clear c0 c1 c2 c3 c4 c5 c6 c7 c8 hby aFq;go_upto_region 2 with fail;refine wp_at (λW1 hW=>?_);have wX:Hid (W1.heap[w.heap.size]?=some (.cells (fP n.id n.par ak n.kids.length ck n.next A.p n.pu.length A.cp A.o n.out.length A.co A.s n.seen.length A.cs n.old A.r n.reqs.length A.cr) 40 (0,0))):=Acl
 have NW:Hid (W1.heap[w.heap.size+1]?=some (.cells gN 40 (0,0))):=by rw [hW];exact(Below.heap_setCell _ _ _ _ (show w.heap.size+1≠w.heap.size by omega)).trans (au NV yU)
 have D6:Hid (aI w W1):=by rw [hW];exact tu (Nat.le_refl _) (DZ.trans (yU.mono DZ.size))
 have Nw:Hid (aC [w.heap.size] W0 W1):=by rw [hW];exact keepsN yU
 have UY:Hid (aC [w.heap.size] y W1):=Abd
 clear hW hN1 f1 KT d0 d1 d2 d3 d4 d5 d6 d7 d8 wW NV;have HKW:Hid (GR.W bf 1 W1 ak gk n.kids/\∀x∈fp gk n.kids,W0.heap.size<=x/\x < W1.heap.size):=⟨hWk.keeps UY (λx hx=>by have:=(hgk x hx).1;simp;omega),λx hx=>⟨(hgk x hx).1,Nat.lt_of_lt_of_le (hgk x hx).2 UY.size⟩⟩;clear hWk hgk;obtain⟨c0,c1,c2,c3,c4,c5,c6,c7,c8⟩:=nine wX;have alC:=aA wX;have aFr:=aj wX 4;go_wp2_with fail;refine(Pp A.p A.cp n.pu W1 HZ.p HZ.pk (GR.At.below HA.p D6)).mono ?_;rintro e y ⟨ap,cp,gp,hgp,rfl,hWp,hby⟩;have yV:=Hq hby;have hN1:=au wX hby;have f1:=aj hN1 4;have KT:=aA hN1;obtain⟨d0,d1,d2,d3,d4,d5,d6,d7,d8⟩:=nine hN1;clear c0 c1 c2 c3 c4 c5 c6 c7 c8 hby aFr;go_upto_region 3 with fail;refine wp_at (λW2 hW=>?_);have wY:Hid (W2.heap[w.heap.size]?=some (.cells (fP n.id n.par ak n.kids.length ck n.next ap n.pu.length cp A.o n.out.length A.co A.s n.seen.length A.cs n.old A.r n.reqs.length A.cr) 40 (0,0))):=Acl
 have NY:Hid (W2.heap[w.heap.size+1]?=some (.cells gN 40 (0,0))):=by rw [hW];exact(Below.heap_setCell _ _ _ _ (show w.heap.size+1≠w.heap.size by omega)).trans (au NW yV)
 have D7:Hid (aI w W2):=by rw [hW];exact tu (Nat.le_refl _) (D6.trans (yV.mono D6.size))
 have IV:Hid (aC [w.heap.size] W1 W2):=by rw [hW];exact keepsN yV
 have UZ:Hid (aC [w.heap.size] y W2):=Abd
 clear hW hN1 f1 KT d0 d1 d2 d3 d4 d5 d6 d7 d8 wX NW
 have Gi:Hid (GR.W gB 4 W2 ap gp n.pu/\∀x∈fp gp n.pu,W1.heap.size<=x/\x < W2.heap.size):=by
  have hgy:=tN (show GR.W gB 4 y ap gp n.pu from hWp);have hs0:=Nw.size;refine⟨GR.W.keeps (show GR.W gB 4 y ap gp n.pu from hWp) UZ (λx hx=>by have:=(eD hx).1;simp;omega),λx hx=>⟨by have:=(eD hx).1;omega,Nat.lt_of_lt_of_le (hgy x hx) UZ.size⟩⟩
 clear hWp hgp;obtain⟨c0,c1,c2,c3,c4,c5,c6,c7,c8⟩:=nine wY;have alD:=aA wY;have aFs:=aj wY 5;go_wp2_with fail;refine(abu A.o A.co n.out W2 (Nat.le_trans HZ.o Aaa) (Ci _) (GR.At.below HA.o D7)).mono ?_;rintro e y ⟨vo,rfl,hrow,hby⟩;obtain⟨ao,co,rfl,_⟩:=GR.own_at (enc:=aV) (sz:=4) bQ hrow;have yX:=Hq hby;have hN1:=au wY hby;have f1:=aj hN1 5;have KT:=aA hN1;obtain⟨d0,d1,d2,d3,d4,d5,d6,d7,d8⟩:=nine hN1;clear c0 c1 c2 c3 c4 c5 c6 c7 c8 hby aFs;go_upto_region 4 with fail;refine wp_at (λW3 hW=>?_);have wZ:Hid (W3.heap[w.heap.size]?=some (.cells (fP n.id n.par ak n.kids.length ck n.next ap n.pu.length cp ao n.out.length co A.s n.seen.length A.cs n.old A.r n.reqs.length A.cr) 40 (0,0))):=Acl
 have N8:Hid (W3.heap[w.heap.size+1]?=some (.cells gN 40 (0,0))):=by rw [hW];exact(Below.heap_setCell _ _ _ _ (show w.heap.size+1≠w.heap.size by omega)).trans (au NY yX)
 have IL:Hid (aI w W3):=by rw [hW];exact tu (Nat.le_refl _) (D7.trans (yX.mono D7.size))
 have IW:Hid (aC [w.heap.size] W2 W3):=by rw [hW];exact keepsN yX
 have aae:Hid (aC [w.heap.size] y W3):=Abd
 clear hW hN1 f1 KT d0 d1 d2 d3 d4 d5 d6 d7 d8 wY NY;have HOW:Hid (W3.ownsRow W2.heap.size 91 4 (.slice ao n.out.length co) n.out.length (GR.flat aV n.out)):=dM hrow aae (λx hx=>by have:x=w.heap.size:=Aaf;omega);clear hrow;have alE:=aA wZ;obtain⟨c0,c1,c2,c3,c4,c5,c6,c7,c8⟩:=nine wZ;go_wp2_with fail;go_loopw [21] (λi wr=>∃k:Nat,k<=n.out.length/\i= .int .i64 k/\aI W3 wr) (λi _=>n.out.length - (intOf i).toNat)
 case atStart=>exact AZ
 case' round=>
  obtain⟨k,hk,rfl,hbw⟩:=hrel
  clear c0 c1 c2 c3 c4 c5 c6 c7 c8
  by_cases hlt:k < n.out.length
  case' pos=>
   have O9:(k:Int) < (n.out.length:Int):=Aaa
   have iR:=Hq hbw
   have Rp:=Hq (au wZ hbw)
   obtain⟨g,rest,e0,hBg,hgb⟩:=wG (GR.own_below HOW hbw) (show 0 < n.out.length by omega)
   have kH:=Hq hgb
   have q2:wr.cell? ⟨g,k*4+2,none⟩=some (.string n.out[k].k):=vJ bQ hgb k hlt 2 Aaa
   have hkk:n.out[k].k.size<=281474976710656:=Nat.le_trans (HZ.ok _ (List.getElem_mem hlt)) Aaa
   have jB:=Hq (λw1=>clone n.out[k].k w1 hkk)
   obtain⟨c0,c1,c2,c3,c4,c5,c6,c7,c8⟩:=nine Rp
   have hnr:=aA Rp
   have hgr:=aA hgb
   clear hbw hgb hkk
   subst e0
   generalize n.out[k].k=kx at *
   go_upto_region 7 with fail
   have y5:=cell_regrown c5
   have z2:=cell_regrown q2
   clear c0 c1 c2 c3 c4 c5 c6 c7 c8
   refine dD 12 Aab ?_
   show fC _ _ _ _ _ 13 (Array.replicate 13 false) _ _
   refine tk [0,1,2,3,4,5,6,7,8] ?_
   iterate 9 (refine uS (λK hK=>?_);go_simp;refine hK _ ?_;clear hK K)
   refine jK ?_
   clear y5 z2
   refine dV 9 rfl Aab Aad (λx hx=>?_)
   go_simp
   refine(jB x).mono ?_
   rintro e y ⟨rfl,hby⟩
   refine⟨hby,?_⟩
   have HY:=Hq (Ge.trans hx hby)
   clear hx hby jB
   refine tk [10,11] ?_
   iterate 2 (refine uS (λK hK=>?_);go_simp;refine hK _ ?_;clear hK K)
   refine jK ?_
   refine bH Aab (λx3 hx3=>?_)
   have Ru:=Hq (Ge.trans HY hx3)
   have GJ:=au kH Ru
   have q3:x3.cell? ⟨g,k*4+2,none⟩=some (.string kx):=(Ru.cell (p:=⟨g,k*4+2,none⟩) hgr).trans q2
   have f3:=aj GJ (k*4+2)
   have yT:=Hq (mQ GJ q3)
   clear hx3 GJ q2
   refine aH 12 rfl Aab Aad ?_
   go_simp
   refine wpAny_done Aab ?_
   go_simp
   clear q3 f3
   go_wp2_with fail
   go_roundw
   case rel=>exact ajX
   case measure=>simp[intOf];omega
  have hke:k=n.out.length:=Aaa
  subst hke
  have hnlt:decide ((n.out.length:Int) < (n.out.length:Int))=false:=Aac
  have iR:=Hq hbw
  clear hbw
  go_upto_region 9 with fail
  refine wp_at (λW4 hWW=>?_)
  subst hWW
  have yP:=Hq (au wZ iR)
  have UW:=Hq (au N8 iR)
  have D8:=Hq (IL.trans (iR.mono IL.size))
  have IX:Hid (aC [w.heap.size] W3 W4):=aC.of_below iR
  clear iR hnlt wZ N8 hlt
 obtain⟨T,hT,hAt,hT1,hTr⟩:=adh HA.s;have HTR:=Hq hTr;have HT:=Hq hT;have HC5:=aeP A.s A.cs T W4 (by rw [hT];omega) hT1 (GR.At.below hAt D8);rw [hT] at HC5;have HCS:=Hq HC5;clear hTr hAt hT1 HC5 hT;obtain⟨c0,c1,c2,c3,c4,c5,c6,c7,c8⟩:=nine yP;have alF:=aA yP;have aFt:=aj yP 6;go_wp2_with fail;refine HCS.mono ?_;rintro e y ⟨vs,rfl,hrow,hby⟩;have hrow2:=hrow;rw [<-ah HT] at hrow2;obtain⟨Zm,cs,hvs,_⟩:=GR.own_at (enc:=fV) (sz:=3) (l:=T) dK hrow2;rw [ah HT] at hvs;subst hvs;clear hrow2 HCS;have aaf:=Hq hby;have hN1:=au yP hby;have f1:=aj hN1 6;have KT:=aA hN1;obtain⟨d0,d1,d2,d3,d4,d5,d6,d7,d8⟩:=nine hN1;clear c0 c1 c2 c3 c4 c5 c6 c7 c8 hby aFt;go_upto_region 10 with fail;refine wp_at (λW5 hW=>?_);have UR:Hid (W5.heap[w.heap.size]?=some (.cells (fP n.id n.par ak n.kids.length ck n.next ap n.pu.length cp ao n.out.length co Zm n.seen.length cs n.old A.r n.reqs.length A.cr) 40 (0,0))):=Acl
 have ZX:Hid (W5.heap[w.heap.size+1]?=some (.cells gN 40 (0,0))):=by rw [hW];exact(Below.heap_setCell _ _ _ _ (show w.heap.size+1≠w.heap.size by omega)).trans (au UW aaf)
 have amG:Hid (aI w W5):=by rw [hW];exact tu (Nat.le_refl _) (D8.trans (aaf.mono D8.size))
 have IY:Hid (aC [w.heap.size] W4 W5):=by rw [hW];exact keepsN aaf
 have am6:Hid (aC [w.heap.size] y W5):=Abd
 clear hW hN1 f1 KT d0 d1 d2 d3 d4 d5 d6 d7 d8 yP UW;have HSW:Hid (W5.ownsRow W4.heap.size 110 3 (.slice Zm n.seen.length cs) n.seen.length (GR.flat fV T)):=dM hrow am6 (λx hx=>by have:x=w.heap.size:=Aaf;omega);clear hrow;have aF3:=aA UR;have aGS:=aA ZX;have aFO:=IY.size;have aFA:=D8.size;obtain⟨c0,c1,c2,c3,c4,c5,c6,c7,c8⟩:=nine UR;go_wp2_with fail;go_loopw [44] (λi wr=>∃(k:Nat) (T2:List R3) (I:Nat->Nat),k<=n.seen.length/\i= .int .i64 k/\SC w W5 wr W4.heap.size k n.seen T T2 I Zm cs) (λi _=>n.seen.length - (intOf i).toNat)
 case atStart=>exact⟨0,T,_,Nat.zero_le _,rfl,SC.start HT HSW⟩
 case' round=>
  obtain⟨k,T2,I,hk,rfl,hsc⟩:=hrel
  clear c0 c1 c2 c3 c4 c5 c6 c7 c8
  have HSC:=Hq hsc
  have cZ:=Hq (hsc.below (Nat.le_refl W4.heap.size) aFO)
  have hN4:w.heap.size+1 < W4.heap.size:=by have:=Nw.size;have:=IV.size;have:=IW.size;have:=IX.size;omega
  have Rp:Hid (wr.heap[w.heap.size]?=some (.cells (fP n.id n.par ak n.kids.length ck n.next ap n.pu.length cp ao n.out.length co Zm n.seen.length cs n.old A.r n.reqs.length A.cr) 40 (0,0))):=(cZ.block _ Aaa).trans UR
  have R5:Hid (wr.heap[w.heap.size+1]?=some (.cells gN 40 (0,0))):=(cZ.block _ Aaa).trans ZX
  have Zy:=Hq (amG.trans (cZ.mono aFA))
  clear hsc
  by_cases hlt:k < n.seen.length
  case' pos=>
   have O9:(k:Int) < (n.seen.length:Int):=Aaa
   obtain⟨b,cc,hTk,hIb⟩:=ah HTR k hlt
   have hk2:k < T2.length:=by rw [(ah HSC).len];exact hlt
   have ho2:=HSC.own
   rw [<-(ah HSC).len] at ho2
   obtain⟨g,rest,e0,hBg,hgb⟩:=wG ho2 (show 0 < T2.length by omega)
   have aCj:T2[k]=⟨n.seen[k].f,n.seen[k].l,.slice b n.seen[k].ids.length cc⟩:=by
    have:=HSC.up k (Nat.le_refl _);rw [List.getElem?_eq_getElem hk2,hTk] at this;exact Option.some.inj this
   have q2:wr.cell? ⟨g,k*3+2,none⟩=some (.slice b n.seen[k].ids.length cc):=by
    have:=vJ dK hgb k hk2 2 Aaa;rw [aCj] at this;exact this
   have hg5:g < W5.heap.size:=(HSW.lt g (by rw [e0];rfl)).2
   have jB:=Hq (λw1 (h1:aI wr w1)=>Bb b cc n.seen[k].ids w1 (Nat.le_trans (HZ.sk _ (List.getElem_mem hlt)) Aaa) (GR.At.below hIb (Zy.trans (h1.mono Zy.size))))
   have kH:=Hq hgb
   have iG:=Hq (λx b2 c2 g2 hx hi hl=>SC.next (x:=x) (b:=b2) (cc:=c2) (gi:=g2) HSC hlt e0 ⟨b,cc,hTk⟩ hx hg5 hi hl)
   obtain⟨c0,c1,c2,c3,c4,c5,c6,c7,c8⟩:=nine Rp
   have hnr:=aA Rp
   have hgr:=aA hgb
   clear hTk hIb ho2 hgb aCj
   subst e0
   generalize n.seen[k].ids=ids at *
   go_upto_region 13 with fail
   have y6:=cell_regrown c6
   have z2:=cell_regrown q2
   clear c0 c1 c2 c3 c4 c5 c6 c7 c8
   refine dD 12 Aab ?_
   show fC _ _ _ _ _ 13 (Array.replicate 13 false) _ _
   refine tk [0,1,2,3,4,5,6,7,8] ?_
   iterate 9 (refine uS (λK hK=>?_);go_simp;refine hK _ ?_;clear hK K)
   refine jK ?_
   clear y6 z2
   refine dV 9 rfl Aab Aad (λx hx=>?_)
   go_simp
   refine(jB x hx).mono ?_
   rintro e y ⟨v2,rfl,hrow,hby⟩
   refine⟨hby,?_⟩
   obtain⟨b2,c2,g2,rfl,hW2,hg2,_⟩:=GR.W.of_own (enc:=bf) aX hrow
   have HY:=Hq (Ge.trans hx hby)
   have HWI:=Hq (And.intro hW2 (λz (hz:z∈fp g2 ids)=>And.intro (Nat.le_trans hx.size (hg2 z hz).1) (hg2 z hz).2))
   clear hx hby jB hrow hW2 hg2
   refine tk [10,11] ?_
   iterate 2 (refine uS (λK hK=>?_);go_simp;refine hK _ ?_;clear hK K)
   refine jK ?_
   refine bH Aab (λx3 hx3=>?_)
   have Ru:=Hq (Ge.trans HY hx3)
   have HRL:=Hq (iG x3 b2 c2 g2 Ru (HWI.1.below hx3) (λz hz=>⟨(HWI.2 z hz).1,Nat.lt_of_lt_of_le (HWI.2 z hz).2 hx3.size⟩))
   have GJ:=au kH Ru
   have q3:x3.cell? ⟨g,k*3+2,none⟩=some (.slice b ids.length cc):=(Ru.cell (p:=⟨g,k*3+2,none⟩) hgr).trans q2
   have f3:=aj GJ (k*3+2)
   clear hx3 GJ q2 iG
   refine aH 12 rfl Aab Aad ?_
   go_simp
   refine wpAny_done Aab ?_
   go_simp
   clear q3 f3
   go_wp2_with fail
   go_roundw
   case rel=>exact⟨k+1,_,_,Aaa,Aah,HRL⟩
   case measure=>simp[intOf];omega
  have hke:k=n.seen.length:=Aaa
  subst hke
  have hnlt:decide ((n.seen.length:Int) < (n.seen.length:Int))=false:=Aac
  go_upto_region 15 with fail
  refine wp_at (λW6 hWW=>?_)
  subst hWW
  have NA:=Hq Rp
  have aga:=Hq R5
  have Zx:=Hq Zy
  have af0:=Hq cZ
  obtain⟨gs,hsn⟩:=HSC.done
  obtain⟨I6,hI6⟩:∃J,J=I:=⟨I,rfl⟩
  rw [<-hI6] at hsn
  have HSN:=Hq hsn
  clear hsn hI6 HSC Rp R5 Zy cZ hnlt UR ZX hlt
 obtain⟨c0,c1,c2,c3,c4,c5,c6,c7,c8⟩:=nine NA;have aF4:=aA NA;have aFu:=aj NA 8;go_wp2_with fail;refine(aeQ A.r A.cr n.reqs W6 (Nat.le_trans HZ.r Aaa) (iM _) (GR.At.below HA.r Zx)).mono ?_;rintro e y ⟨vr,rfl,hrow,hby⟩;obtain⟨ar,cr,rfl,_⟩:=GR.own_at (enc:=aJ) (sz:=4) aS hrow;have aag:=Hq hby;have hN1:=au NA hby;have f1:=aj hN1 8;have KT:=aA hN1;obtain⟨d0,d1,d2,d3,d4,d5,d6,d7,d8⟩:=nine hN1;clear c0 c1 c2 c3 c4 c5 c6 c7 c8 hby aFu;go_upto_region 16 with fail;refine wp_at (λW7 hW=>?_);have NC:Hid (W7.heap[w.heap.size]?=some (.cells (fP n.id n.par ak n.kids.length ck n.next ap n.pu.length cp ao n.out.length co Zm n.seen.length cs n.old ar n.reqs.length cr) 40 (0,0))):=Acl
 have agb:Hid (W7.heap[w.heap.size+1]?=some (.cells gN 40 (0,0))):=by rw [hW];exact(Below.heap_setCell _ _ _ _ (show w.heap.size+1≠w.heap.size by omega)).trans (au aga aag)
 have afW:Hid (aI w W7):=by rw [hW];exact tu (Nat.le_refl _) (Zx.trans (aag.mono Zx.size))
 have af2:Hid (aC [w.heap.size] W6 W7):=by rw [hW];exact keepsN aag
 have am7:Hid (aC [w.heap.size] y W7):=Abd
 clear hW hN1 f1 KT d0 d1 d2 d3 d4 d5 d6 d7 d8 NA aga;have HQW:Hid (W7.ownsRow W6.heap.size 95 4 (.slice ar n.reqs.length cr) n.reqs.length (GR.flat aJ n.reqs)):=dM hrow am7 (λx hx=>by have:x=w.heap.size:=Aaf;omega);clear hrow;have aF5:=aA NC;obtain⟨c0,c1,c2,c3,c4,c5,c6,c7,c8⟩:=nine NC;go_wp2_with fail;go_loopw [67] (λi wr=>∃k:Nat,k<=n.reqs.length/\i= .int .i64 k/\aI W7 wr) (λi _=>n.reqs.length - (intOf i).toNat)
 case atStart=>exact AZ
 case' round=>
  obtain⟨k,hk,rfl,hbw⟩:=hrel
  clear c0 c1 c2 c3 c4 c5 c6 c7 c8
  by_cases hlt:k < n.reqs.length
  case' pos=>
   have O9:(k:Int) < (n.reqs.length:Int):=Aaa
   have iR:=Hq hbw
   have Rp:=Hq (au NC hbw)
   obtain⟨g,rest,e0,hBg,hgb⟩:=wG (GR.own_below HQW hbw) (show 0 < n.reqs.length by omega)
   have kH:=Hq hgb
   have q2:wr.cell? ⟨g,k*4+1,none⟩=some (.string n.reqs[k].k):=vJ aS hgb k hlt 1 Aaa
   have hkk:n.reqs[k].k.size<=281474976710656:=Nat.le_trans (HZ.rk _ (List.getElem_mem hlt)) Aaa
   have jB:=Hq (λw1=>clone n.reqs[k].k w1 hkk)
   obtain⟨c0,c1,c2,c3,c4,c5,c6,c7,c8⟩:=nine Rp
   have hnr:=aA Rp
   have hgr:=aA hgb
   clear hbw hgb hkk
   subst e0
   generalize n.reqs[k].k=kx at *
   go_upto_region 19 with fail
   have y5:=cell_regrown c8
   have z2:=cell_regrown q2
   clear c0 c1 c2 c3 c4 c5 c6 c7 c8
   refine dD 12 Aab ?_
   show fC _ _ _ _ _ 13 (Array.replicate 13 false) _ _
   refine tk [0,1,2,3,4,5,6,7,8] ?_
   iterate 9 (refine uS (λK hK=>?_);go_simp;refine hK _ ?_;clear hK K)
   refine jK ?_
   clear y5 z2
   refine dV 9 rfl Aab Aad (λx hx=>?_)
   go_simp
   refine(jB x).mono ?_
   rintro e y ⟨rfl,hby⟩
   refine⟨hby,?_⟩
   have HY:=Hq (Ge.trans hx hby)
   clear hx hby jB
   refine tk [10,11] ?_
   iterate 2 (refine uS (λK hK=>?_);go_simp;refine hK _ ?_;clear hK K)
   refine jK ?_
   refine bH Aab (λx3 hx3=>?_)
   have Ru:=Hq (Ge.trans HY hx3)
   have GJ:=au kH Ru
   have q3:x3.cell? ⟨g,k*4+1,none⟩=some (.string kx):=(Ru.cell (p:=⟨g,k*4+1,none⟩) hgr).trans q2
   have f3:=aj GJ (k*4+1)
   have yT:=Hq (mQ GJ q3)
   clear hx3 GJ q2
   refine aH 12 rfl Aab Aad ?_
   go_simp
   refine wpAny_done Aab ?_
   go_simp
   clear q3 f3
   go_wp2_with fail
   go_roundw
   case rel=>exact ajX
   case measure=>simp[intOf];omega
  have hke:k=n.reqs.length:=Aaa
  subst hke
  have hnlt:decide ((n.reqs.length:Int) < (n.reqs.length:Int))=false:=Aac
  have iR:=Hq hbw
  clear hbw
  go_upto_region 21 with fail
  refine wp_at (λW8 hWW=>?_)
  subst hWW
  have af7:=Hq (au NC iR)
  have uH:=Hq (au agb iR)
  have amH:=Hq (afW.trans (iR.mono afW.size))
  have af3:Hid (aC [w.heap.size] W7 W8):=aC.of_below iR
  clear iR hnlt NC agb hlt
 obtain⟨c0,c1,c2,c3,c4,c5,c6,c7,c8⟩:=nine af7;obtain⟨d0,d1,d2,d3,d4,d5,d6,d7,d8⟩:=nine uH;have f0:=aj uH 0;have f1:=aj uH 1;have f2:=aj uH 2;have f3:=aj uH 3;have f4:=aj uH 4;have f5:=aj uH 5;have f6:=aj uH 6;have f7:=aj uH 7;have f8:=aj uH 8;have aF2:=aA af7;have aGd:=aA uH;go_wp2_with fail;refine aW (λW' hW'=>?_)
 have e4:W'.heap[w.heap.size+1]?=some (.cells (fP n.id n.par ak n.kids.length ck n.next ap n.pu.length cp ao n.out.length co Zm n.seen.length cs n.old ar n.reqs.length cr) 40 (0,0)):=by
  rw [hW'];exact GR.setW_blk (fP n.id n.par ak n.kids.length ck n.next ap n.pu.length cp ao n.out.length co Zm n.seen.length cs n.old ar n.reqs.length cr).toList (o:=0) (xs:=gN.toList) uH
 have hso:∀x,x≠w.heap.size+1->W'.heap[x]?=W8.heap[x]?:=λx hx=>by
  rw [hW']
  exact GR.setW_other hx (fP n.id n.par ak n.kids.length ck n.next ap n.pu.length cp ao n.out.length co Zm n.seen.length cs n.old ar n.reqs.length cr).toList (o:=0)
 have hsz:W8.heap.size=W'.heap.size:=by rw [hW'];simp[World.setCell]
 have HBE:Hid (aI w W'):=by
  rw [hW'];exact GR.setW_below Aaa (fP n.id n.par ak n.kids.length ck n.next ap n.pu.length cp ao n.out.length co Zm n.seen.length cs n.old ar n.reqs.length cr).toList (o:=0) amH
 clear hW' c0 c1 c2 c3 c4 c5 c6 c7 c8 d0 d1 d2 d3 d4 d5 d6 d7 d8 f0 f1 f2 f3 f4 f5 f6 f7 f8;obtain⟨c0,c1,c2,c3,c4,c5,c6,c7,c8⟩:=nine e4;have k1:=IV.size;have k2:=IW.size;have k3:=IX.size;have k4:=IY.size;have k5:=af0.size;have k6:=af2.size;have k7:=af3.size;have k0:=Nw.size;have b8:∀x,w.heap.size+1 < x->x < W7.heap.size->W'.heap[x]?=W7.heap[x]?:=λx h1 h2=>(hso x Aaa).trans (af3.block x h2 Aag)
 have b6:∀x,w.heap.size+1 < x->x < W6.heap.size->W'.heap[x]?=W6.heap[x]?:=λx h1 h2=>(b8 x h1 Aaa).trans (af2.block x h2 Aag)
 have b4:∀x,w.heap.size+1 < x->x < W4.heap.size->W'.heap[x]?=W4.heap[x]?:=λx h1 h2=>((b6 x h1 Aaa).trans (af0.block x h2)).trans (IY.block x h2 Aag)
 have b3:∀x,w.heap.size+1 < x->x < W3.heap.size->W'.heap[x]?=W3.heap[x]?:=λx h1 h2=>(b4 x h1 Aaa).trans (IX.block x h2 Aag)
 have b2:∀x,w.heap.size+1 < x->x < W2.heap.size->W'.heap[x]?=W2.heap[x]?:=λx h1 h2=>(b3 x h1 Aaa).trans (IW.block x h2 Aag)
 have b1:∀x,w.heap.size+1 < x->x < W1.heap.size->W'.heap[x]?=W1.heap[x]?:=λx h1 h2=>(b2 x h1 Aaa).trans (IV.block x h2 Aag)
 have oS:=HSW.lt;have oO:=HOW.lt;have oQ:=HQW.lt;obtain⟨sw,sg,si,snd⟩:=ah HSN
 have lI:Hid (NO W' w.heap.size n ⟨ak,ap,ao,Zm,ar,ck,cp,co,cs,cr⟩ ⟨gk,gp,0,gs,0,I6⟩ (CJ W0.heap.size W1.heap.size W2.heap.size W4.heap.size W5.heap.size W6.heap.size)):=by
  refine⟨za HKW.1 Aaa (λx hx=>b1 x (by have:=HKW.2 x hx;omega) (HKW.2 x hx).2),za Gi.1 Aaa (λx hx=>b2 x (by have:=Gi.2 x hx;omega) (Gi.2 x hx).2),kS (jd HOW (λx hx=>b3 x (by have:=oO x hx;omega) (oO x hx).2)) Aaa,Oh sw Aaa (λx hx=>b6 x (by have:=(sg x hx).1;omega) (by have:=oS x (sg x hx).2;omega)) (λx hx=>b6 x (by have:=si x hx;omega) (si x hx).2),kS (jd HQW (λx hx=>b8 x (by have:=oQ x hx;omega) (oQ x hx).2)) Aaa,λx hx=>?_,λx hx=>?_,λx hx=>?_,λx hx=>?_,λx hx=>?_,λx hx=>?_,λx hx=>?_,snd⟩
  .unfold CJ;rw [if_pos Aaa]
  .have:=HKW.2 x hx;unfold CJ;rw [if_neg Aaa,if_pos Aaa]
  .have:=Gi.2 x hx;unfold CJ;rw [if_neg Aaa,if_neg Aaa,if_pos Aaa]
  .have:=oO x hx;unfold CJ;rw [if_neg Aaa,if_neg Aaa,if_neg Aaa,if_pos Aaa]
  .have:=oS x (sg x hx).2;unfold CJ;rw [if_neg Aaa,if_neg Aaa,if_neg Aaa,if_neg Aaa,if_pos Aaa]
  .have:=si x hx;unfold CJ;rw [if_neg Aaa,if_neg Aaa,if_neg Aaa,if_neg Aaa,if_neg Aaa,if_pos Aaa]
  .have:=oQ x hx;unfold CJ;rw [if_neg Aaa,if_neg Aaa,if_neg Aaa,if_neg Aaa,if_neg Aaa,if_neg Aaa]
 clear e4 hso b8 b6 b4 b3 b2 b1 oS oO oQ sw sg si snd;exact bodyPost_ret (v:= .agg (fP n.id n.par ak n.kids.length ck n.next ap n.pu.length cp ao n.out.length co Zm n.seen.length cs n.old ar n.reqs.length cr)) (by simp[results,results66,go_sem,c0,c1,c2,c3,c4,c5,c6,c7,c8]) rfl ⟨⟨ak,ap,ao,Zm,ar,ck,cp,co,cs,cr⟩,_,_,rfl,lI,HBE⟩
theorem NO.base (h:NO w B n A G c) (hB:B'<=B):NO w B' n A G c:=
 ⟨h.k,h.p,kS h.o hB,h.s,kS h.r hB,λx hx=>h.lo x Aaa,h.ck,h.cp,h.co,h.c4,h.ci,h.cr,h.ni⟩
theorem gI (w:World) (a b d:Obj):(((w.alloc a).alloc b).alloc d).heap[w.heap.size]?=some a/\(((w.alloc a).alloc b).alloc d).heap[w.heap.size+1]?=some b/\(((w.alloc a).alloc b).alloc d).heap[w.heap.size+2]?=some d/\Below w.heap.size w (((w.alloc a).alloc b).alloc d):=zh w a b d
theorem O4 (z:Int):∀(l:List Rq) (i:Nat) (hi:i < l.length),(GR.flat aJ l).set (i*4+3) (.int .i64 z)=GR.flat aJ (l.set i ⟨l[i].no,l[i].k,l[i].n,z⟩):=by
 intro l;induction l with
 |nil=>intro i hi;simp at hi
 |cons x r ih=>
  intro i hi;cases i with
  |zero=>rfl
  |succ i=>
   have hi2:i < r.length:=Aap
   have h1:=ih i hi2;show(aJ x++GR.flat aJ r).set ((i+1)*4+3) (.int .i64 z)=aJ x++GR.flat aJ (r.set i ⟨r[i].no,r[i].k,r[i].n,z⟩)
   rw [<-h1,List.set_append_right _ _ (by show 4<=_;omega)];congr 2
   show(i+1)*4+3 - 4=_
   omega
theorem tK (s:jw):∀u∈aV s,u.oneCell'=true:=by
 intro u hu;simp only[aV,List.mem_cons,List.not_mem_nil,or_false] at hu;rcases hu with rfl|rfl|rfl|rfl<;>rfl
theorem Bd (k:ByteArray) (m f s:Int) (w:World):(Instr.field 108 (.agg (iZ k m f s)) 2).run prog w= .ok (.int .i64 f) w:=Aab
theorem Lp:(prog.info? 91).map (λi=>(i.zero,i.size,i.bytes))=some (some (.agg (fA 0 0 ByteArray.empty 0)),4,40):=Aab
theorem aeZ {h:Nat} {u:Value} (hne:g≠h) (e:w.cell? ⟨h,i,none⟩=some u):
 (((((((((w.setCell ⟨g,0,none⟩ b0).setCell ⟨g,1,none⟩ b1).setCell ⟨g,2,none⟩ b2).setCell ⟨g,3,none⟩ b3).setCell ⟨g,4,none⟩ b4).setCell ⟨g,5,none⟩ b5).setCell ⟨g,6,none⟩ b6).setCell ⟨g,7,none⟩ b7).setCell ⟨g,8,none⟩ b8).cell? ⟨h,i,none⟩=some u:=by
 rw [World.cell?_setCell_far _ _ _ _ hne,World.cell?_setCell_far _ _ _ _ hne,World.cell?_setCell_far _ _ _ _ hne,World.cell?_setCell_far _ _ _ _ hne,World.cell?_setCell_far _ _ _ _ hne,World.cell?_setCell_far _ _ _ _ hne,World.cell?_setCell_far _ _ _ _ hne,World.cell?_setCell_far _ _ _ _ hne,World.cell?_setCell_far _ _ _ _ hne];exact e
theorem Jg {l:List Pu} {key:ByteArray} {dm df ds n:Int} (h:(dJ l key dm df ds n).2=false):(dJ l key dm df ds n).1=l:=by
 exact aj0
theorem F8 (hi:i < n.seen.length) (e:iE n.seen m.F=i) (hs:n.seen[i]=s0) (h:rM s0 m.L m.I=false) (hg:lW n s0 m=true):takeN n m=(dP (setPu n (dJ n.pu m.k 0 1 0 m.N).1) (n.seen.set i ⟨m.F,fJ s0 m.L,lN (bg s0 m.L) m.I⟩),true):=by
 subst e hs;unfold takeN;rw [DW hi,if_neg (by rw [h];simp),if_pos hg]
theorem JY (hi:i < n.seen.length) (e:iE n.seen m.F=i) (hs:n.seen[i]=s0) (h:rM s0 m.L m.I=true):takeN n m=(dP n (n.seen.set i ⟨m.F,fJ s0 m.L,bg s0 m.L⟩),true):=by
 subst e hs;unfold takeN;rw [DW hi,if_pos h]
theorem Q7 (hi:i < n.seen.length) (e:iE n.seen m.F=i) (hs:n.seen[i]=s0) (h:rM s0 m.L m.I=false) (hg:lW n s0 m=false):takeN n m=(dP n (n.seen.set i ⟨m.F,fJ s0 m.L,bg s0 m.L⟩),false):=by
 subst e hs;unfold takeN;rw [DW hi,if_neg (by rw [h];simp),if_neg (by rw [hg];simp)]
theorem tC (h:Below B w X) (hg:B<=g):
 Below B w (((((((((X.setCell ⟨g,0,none⟩ b0).setCell ⟨g,1,none⟩ b1).setCell ⟨g,2,none⟩ b2).setCell ⟨g,3,none⟩ b3).setCell ⟨g,4,none⟩ b4).setCell ⟨g,5,none⟩ b5).setCell ⟨g,6,none⟩ b6).setCell ⟨g,7,none⟩ b7).setCell ⟨g,8,none⟩ b8):=
 ((((((((h.setCell (p:=⟨g,0,none⟩) hg b0).setCell (p:=⟨g,1,none⟩) hg b1).setCell (p:=⟨g,2,none⟩) hg b2).setCell (p:=⟨g,3,none⟩) hg b3).setCell (p:=⟨g,4,none⟩) hg b4).setCell (p:=⟨g,5,none⟩) hg b5).setCell (p:=⟨g,6,none⟩) hg b6).setCell (p:=⟨g,7,none⟩) hg b7).setCell (p:=⟨g,8,none⟩) hg b8
theorem uY {a0 a1 a2 a3 a4 a5 a6 a7 a8:Value} (h:X.heap[g]?=some (.cells #[a0,a1,a2,a3,a4,a5,a6,a7,a8] t (0,0))):
 (((((((((X.setCell ⟨g,0,none⟩ b0).setCell ⟨g,1,none⟩ b1).setCell ⟨g,2,none⟩ b2).setCell ⟨g,3,none⟩ b3).setCell ⟨g,4,none⟩ b4).setCell ⟨g,5,none⟩ b5).setCell ⟨g,6,none⟩ b6).setCell ⟨g,7,none⟩ b7).setCell ⟨g,8,none⟩ b8).heap[g]?=some (.cells #[b0,b1,b2,b3,b4,b5,b6,b7,b8] t (0,0)):=by
 have h0:(X.setCell ⟨g,0,none⟩ b0).heap[g]?=some (.cells #[b0,a1,a2,a3,a4,a5,a6,a7,a8] t (0,0)):=aR h 0 b0;have h1:((X.setCell ⟨g,0,none⟩ b0).setCell ⟨g,1,none⟩ b1).heap[g]?=some (.cells #[b0,b1,a2,a3,a4,a5,a6,a7,a8] t (0,0)):=aR h0 1 b1;have h2:(((X.setCell ⟨g,0,none⟩ b0).setCell ⟨g,1,none⟩ b1).setCell ⟨g,2,none⟩ b2).heap[g]?=some (.cells #[b0,b1,b2,a3,a4,a5,a6,a7,a8] t (0,0)):=aR h1 2 b2;have h3:((((X.setCell ⟨g,0,none⟩ b0).setCell ⟨g,1,none⟩ b1).setCell ⟨g,2,none⟩ b2).setCell ⟨g,3,none⟩ b3).heap[g]?=some (.cells #[b0,b1,b2,b3,a4,a5,a6,a7,a8] t (0,0)):=aR h2 3 b3;have h4:(((((X.setCell ⟨g,0,none⟩ b0).setCell ⟨g,1,none⟩ b1).setCell ⟨g,2,none⟩ b2).setCell ⟨g,3,none⟩ b3).setCell ⟨g,4,none⟩ b4).heap[g]?=some (.cells #[b0,b1,b2,b3,b4,a5,a6,a7,a8] t (0,0)):=aR h3 4 b4;have h5:((((((X.setCell ⟨g,0,none⟩ b0).setCell ⟨g,1,none⟩ b1).setCell ⟨g,2,none⟩ b2).setCell ⟨g,3,none⟩ b3).setCell ⟨g,4,none⟩ b4).setCell ⟨g,5,none⟩ b5).heap[g]?=some (.cells #[b0,b1,b2,b3,b4,b5,a6,a7,a8] t (0,0)):=aR h4 5 b5;have h6:(((((((X.setCell ⟨g,0,none⟩ b0).setCell ⟨g,1,none⟩ b1).setCell ⟨g,2,none⟩ b2).setCell ⟨g,3,none⟩ b3).setCell ⟨g,4,none⟩ b4).setCell ⟨g,5,none⟩ b5).setCell ⟨g,6,none⟩ b6).heap[g]?=some (.cells #[b0,b1,b2,b3,b4,b5,b6,a7,a8] t (0,0)):=aR h5 6 b6;have h7:((((((((X.setCell ⟨g,0,none⟩ b0).setCell ⟨g,1,none⟩ b1).setCell ⟨g,2,none⟩ b2).setCell ⟨g,3,none⟩ b3).setCell ⟨g,4,none⟩ b4).setCell ⟨g,5,none⟩ b5).setCell ⟨g,6,none⟩ b6).setCell ⟨g,7,none⟩ b7).heap[g]?=some (.cells #[b0,b1,b2,b3,b4,b5,b6,b7,a8] t (0,0)):=aR h6 7 b7;have h8:(((((((((X.setCell ⟨g,0,none⟩ b0).setCell ⟨g,1,none⟩ b1).setCell ⟨g,2,none⟩ b2).setCell ⟨g,3,none⟩ b3).setCell ⟨g,4,none⟩ b4).setCell ⟨g,5,none⟩ b5).setCell ⟨g,6,none⟩ b6).setCell ⟨g,7,none⟩ b7).setCell ⟨g,8,none⟩ b8).heap[g]?=some (.cells #[b0,b1,b2,b3,b4,b5,b6,b7,b8] t (0,0)):=aR h7 8 b8;exact h8
theorem pV:
 aC [g] X (((((((((X.setCell ⟨g,0,none⟩ b0).setCell ⟨g,1,none⟩ b1).setCell ⟨g,2,none⟩ b2).setCell ⟨g,3,none⟩ b3).setCell ⟨g,4,none⟩ b4).setCell ⟨g,5,none⟩ b5).setCell ⟨g,6,none⟩ b6).setCell ⟨g,7,none⟩ b7).setCell ⟨g,8,none⟩ b8):=
 (((((((((aC.set b0).trans (aC.set b1)).trans (aC.set b2)).trans (aC.set b3)).trans (aC.set b4)).trans (aC.set b5)).trans (aC.set b6)).trans (aC.set b7)).trans (aC.set b8))
theorem NO.keepsN (h:NO w B n A G c) (hg:g < B) (hk:aC [g] w X):NO X B n A G c:=by
 have hc:KC c 0 w X:=KC.keeps hk (λx hx=>by rw [List.mem_singleton.1 hx];exact h.lo g hg);exact⟨hc.w h.k h.ck Aaa,hc.w h.p h.cp Aaa,hc.own h.o h.co Aaa,hc.seen h.s h.c4 h.ci Aaa Aaa,hc.own h.r h.cr Aaa,h.lo,h.ck,h.cp,h.co,h.c4,h.ci,h.cr,h.ni⟩
theorem oh (w:World) (base:Nat) (t ty e:TypeId) (i:TypeInfo) (size:Nat) (ht:P.underlying t=some (.slice e)) (hi:P.info? e=some i) (v:Value) (n:Nat) (xs:List Value) (hown:w.ownsRow base e size v n xs) (a:Option Addr) (c:Nat):
 (Builtin.append_ #[t,t] ty #[v,.slice a 0 c]).run P w= .ok v w:=by
 rcases hown.2 with⟨rfl,rfl⟩|⟨g,cap,cur,rfl,_,_,hnc,_⟩
 .cases a<;>simp[Builtin.append_,run_underlying ht,sizeOf,typeInfo,hi,Builtin.lenOf,Builtin.firstCells,loadCells,loadCellsFrom]
 .cases a<;>simp[Builtin.append_,run_underlying ht,sizeOf,typeInfo,hi,Builtin.lenOf,Builtin.firstCells,loadCells,loadCellsFrom,hnc,storeCells]
theorem fE (hs:∀x,(enc x).length=sz) (hz:0 < sz) (w:World) (base:Nat) (t ty e:TypeId) (i:TypeInfo) (z:Value) (bytes:Nat) (ht:P.underlying t=some (.slice e)) (hi:P.info? e=some i) (hz0:i.zero=some z) (hsize:i.size=sz) (hby:i.bytes=bytes) (hzs:z.cells.size=sz) (v:Value) (n:Nat) (xs:List Value) (hown:w.ownsRow base e sz v n xs) (a:Option Addr) (l:List α) (c:Nat) (ha:GR.At enc sz w a l) (h1:∀u∈GR.flat enc l,u.oneCell'=true) (h63:n+l.length<=maxLen) (hbytes:(n+l.length)*bytes<=140737488355328) (hbase:base<=w.heap.size):
 ∃v' w',(Builtin.append_ #[t,t] ty #[v,.slice a l.length c]).run P w= .ok v' w'/\w'.ownsRow base e sz v' (n+l.length) (xs++GR.flat enc l)/\w.grownBy w' v.ownBlock/\∀x,v'.ownBlock=some x->v.ownBlock=some x\/w.heap.size<=x:=by
 by_cases hl:l.length=0
 .have hn:l=[]:=List.eq_nil_of_length_eq_zero hl;subst hn;exact⟨v,w,oh w base t ty e i sz ht hi v n xs hown a c,by simpa [GR.flat] using hown,World.grownBy.refl _ _,λx hx=> .inl hx⟩
 .obtain⟨g,off,rfl,_⟩:=ha 0 Aaa;exact gJ w base t ty e i z sz bytes ht hi hz0 hsize hby hzs hz v n xs hown ⟨g,off,none⟩ l.length c (GR.flat enc l) (GR.flat_length enc sz hs l) (JB hs hz ha) h1 h63 hbytes hbase
theorem run_copy_row (hs:∀x,(enc x).length=sz) (hz:0 < sz) (w:World) (t e:TypeId) (i:TypeInfo) (z:Value) (bytes:Nat) (ht:P.underlying t=some (.slice e)) (hi:P.info? e=some i) (hz0:i.zero=some z) (hsize:i.size=sz) (hby:i.bytes=bytes) (hzs:z.cells.size=sz) (a:Option Addr) (l:List α) (c:Nat) (ha:GR.At enc sz w a l) (h1:∀u∈GR.flat enc l,u.oneCell'=true) (h63:l.length<=maxLen) (hbytes:l.length*bytes<=140737488355328):
 ∃a' c' w',(∀ty,(Builtin.append_ #[t,t] ty #[.slice (some ⟨w.heap.size,0,none⟩) 0 0,.slice a l.length c]).run P (w.alloc (.cells #[] e))= .ok (.slice a' l.length c') w')/\w'.ownsRow w.heap.size e sz (.slice a' l.length c') l.length (GR.flat enc l)/\aI w w'/\(∃g,a'=some ⟨g,0,none⟩)/\l.length<=c':=by
 open aye in exact ahG
theorem Ht (hs:∀x,(enc x).length=sz) (hz:0 < sz) (w:World) (t e:TypeId) (i:TypeInfo) (z:Value) (bytes:Nat) (ht:P.underlying t=some (.slice e)) (hi:P.info? e=some i) (hz0:i.zero=some z) (hsize:i.size=sz) (hby:i.bytes=bytes) (hzs:z.cells.size=sz) (a:Option Addr) (l:List α) (c:Nat) (ha:GR.At enc sz w a l) (h1:∀u∈GR.flat enc l,u.oneCell'=true) (h63:l.length<=maxLen) (hbytes:l.length*bytes<=140737488355328):
 ∃a' c' w',(∀ty,(Builtin.append_ #[t,t] ty #[.slice (some ⟨w.heap.size,0,none⟩) 0 0,.slice a l.length c]).run P (w.alloc (.cells #[] e))= .ok (.slice a' l.length c') w')/\w'.ownsRow w.heap.size e sz (.slice a' l.length c') l.length (GR.flat enc l)/\aI w w'/\(l=[]->c'=0):=by
 by_cases hl0:l.length=0
 .have hn:l=[]:=List.eq_nil_of_length_eq_zero hl0;subst hn;open ayd in exact ahG
 .obtain⟨a',c',w',q1,q2,q3,_⟩:=run_copy_row hs hz w t e i z bytes ht hi hz0 hsize hby hzs a l c ha h1 h63 hbytes;exact⟨a',c',w',q1,q2,q3,λe=>absurd (by rw [e];rfl) hl0⟩
theorem gK {ops:Array Oper} {rest:List Oper} {o:Oper} {a:Act} {Q:Exit->Act->World->Prop} (hgd:o.guard=none) (s x:Operand) (t:TypeId)
 (ho:o.op= .call {callee:= .builtin .append,args:=#[s,x],argTypes:=#[t,t]}) (vs vx:Value) (hs:a.eval s=vs) (hx:a.eval x=vx) (v':Value) (w':World) (hrun:(Builtin.append_ #[t,t] o.type #[vs,vx]).run P w= .ok v' w')
 (h:wpList P ops Q rest (a.put o.dst v') w'):wpList P ops Q (o::rest) a w:=by
 refine wpList_plain hgd λK hK=>?_
 unfold Oper.wp;simp[execOp,ho,resolve,invoke,builtin,hs,hx,hrun,Result.andThen];exact hK _ _ h
end Go.Proofs.YtohmklmkjmlpjaaGreatDoor
