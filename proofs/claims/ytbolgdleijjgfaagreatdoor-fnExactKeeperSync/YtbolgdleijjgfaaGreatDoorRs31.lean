/- Parts. -/
import Derived.Test.YtbolgdleijjgfaaGreatDoorRs28
import Derived.Test.YtbolgdleijjgfaaGreatDoorRs29
import Derived.Test.YtbolgdleijjgfaaGreatDoorRs9
namespace Go.Proofs.YtbolgdleijjgfaaGreatDoor
open Go.Proofs.Tryz
set_option maxHeartbeats 8000000
set_option maxRecDepth 100000
open Go.RowKit
open Mth
variable {w X Y W5 wr w' W:World} {B g k i sz cs nb B':Nat} {v b0 b1 b2 b3 b4 b5 b6 b7 b8:Value} {a:Option Addr} {l:List Sn} {t:TypeId} {T T2:List R3} {I c:Nat->Nat} {xs:List Value} {n:Nd} {A:bq} {G:aK}
theorem keepsN (hb:aH X Y):aA [nb] X (Y.setCell ⟨nb,i,none⟩ v):=(aA.of_below hb).trans (aA.set v)
theorem aku (hn:w.heap.size<=nb) (hb:aH w Y):Below w.heap.size w (Y.setCell ⟨nb,i,none⟩ v):=hb.setCell (p:=⟨nb,i,none⟩) hn v
theorem Dl {cs:Array Value} (h:Y.heap[nb]?=some (.cells cs 39 (0,0))):(Y.setCell ⟨nb,i,none⟩ v).heap[nb]?=some (.cells (cs.setIfInBounds i v) 39 (0,0)):=aN h i v
theorem cpy {y W':World} {p:Nat} {cs cs':Array Value} (hW:W'=y.setCell ⟨p,i,none⟩ v) (hN:Hid (W.heap[p]?=some (.cells cs 39 (0,0)))) (hB:Hid (aH w W)) (hy:Hid (aH W y)) (hp:w.heap.size<=p) (e:cs.setIfInBounds i v=cs'):
 Hid (W'.heap[p]?=some (.cells cs' 39 (0,0)))/\Hid (aH w W')/\Hid (aA [p] W W')/\Hid (aA [p] y W'):=by
 subst hW e;exact⟨Dl (aj hN hy),aku hp (hB.trans (hy.mono hB.size)),keepsN hy,aA.set _⟩
theorem dD {F:List Nat} (h:Y.ownsRow B t sz v k xs) (hk:aA F Y W) (hd:∀x∈F,x < B):W.ownsRow B t sz v k xs:=by
 refine⟨h.1,?_⟩;rcases h.2 with hn|⟨g,cap,cur,rfl,hb,hgg,rest⟩
 .exact .inl hn
 .exact .inr ⟨g,cap,cur,rfl,hb,hk.obj hgg (λhm=>by have:=hd g hm;omega),rest⟩
theorem abJ (u:Value):∀(l:List R3) (i:Nat) (hi:i < l.length),(GR.flat eP l).set (i*3+2) u=GR.flat eP (l.set i ⟨l[i].f,l[i].l,u⟩):=by
 intro l;induction l with
 |nil=>intro i hi;simp at hi
 |cons x r ih=>
  intro i hi;cases i with
  |zero=>rfl
  |succ i=>
   have hi2:i < r.length:=Aas
   have h1:=ih i hi2;show(eP x++GR.flat eP r).set ((i+1)*3+2) u=eP x++GR.flat eP (r.set i ⟨r[i].f,r[i].l,u⟩)
   rw [<-h1,aGb _ _ (by show 3<=_;omega)];congr 2
   show(i+1)*3+2 - 3=_
   omega
structure SC (w W5 wr:World) (B k:Nat) (l:List Sn) (T T2:List R3) (I:Nat->Nat) (a:Option Addr) (cs:Nat):Prop where
 len:T2.length=l.length
 own:wr.ownsRow B 130 3 (.slice a l.length cs) l.length (GR.flat eP T2)
 dn:∀i (hi:i < l.length),i < k->∃b c,T2[i]?=some ⟨l[i].f,l[i].l,.slice b l[i].ids.length c⟩/\GR.W bf 1 wr b (I i) l[i].ids/\∀x∈fp (I i) l[i].ids,W5.heap.size<=x/\x < wr.heap.size
 up:∀i,k<=i->T2[i]?=T[i]?
 nd:∀i j (hi:i < l.length) (hj:j < l.length),i < j->j < k->0 < l[i].ids.length->0 < l[j].ids.length->I i≠I j
 gr:W5.grownBy wr (Value.slice a l.length cs).ownBlock
theorem SC.start (hT:T.length=l.length) (ho:W5.ownsRow B 130 3 (.slice a l.length cs) l.length (GR.flat eP T)):SC w W5 W5 B 0 l T T (λ_=>0) a cs:=
 ⟨hT,ho,λi _ h=>Aaa,λ_ _=>rfl,λi j _ _ _ h=>Aaa,World.grownBy.refl _ _⟩
theorem SC.next {x:World} {gi cc:Nat} {b:Option Addr} (h:SC w W5 wr B k l T T2 I a cs) (hk:k < l.length) (ha:a=some ⟨g,0,none⟩) (hT:∃b c,T[k]?=some ⟨l[k].f,l[k].l,.slice b l[k].ids.length c⟩) (hx:aH wr x) (hg5:g < W5.heap.size) (hi:GR.W bf 1 x b gi l[k].ids) (hlt:∀z∈fp gi l[k].ids,wr.heap.size<=z/\z < x.heap.size):SC w W5 (x.setCell ⟨g,k*3+2,none⟩ (.slice b l[k].ids.length cc)) B (k+1) l T (T2.set k ⟨l[k].f,l[k].l,.slice b l[k].ids.length cc⟩) (λi=>if i=k then gi else I i) a cs:=by
 subst ha;have hk2:k < T2.length:=by rw [h.len];exact hk
 have hTk:∃b c,T2[k]=⟨l[k].f,l[k].l,.slice b l[k].ids.length c⟩:=by
  obtain⟨b',c',e⟩:=hT;refine⟨b',c',?_⟩;have:=h.up k (aEM _);rw [aEQ hk2,e] at this;exact aFD this
 have hgs:x.heap.size=(x.setCell ⟨g,k*3+2,none⟩ (.slice b l[k].ids.length cc)).heap.size:=Aaq
 have hkp:aA [g] x (x.setCell ⟨g,k*3+2,none⟩ (.slice b l[k].ids.length cc)):=aA.set _;have hws:=h.gr.size;have hxs:=hx.size;refine⟨by rw [aF1];exact h.len,?_,λi hi' hik=>?_,λi hik=>?_,λi j hi' hj hij hjk h1 h2=>?_,?_⟩
 .have ho:=GR.own_below h.own hx;have hst:=(ho.stored (k*3+2) (.slice b l[k].ids.length cc)).1;rw [abJ _ T2 k hk2] at hst;obtain⟨b',c',e⟩:=hTk;rw [e] at hst;exact hst
 .by_cases e:i=k
  .subst e;refine⟨b,cc,by rw [aGr hk2],?_,?_⟩
   .rw [aE7 rfl];exact hi.keeps hkp (λz hz hm=>by have:=(hlt z hz).1;have:z=g:=Aay;omega)
   .rw [aE7 rfl];exact λz hz=>⟨by have:=(hlt z hz).1;omega,by rw [<-hgs];exact(hlt z hz).2⟩
  .obtain⟨b',c',e1,e2,e3⟩:=h.dn i hi' Aaa;refine⟨b',c',by rw [aF5 Aaa];exact e1,?_,?_⟩
   .rw [aEX e];exact(e2.below hx).keeps hkp (λz hz hm=>by have:=(e3 z hz).1;have:z=g:=Aay;omega)
   .rw [aEX e];exact λz hz=>⟨(e3 z hz).1,by rw [<-hgs];have:=(e3 z hz).2;omega⟩
 .rw [aF5 Aaa];exact h.up i Aaa
 .by_cases ej:j=k
  .subst ej;rw [aEX Aaa,aE7 rfl];obtain⟨_,_,_,_,e3⟩:=h.dn i hi' Aaa;have q1:=(e3 (I i) (dB h1)).2;have q2:=(hlt gi (dB h2)).1;omega
  .exact ai3
 .refine h.gr.andThen (row':=some g) ⟨hx.os,hx.tape,hx.output,by rw [<-hgs];exact hx.size,λz hz hne=>?_⟩ (λj hj=> .inr (by cases hj;rfl));rw [aE9 _ _ _ _ (λe=>hne Aap)];exact hx.block z hz
theorem SC.done (h:SC w W5 wr B l.length l T T2 I a cs):∃g,dZ wr a g I l/\(∀x∈fp g l,B<=x/\(Value.slice a l.length cs).ownBlock=some x)/\(∀x∈mX I l,W5.heap.size<=x/\x < wr.heap.size)/\(mX I l).Nodup:=by
 open atD in exact agV
theorem SC.below (h:SC w W5 wr B k l T T2 I a cs) {C:Nat} (hC:C<=B) (hs:C<=W5.heap.size):Below C W5 wr:=
 ⟨h.gr.os,h.gr.tape,h.gr.output,h.gr.size,λx hx=>h.gr.block x Aaa (λe=>by have:=(h.own.lt x e.symm).1;omega)⟩
theorem zR {α:Type} {enc:α->List Value} {l:List α} (h:GR.W enc sz w a g l) (hs:w.heap.size<=w'.heap.size) (hb:∀x∈fp g l,w'.heap[x]?=w.heap[x]?):GR.W enc sz w' a g l:=λi hi=>by
 obtain⟨e,hg,hc⟩:=h i hi;have hbl:=hb g (dB Aaa);exact⟨e,Aaa,λj hj=>⟨(aFq (w:=w) hbl).trans (hc j hj).1,(aGp (w:=w) hbl).trans (hc j hj).2⟩⟩
theorem jA (h:w.ownsRow B t sz v k xs) (hb:∀x,v.ownBlock=some x->w'.heap[x]?=w.heap[x]?):w'.ownsRow B t sz v k xs:=by
 refine⟨h.1,?_⟩;rcases h.2 with hn|⟨g,cap,cur,rfl,hB,hgg,rest⟩
 .exact .inl hn
 .exact .inr ⟨g,cap,cur,rfl,hB,(hb g rfl).trans hgg,rest⟩
theorem lu (h:w.ownsRow B t sz v k xs) (hB:B'<=B):w.ownsRow B' t sz v k xs:=by
 refine⟨h.1,?_⟩;rcases h.2 with hn|⟨g,cap,cur,rfl,hBg,rest⟩
 .exact .inl hn
 .exact .inr ⟨g,cap,cur,rfl,Aaa,rest⟩
theorem OJ (h:dZ w a g I l) (hs:w.heap.size<=w'.heap.size) (hb:∀x∈fp g l,w'.heap[x]?=w.heap[x]?) (hI:∀x∈mX I l,w'.heap[x]?=w.heap[x]?):dZ w' a g I l:=by
 obtain⟨T,hT,hl,hr⟩:=h;refine⟨T,zR hT hs (λx hx=>hb x (by have:=cu hx;rw [this.1];exact dB (by omega))),hl,λi hi=>?_⟩;obtain⟨b,c,ht,hi2⟩:=hr i hi;exact⟨b,c,ht,zR hi2 hs (λx hx=>hI x (jw hi x hx))⟩
def Du (s0 s1 s2 s4 s5 s6 x:Nat):Nat:=if x < s0 then 0 else if x < s1 then 1 else if x < s2 then 2 else if x < s4 then 3 else if x < s5 then 4 else if x < s6 then 5 else 6
theorem uO (n:Nd) (A:bq) (w:World) (hz:eF n 1048576) (ha:bY w A n):
 Calls prog 58 #[gM n A] w λe w'=>∃A' G' c',e= .returned (gM n A')/\NO w' w.heap.size n A' G' c'/\aH w w':=by
 have HZ:=Hq hz;have HA:=Hq ha;have hlo:=hz.o;have hls:=hz.s;have hlr:=hz.r;clear hz ha;go_in
 go_upto_region 1 with fail;refine wp_at (λW0 hW=>?_);obtain⟨e1,e2,e3⟩:=fU w (.cells (dH n A) 39) (.cells kR 39);rw [<-hW] at e1 e2 e3;have vY:=Hq e1;have OC:=Hq e2;have Oi:=Hq e3;have hsz0:=ay e2;clear hW e1 e2 e3;obtain⟨c0,c1,c2,c3,c4,c5,c6,c7,c8⟩:=nine vY;have akV:=ay vY;have aBW:=aC vY 2;go_wp2_with fail;refine(BR A.k A.ck n.kids W0 (aEP HZ.k Aaa) (GR.At.below HA.k Oi)).mono ?_;rintro e y ⟨vk,rfl,hrow,hby⟩;obtain⟨ak,ck,gk,rfl,hWk,hgk,_⟩:=GR.W.of_own (enc:=bf) aW hrow;clear hrow;have VE:=Hq hby;have hN1:=aj vY hby;have f1:=aC hN1 2;have Md:=ay hN1;obtain⟨d0,d1,d2,d3,d4,d5,d6,d7,d8⟩:=nine hN1;clear c0 c1 c2 c3 c4 c5 c6 c7 c8 hby aBW;go_upto_region 2 with fail;refine wp_at (λW1 hW=>?_);obtain⟨vZ,Oj,CZ,Vx⟩:=cpy (cs':=dH n ⟨ak,A.p,A.o,A.s,A.r,ck,A.cp,A.co,A.cs,A.cr⟩) hW vY Oi VE (aEM _) rfl;have OD:=Hq (CZ.obj OC Aac);clear hW hN1 f1 Md d0 d1 d2 d3 d4 d5 d6 d7 d8 vY OC;have HKW:Hid (GR.W bf 1 W1 ak gk n.kids/\∀x∈fp gk n.kids,W0.heap.size<=x/\x < W1.heap.size):=⟨hWk.keeps Vx (λx hx=>by have:=(hgk x hx).1;simp;omega),λx hx=>⟨(hgk x hx).1,aEU (hgk x hx).2 Vx.size⟩⟩;clear hWk hgk;obtain⟨c0,c1,c2,c3,c4,c5,c6,c7,c8⟩:=nine vZ;have akW:=ay vZ;have aBX:=aC vZ 4;go_wp2_with fail;refine(PV A.p A.cp n.pu W1 HZ.p HZ.pk (GR.At.below HA.p Oj)).mono ?_;rintro e y ⟨ap,cp,gp,hgp,rfl,hWp,hby⟩;have VF:=Hq hby;have hN1:=aj vZ hby;have f1:=aC hN1 4;have Md:=ay hN1;obtain⟨d0,d1,d2,d3,d4,d5,d6,d7,d8⟩:=nine hN1;clear c0 c1 c2 c3 c4 c5 c6 c7 c8 hby aBX;go_upto_region 3 with fail;refine wp_at (λW2 hW=>?_);obtain⟨wm,Ol,zJ,Vy⟩:=cpy (cs':=dH n ⟨ak,ap,A.o,A.s,A.r,ck,cp,A.co,A.cs,A.cr⟩) hW vZ Oj VF (aEM _) rfl;have OE:=Hq (zJ.obj OD Aac);clear hW hN1 f1 Md d0 d1 d2 d3 d4 d5 d6 d7 d8 vZ OD
 have H6:Hid (GR.W fu 4 W2 ap gp n.pu/\∀x∈fp gp n.pu,W1.heap.size<=x/\x < W2.heap.size):=by
  have hgy:=uL (show GR.W fu 4 y ap gp n.pu from hWp);have hs0:=CZ.size;refine⟨GR.W.keeps (show GR.W fu 4 y ap gp n.pu from hWp) Vy (λx hx=>by have:=(cu hx).1;simp;omega),λx hx=>⟨by have:=(cu hx).1;omega,aEU (hgy x hx) Vy.size⟩⟩
 clear hWp hgp;obtain⟨c0,c1,c2,c3,c4,c5,c6,c7,c8⟩:=nine wm;have akX:=ay wm;have aBY:=aC wm 5;go_wp2_with fail;refine(aby A.o A.co n.out W2 (aEP HZ.o Aaa) (Db _) (GR.At.below HA.o Ol)).mono ?_;rintro e y ⟨vo,rfl,hrow,hby⟩;obtain⟨ao,co,rfl,_⟩:=GR.own_at (enc:=aM) (sz:=4) aR hrow;have VI:=Hq hby;have hN1:=aj wm hby;have f1:=aC hN1 5;have Md:=ay hN1;obtain⟨d0,d1,d2,d3,d4,d5,d6,d7,d8⟩:=nine hN1;clear c0 c1 c2 c3 c4 c5 c6 c7 c8 hby aBY;go_upto_region 4 with fail;refine wp_at (λW3 hW=>?_);obtain⟨yx,Om,zK,aat⟩:=cpy (cs':=dH n ⟨ak,ap,ao,A.s,A.r,ck,cp,co,A.cs,A.cr⟩) hW wm Ol VI (aEM _) rfl;have OG:=Hq (zK.obj OE Aac);clear hW hN1 f1 Md d0 d1 d2 d3 d4 d5 d6 d7 d8 wm OE;have HOW:Hid (W3.ownsRow W2.heap.size 145 4 (.slice ao n.out.length co) n.out.length (GR.flat aM n.out)):=dD hrow aat (λx hx=>by have:x=w.heap.size:=Aag;omega);clear hrow;have akY:=ay yx;obtain⟨c0,c1,c2,c3,c4,c5,c6,c7,c8⟩:=nine yx;go_wp2_with fail;go_loopw [21] (λi wr=>∃k:Nat,k<=n.out.length/\i= .int .i64 k/\aH W3 wr) (λi _=>n.out.length - (intOf i).toNat)
 case atStart=>exact BP
 case' round=>
  obtain⟨k,hk,rfl,hbw⟩:=hrel
  clear c0 c1 c2 c3 c4 c5 c6 c7 c8
  by_cases hlt:k < n.out.length
  case' pos=>
   have PE:(k:Int) < (n.out.length:Int):=Aaa
   have iK:=Hq hbw
   have R8:=Hq (aj yx hbw)
   obtain⟨g,rest,e0,hBg,hgb⟩:=xK (GR.own_below HOW hbw) (show 0 < n.out.length by omega)
   have kS:=Hq hgb
   have q2:wr.cell? ⟨g,k*4+2,none⟩=some (.string n.out[k].k):=wO aR hgb k hlt 2 Aaa
   have hkk:n.out[k].k.size<=281474976710656:=aEP (HZ.ok _ (aE2 hlt)) Aaa
   have jJ:=Hq (λw1=>clone n.out[k].k w1 hkk)
   obtain⟨c0,c1,c2,c3,c4,c5,c6,c7,c8⟩:=nine R8
   have hnr:=ay R8
   have hgr:=ay hgb
   clear hbw hgb hkk
   subst e0
   generalize n.out[k].k=kx at *
   go_upto_region 7 with fail
   have y5:=aEL c5
   have z2:=aEL q2
   clear c0 c1 c2 c3 c4 c5 c6 c7 c8
   refine rg 12 Ge 13 ?_
   refine tk [0,1,2,3,4,5,6,7,8] ?_
   iterate 9 (refine iO (λK hK=>?_);go_simp;refine hK _ ?_;clear hK K)
   refine jf ?_
   clear y5 z2
   refine dG 9 rfl Aab Aad (λx hx=>?_)
   go_simp
   refine(jJ x).mono ?_
   rintro e y ⟨rfl,hby⟩
   refine⟨hby,?_⟩
   have HY:=Hq (Ge.trans hx hby)
   clear hx hby jJ
   refine tk [10,11] ?_
   iterate 2 (refine iO (λK hK=>?_);go_simp;refine hK _ ?_;clear hK K)
   refine jf ?_
   refine aU Aab (λx3 hx3=>?_)
   have Lp:=Hq (Ge.trans HY hx3)
   have IJ:=aj kS Lp
   have q3:x3.cell? ⟨g,k*4+2,none⟩=some (.string kx):=(Lp.cell (p:=⟨g,k*4+2,none⟩) hgr).trans q2
   have f3:=aC IJ (k*4+2)
   have zN:=Hq (nu IJ q3)
   clear hx3 IJ q2
   refine an 12 ?_
   go_simp
   refine ad ?_
   go_simp
   clear q3 f3
   go_wp2_with fail
   go_roundw
   case rel=>exact ai4
   case measure=>simp[intOf];omega
  have hke:k=n.out.length:=Aaa
  subst hke
  have hnlt:decide ((n.out.length:Int) < (n.out.length:Int))=false:=Aac
  have iK:=Hq hbw
  clear hbw
  go_upto_region 9 with fail
  refine wp_at (λW4 hWW=>?_)
  subst hWW
  have yA:=Hq (aj yx iK)
  have Vv:=Hq (aj OG iK)
  have JG:=Hq (Om.trans (iK.mono Om.size))
  have C9:Hid (aA [w.heap.size] W3 W4):=aA.of_below iK
  clear iK hnlt yx OG hlt
 obtain⟨T,hT,hAt,hT1,hTr⟩:=adt HA.s;have HTR:=Hq hTr;have HT:=Hq hT;have HC5:=ae3 A.s A.cs T W4 (by rw [hT];omega) hT1 (GR.At.below hAt JG);rw [hT] at HC5;have HCS:=Hq HC5;clear hTr hAt hT1 HC5 hT;obtain⟨c0,c1,c2,c3,c4,c5,c6,c7,c8⟩:=nine yA;have akZ:=ay yA;have aBZ:=aC yA 6;go_wp2_with fail;refine HCS.mono ?_;rintro e y ⟨vs,rfl,hrow,hby⟩;have hrow2:=hrow;rw [<-ah HT] at hrow2;obtain⟨as2,cs,hvs,_⟩:=GR.own_at (enc:=eP) (sz:=3) (l:=T) bg hrow2;rw [ah HT] at hvs;subst hvs;clear hrow2 HCS;have amL:=Hq hby;have hN1:=aj yA hby;have f1:=aC hN1 6;have Md:=ay hN1;obtain⟨d0,d1,d2,d3,d4,d5,d6,d7,d8⟩:=nine hN1;clear c0 c1 c2 c3 c4 c5 c6 c7 c8 hby aBZ;go_upto_region 10 with fail;refine wp_at (λW5 hW=>?_);obtain⟨Vs,al2,EA,amG⟩:=cpy (cs':=dH n ⟨ak,ap,ao,as2,A.r,ck,cp,co,cs,A.cr⟩) hW yA JG amL (aEM _) rfl;have aao:=Hq (EA.obj Vv Aac);clear hW hN1 f1 Md d0 d1 d2 d3 d4 d5 d6 d7 d8 yA Vv;have HSW:Hid (W5.ownsRow W4.heap.size 130 3 (.slice as2 n.seen.length cs) n.seen.length (GR.flat eP T)):=dD hrow amG (λx hx=>by have:x=w.heap.size:=Aag;omega);clear hrow;have aCC:=ay Vs;have aDr:=ay aao;have aCm:=EA.size;have aB6:=JG.size;obtain⟨c0,c1,c2,c3,c4,c5,c6,c7,c8⟩:=nine Vs;go_wp2_with fail;go_loopw [44] (λi wr=>∃(k:Nat) (T2:List R3) (I:Nat->Nat),k<=n.seen.length/\i= .int .i64 k/\SC w W5 wr W4.heap.size k n.seen T T2 I as2 cs) (λi _=>n.seen.length - (intOf i).toNat)
 case atStart=>exact⟨0,T,_,aE1 _,rfl,SC.start HT HSW⟩
 case' round=>
  obtain⟨k,T2,I,hk,rfl,hsc⟩:=hrel
  clear c0 c1 c2 c3 c4 c5 c6 c7 c8
  have HSC:=Hq hsc
  have aY:=Hq (hsc.below (aEM W4.heap.size) aCm)
  have hN4:w.heap.size+1 < W4.heap.size:=by have:=CZ.size;have:=zJ.size;have:=zK.size;have:=C9.size;omega
  have R8:Hid (wr.heap[w.heap.size]?=some (.cells (vW n.id n.par ak n.kids.length ck n.next ap n.pu.length cp ao n.out.length co as2 n.seen.length cs n.old A.r n.reqs.length A.cr) 39 (0,0))):=(aY.block _ Aaa).trans Vs
  have HRr:Hid (wr.heap[w.heap.size+1]?=some (.cells kR 39 (0,0))):=(aY.block _ Aaa).trans aao
  have Z5:=Hq (al2.trans (aY.mono aB6))
  clear hsc
  by_cases hlt:k < n.seen.length
  case' pos=>
   have PE:(k:Int) < (n.seen.length:Int):=Aaa
   obtain⟨b,cc,hTk,hIb⟩:=ah HTR k hlt
   have hk2:k < T2.length:=by rw [(ah HSC).len];exact hlt
   have ho2:=HSC.own
   rw [<-(ah HSC).len] at ho2
   obtain⟨g,rest,e0,hBg,hgb⟩:=xK ho2 (show 0 < T2.length by omega)
   have ayx:T2[k]=⟨n.seen[k].f,n.seen[k].l,.slice b n.seen[k].ids.length cc⟩:=by
    have:=HSC.up k (aEM _);rw [aEQ hk2,hTk] at this;exact aFD this
   have q2:wr.cell? ⟨g,k*3+2,none⟩=some (.slice b n.seen[k].ids.length cc):=by
    have:=wO bg hgb k hk2 2 Aaa;rw [ayx] at this;exact this
   have hg5:g < W5.heap.size:=(HSW.lt g (by rw [e0];rfl)).2
   have jJ:=Hq (λw1 (h1:aH wr w1)=>BR b cc n.seen[k].ids w1 (aEP (HZ.sk _ (aE2 hlt)) Aaa) (GR.At.below hIb (Z5.trans (h1.mono Z5.size))))
   have kS:=Hq hgb
   have iE:=Hq (λx b2 c2 g2 hx hi hl=>SC.next (x:=x) (b:=b2) (cc:=c2) (gi:=g2) HSC hlt e0 ⟨b,cc,hTk⟩ hx hg5 hi hl)
   obtain⟨c0,c1,c2,c3,c4,c5,c6,c7,c8⟩:=nine R8
   have hnr:=ay R8
   have hgr:=ay hgb
   clear hTk hIb ho2 hgb ayx
   subst e0
   generalize n.seen[k].ids=ids at *
   go_upto_region 13 with fail
   have y6:=aEL c6
   have z2:=aEL q2
   clear c0 c1 c2 c3 c4 c5 c6 c7 c8
   refine rg 12 Ge 13 ?_
   refine tk [0,1,2,3,4,5,6,7,8] ?_
   iterate 9 (refine iO (λK hK=>?_);go_simp;refine hK _ ?_;clear hK K)
   refine jf ?_
   clear y6 z2
   refine dG 9 rfl Aab Aad (λx hx=>?_)
   go_simp
   refine(jJ x hx).mono ?_
   rintro e y ⟨v2,rfl,hrow,hby⟩
   refine⟨hby,?_⟩
   obtain⟨b2,c2,g2,rfl,hW2,hg2,_⟩:=GR.W.of_own (enc:=bf) aW hrow
   have HY:=Hq (Ge.trans hx hby)
   have HWI:=Hq (And.intro hW2 (λz (hz:z∈fp g2 ids)=>And.intro (aEP hx.size (hg2 z hz).1) (hg2 z hz).2))
   clear hx hby jJ hrow hW2 hg2
   refine tk [10,11] ?_
   iterate 2 (refine iO (λK hK=>?_);go_simp;refine hK _ ?_;clear hK K)
   refine jf ?_
   refine aU Aab (λx3 hx3=>?_)
   have Lp:=Hq (Ge.trans HY hx3)
   have HRL:=Hq (iE x3 b2 c2 g2 Lp (HWI.1.below hx3) (λz hz=>⟨(HWI.2 z hz).1,aEU (HWI.2 z hz).2 hx3.size⟩))
   have IJ:=aj kS Lp
   have q3:x3.cell? ⟨g,k*3+2,none⟩=some (.slice b ids.length cc):=(Lp.cell (p:=⟨g,k*3+2,none⟩) hgr).trans q2
   have f3:=aC IJ (k*3+2)
   clear hx3 IJ q2 iE
   refine an 12 ?_
   go_simp
   refine ad ?_
   go_simp
   clear q3 f3
   go_wp2_with fail
   go_roundw
   case rel=>exact⟨k+1,_,_,Aaa,Aaf,HRL⟩
   case measure=>simp[intOf];omega
  have hke:k=n.seen.length:=Aaa
  subst hke
  have hnlt:decide ((n.seen.length:Int) < (n.seen.length:Int))=false:=Aac
  go_upto_region 15 with fail
  refine wp_at (λW6 hWW=>?_)
  subst hWW
  have JH:=Hq R8
  have ags:=Hq HRr
  have agb:=Hq Z5
  have agj:=Hq aY
  obtain⟨gs,hsn⟩:=HSC.done
  obtain⟨I6,hI6⟩:∃J,J=I:=⟨I,rfl⟩
  rw [<-hI6] at hsn
  have HSN:=Hq hsn
  clear hsn hI6 HSC R8 HRr Z5 aY hnlt Vs aao hlt
 obtain⟨c0,c1,c2,c3,c4,c5,c6,c7,c8⟩:=nine JH;have aCD:=ay JH;have aB0:=aC JH 8;go_wp2_with fail;refine(ae4 A.r A.cr n.reqs W6 (aEP HZ.r Aaa) (nC _) (GR.At.below HA.r agb)).mono ?_;rintro e y ⟨vr,rfl,hrow,hby⟩;obtain⟨ar,cr,rfl,_⟩:=GR.own_at (enc:=aL) (sz:=4) aV hrow;have amM:=Hq hby;have hN1:=aj JH hby;have f1:=aC hN1 8;have Md:=ay hN1;obtain⟨d0,d1,d2,d3,d4,d5,d6,d7,d8⟩:=nine hN1;clear c0 c1 c2 c3 c4 c5 c6 c7 c8 hby aB0;go_upto_region 16 with fail;refine wp_at (λW7 hW=>?_);obtain⟨Ou,agc,aag,amH⟩:=cpy (cs':=dH n ⟨ak,ap,ao,as2,ar,ck,cp,co,cs,cr⟩) hW JH agb amM (aEM _) rfl;have agt:=Hq (aag.obj ags Aac);clear hW hN1 f1 Md d0 d1 d2 d3 d4 d5 d6 d7 d8 JH ags;have HQW:Hid (W7.ownsRow W6.heap.size 148 4 (.slice ar n.reqs.length cr) n.reqs.length (GR.flat aL n.reqs)):=dD hrow amH (λx hx=>by have:x=w.heap.size:=Aag;omega);clear hrow;have aCE:=ay Ou;obtain⟨c0,c1,c2,c3,c4,c5,c6,c7,c8⟩:=nine Ou;go_wp2_with fail;go_loopw [67] (λi wr=>∃k:Nat,k<=n.reqs.length/\i= .int .i64 k/\aH W7 wr) (λi _=>n.reqs.length - (intOf i).toNat)
 case atStart=>exact BP
 case' round=>
  obtain⟨k,hk,rfl,hbw⟩:=hrel
  clear c0 c1 c2 c3 c4 c5 c6 c7 c8
  by_cases hlt:k < n.reqs.length
  case' pos=>
   have PE:(k:Int) < (n.reqs.length:Int):=Aaa
   have iK:=Hq hbw
   have R8:=Hq (aj Ou hbw)
   obtain⟨g,rest,e0,hBg,hgb⟩:=xK (GR.own_below HQW hbw) (show 0 < n.reqs.length by omega)
   have kS:=Hq hgb
   have q2:wr.cell? ⟨g,k*4+1,none⟩=some (.string n.reqs[k].k):=wO aV hgb k hlt 1 Aaa
   have hkk:n.reqs[k].k.size<=281474976710656:=aEP (HZ.rk _ (aE2 hlt)) Aaa
   have jJ:=Hq (λw1=>clone n.reqs[k].k w1 hkk)
   obtain⟨c0,c1,c2,c3,c4,c5,c6,c7,c8⟩:=nine R8
   have hnr:=ay R8
   have hgr:=ay hgb
   clear hbw hgb hkk
   subst e0
   generalize n.reqs[k].k=kx at *
   go_upto_region 19 with fail
   have y5:=aEL c8
   have z2:=aEL q2
   clear c0 c1 c2 c3 c4 c5 c6 c7 c8
   refine rg 12 Ge 13 ?_
   refine tk [0,1,2,3,4,5,6,7,8] ?_
   iterate 9 (refine iO (λK hK=>?_);go_simp;refine hK _ ?_;clear hK K)
   refine jf ?_
   clear y5 z2
   refine dG 9 rfl Aab Aad (λx hx=>?_)
   go_simp
   refine(jJ x).mono ?_
   rintro e y ⟨rfl,hby⟩
   refine⟨hby,?_⟩
   have HY:=Hq (Ge.trans hx hby)
   clear hx hby jJ
   refine tk [10,11] ?_
   iterate 2 (refine iO (λK hK=>?_);go_simp;refine hK _ ?_;clear hK K)
   refine jf ?_
   refine aU Aab (λx3 hx3=>?_)
   have Lp:=Hq (Ge.trans HY hx3)
   have IJ:=aj kS Lp
   have q3:x3.cell? ⟨g,k*4+1,none⟩=some (.string kx):=(Lp.cell (p:=⟨g,k*4+1,none⟩) hgr).trans q2
   have f3:=aC IJ (k*4+1)
   have zN:=Hq (nu IJ q3)
   clear hx3 IJ q2
   refine an 12 ?_
   go_simp
   refine ad ?_
   go_simp
   clear q3 f3
   go_wp2_with fail
   go_roundw
   case rel=>exact ai4
   case measure=>simp[intOf];omega
  have hke:k=n.reqs.length:=Aaa
  subst hke
  have hnlt:decide ((n.reqs.length:Int) < (n.reqs.length:Int))=false:=Aac
  have iK:=Hq hbw
  clear hbw
  go_upto_region 21 with fail
  refine wp_at (λW8 hWW=>?_)
  subst hWW
  have agp:=Hq (aj Ou iK)
  have Vw:=Hq (aj agt iK)
  have agd:=Hq (agc.trans (iK.mono agc.size))
  have agk:Hid (aA [w.heap.size] W7 W8):=aA.of_below iK
  clear iK hnlt Ou agt hlt
 obtain⟨c0,c1,c2,c3,c4,c5,c6,c7,c8⟩:=nine agp;obtain⟨d0,d1,d2,d3,d4,d5,d6,d7,d8⟩:=nine Vw;obtain⟨f0,f1,f2,f3,f4,f5,f6,f7,f8⟩:=oJ Vw;have aCB:=ay agp;have aCL:=ay Vw;go_wp2_with fail;refine pU results58 rfl rfl Vw (λW' e4 fq hso hsz=>?_);have HBE:Hid (aH w W'):=agd.trans (fq.below (λx hx=>Aak) agd.size);clear c0 c1 c2 c3 c4 c5 c6 c7 c8 d0 d1 d2 d3 d4 d5 d6 d7 d8 f0 f1 f2 f3 f4 f5 f6 f7 f8;have k1:=zJ.size;have k2:=zK.size;have k3:=C9.size;have k4:=EA.size;have k5:=agj.size;have k6:=aag.size;have k7:=agk.size;have k0:=CZ.size;have b8:∀x,w.heap.size+1 < x->x < W7.heap.size->W'.heap[x]?=W7.heap[x]?:=λx h1 h2=>(hso x Aaa).trans (agk.block x h2 Aah)
 have b6:∀x,w.heap.size+1 < x->x < W6.heap.size->W'.heap[x]?=W6.heap[x]?:=λx h1 h2=>(b8 x h1 Aaa).trans (aag.block x h2 Aah)
 have b4:∀x,w.heap.size+1 < x->x < W4.heap.size->W'.heap[x]?=W4.heap[x]?:=λx h1 h2=>((b6 x h1 Aaa).trans (agj.block x h2)).trans (EA.block x h2 Aah)
 have b3:∀x,w.heap.size+1 < x->x < W3.heap.size->W'.heap[x]?=W3.heap[x]?:=λx h1 h2=>(b4 x h1 Aaa).trans (C9.block x h2 Aah)
 have b2:∀x,w.heap.size+1 < x->x < W2.heap.size->W'.heap[x]?=W2.heap[x]?:=λx h1 h2=>(b3 x h1 Aaa).trans (zK.block x h2 Aah)
 have b1:∀x,w.heap.size+1 < x->x < W1.heap.size->W'.heap[x]?=W1.heap[x]?:=λx h1 h2=>(b2 x h1 Aaa).trans (zJ.block x h2 Aah)
 have oS:=HSW.lt;have oO:=HOW.lt;have oQ:=HQW.lt;obtain⟨sw,sg,si,snd⟩:=ah HSN
 have mP:Hid (NO W' w.heap.size n ⟨ak,ap,ao,as2,ar,ck,cp,co,cs,cr⟩ ⟨gk,gp,0,gs,0,I6⟩ (Du W0.heap.size W1.heap.size W2.heap.size W4.heap.size W5.heap.size W6.heap.size)):=by
  refine⟨zR HKW.1 Aaa (λx hx=>b1 x (by have:=HKW.2 x hx;omega) (HKW.2 x hx).2),zR H6.1 Aaa (λx hx=>b2 x (by have:=H6.2 x hx;omega) (H6.2 x hx).2),lu (jA HOW (λx hx=>b3 x (by have:=oO x hx;omega) (oO x hx).2)) Aaa,OJ sw Aaa (λx hx=>b6 x (by have:=(sg x hx).1;omega) (by have:=oS x (sg x hx).2;omega)) (λx hx=>b6 x (by have:=si x hx;omega) (si x hx).2),lu (jA HQW (λx hx=>b8 x (by have:=oQ x hx;omega) (oQ x hx).2)) Aaa,λx hx=>?_,λx hx=>?_,λx hx=>?_,λx hx=>?_,λx hx=>?_,λx hx=>?_,λx hx=>?_,snd⟩
  .unfold Du;rw [aE7 Aaa]
  .have:=HKW.2 x hx;unfold Du;rw [aEX Aaa,aE7 Aaa]
  .have:=H6.2 x hx;unfold Du;rw [aEX Aaa,aEX Aaa,aE7 Aaa]
  .have:=oO x hx;unfold Du;rw [aEX Aaa,aEX Aaa,aEX Aaa,aE7 Aaa]
  .have:=oS x (sg x hx).2;unfold Du;rw [aEX Aaa,aEX Aaa,aEX Aaa,aEX Aaa,aE7 Aaa]
  .have:=si x hx;unfold Du;rw [aEX Aaa,aEX Aaa,aEX Aaa,aEX Aaa,aEX Aaa,aE7 Aaa]
  .have:=oQ x hx;unfold Du;rw [aEX Aaa,aEX Aaa,aEX Aaa,aEX Aaa,aEX Aaa,aEX Aaa]
 clear e4 fq hso b8 b6 b4 b3 b2 b1 oS oO oQ sw sg si snd;exact⟨⟨ak,ap,ao,as2,ar,ck,cp,co,cs,cr⟩,rfl,⟨_,_,mP⟩,HBE⟩
theorem NO.base (h:NO w B n A G c) (hB:B'<=B):NO w B' n A G c:=
 ⟨h.k,h.p,lu h.o hB,h.s,lu h.r hB,λx hx=>h.lo x Aaa,h.ck,h.cp,h.co,h.c4,h.ci,h.cr,h.ni⟩
theorem gu (w:World) (a b d:Obj):(((w.alloc a).alloc b).alloc d).heap[w.heap.size]?=some a/\(((w.alloc a).alloc b).alloc d).heap[w.heap.size+1]?=some b/\(((w.alloc a).alloc b).alloc d).heap[w.heap.size+2]?=some d/\Below w.heap.size w (((w.alloc a).alloc b).alloc d):=zV w a b d
theorem EZ (h:Below B w X) (hg:B<=g):
 Below B w (((((((((X.setCell ⟨g,0,none⟩ b0).setCell ⟨g,1,none⟩ b1).setCell ⟨g,2,none⟩ b2).setCell ⟨g,3,none⟩ b3).setCell ⟨g,4,none⟩ b4).setCell ⟨g,5,none⟩ b5).setCell ⟨g,6,none⟩ b6).setCell ⟨g,7,none⟩ b7).setCell ⟨g,8,none⟩ b8):=
 ((((((((h.setCell (p:=⟨g,0,none⟩) hg b0).setCell (p:=⟨g,1,none⟩) hg b1).setCell (p:=⟨g,2,none⟩) hg b2).setCell (p:=⟨g,3,none⟩) hg b3).setCell (p:=⟨g,4,none⟩) hg b4).setCell (p:=⟨g,5,none⟩) hg b5).setCell (p:=⟨g,6,none⟩) hg b6).setCell (p:=⟨g,7,none⟩) hg b7).setCell (p:=⟨g,8,none⟩) hg b8
theorem EW {a0 a1 a2 a3 a4 a5 a6 a7 a8:Value} (h:X.heap[g]?=some (.cells #[a0,a1,a2,a3,a4,a5,a6,a7,a8] t (0,0))):
 (((((((((X.setCell ⟨g,0,none⟩ b0).setCell ⟨g,1,none⟩ b1).setCell ⟨g,2,none⟩ b2).setCell ⟨g,3,none⟩ b3).setCell ⟨g,4,none⟩ b4).setCell ⟨g,5,none⟩ b5).setCell ⟨g,6,none⟩ b6).setCell ⟨g,7,none⟩ b7).setCell ⟨g,8,none⟩ b8).heap[g]?=some (.cells #[b0,b1,b2,b3,b4,b5,b6,b7,b8] t (0,0)):=by
 exact ah4
theorem yS:
 aA [g] X (((((((((X.setCell ⟨g,0,none⟩ b0).setCell ⟨g,1,none⟩ b1).setCell ⟨g,2,none⟩ b2).setCell ⟨g,3,none⟩ b3).setCell ⟨g,4,none⟩ b4).setCell ⟨g,5,none⟩ b5).setCell ⟨g,6,none⟩ b6).setCell ⟨g,7,none⟩ b7).setCell ⟨g,8,none⟩ b8):=
 (((((((((aA.set b0).trans (aA.set b1)).trans (aA.set b2)).trans (aA.set b3)).trans (aA.set b4)).trans (aA.set b5)).trans (aA.set b6)).trans (aA.set b7)).trans (aA.set b8))
theorem NO.keepsN (h:NO w B n A G c) (hg:g < B) (hk:aA [g] w X):NO X B n A G c:=by
 have hc:KC c 0 w X:=KC.keeps hk (λx hx=>by rw [aE3.1 hx];exact h.lo g hg);exact⟨hc.w h.k h.ck Aaa,hc.w h.p h.cp Aaa,hc.own h.o h.co Aaa,hc.seen h.s h.c4 h.ci Aaa Aaa,hc.own h.r h.cr Aaa,h.lo,h.ck,h.cp,h.co,h.c4,h.ci,h.cr,h.ni⟩
end Go.Proofs.YtbolgdleijjgfaaGreatDoor
