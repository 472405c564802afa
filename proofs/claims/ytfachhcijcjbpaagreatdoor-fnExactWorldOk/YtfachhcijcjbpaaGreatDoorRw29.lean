/- Parts. -/
import Derived.Test.YtfachhcijcjbpaaGreatDoorRw26
import Derived.Test.YtfachhcijcjbpaaGreatDoorRw28
namespace Go.Proofs.YtfachhcijcjbpaaGreatDoor
open Go.Proofs.Tryz
set_option maxHeartbeats 8000000
set_option maxRecDepth 100000
open Go.RowKit
open Mth
variable {w X Y W5 wr w' W:World} {B i g k sz cs nb B':Nat} {v b0 b1 b2 b3 b4 b5 b6 b7 b8:Value} {a:Option Addr} {l:List Sn} {n:Nd} {t:TypeId} {T T2:List R3} {I c:Nat->Nat} {xs:List Value} {m:Mg} {s0:Sn} {A:bg} {G:aR}
theorem keepsN (hb:aG X Y):aC [nb] X (Y.setCell ⟨nb,i,none⟩ v):=(aC.of_below hb).trans (aC.set v)
theorem akx (hn:w.heap.size<=nb) (hb:aG w Y):Below w.heap.size w (Y.setCell ⟨nb,i,none⟩ v):=hb.setCell (p:=⟨nb,i,none⟩) hn v
theorem Dg {cs:Array Value} (h:Y.heap[nb]?=some (.cells cs 53 (0,0))):(Y.setCell ⟨nb,i,none⟩ v).heap[nb]?=some (.cells (cs.setIfInBounds i v) 53 (0,0)):=aT h i v
theorem cpy {y W':World} {p:Nat} {cs cs':Array Value} (hW:W'=y.setCell ⟨p,i,none⟩ v) (hN:Hid (W.heap[p]?=some (.cells cs 53 (0,0)))) (hB:Hid (aG w W)) (hy:Hid (aG W y)) (hp:w.heap.size<=p) (e:cs.setIfInBounds i v=cs'):
 Hid (W'.heap[p]?=some (.cells cs' 53 (0,0)))/\Hid (aG w W')/\Hid (aC [p] W W')/\Hid (aC [p] y W'):=by
 subst hW e;exact⟨Dg (aj hN hy),akx hp (hB.trans (hy.mono hB.size)),keepsN hy,aC.set _⟩
theorem dA {F:List Nat} (h:Y.ownsRow B t sz v k xs) (hk:aC F Y W) (hd:∀x∈F,x < B):W.ownsRow B t sz v k xs:=by
 refine⟨h.1,?_⟩;rcases h.2 with hn|⟨g,cap,cur,rfl,hb,hgg,rest⟩
 .exact .inl hn
 .exact .inr ⟨g,cap,cur,rfl,hb,hk.obj hgg (λhm=>by have:=hd g hm;omega),rest⟩
theorem abM (u:Value):∀(l:List R3) (i:Nat) (hi:i < l.length),(GR.flat eF l).set (i*3+2) u=GR.flat eF (l.set i ⟨l[i].f,l[i].l,u⟩):=by
 intro l;induction l with
 |nil=>intro i hi;simp at hi
 |cons x r ih=>
  intro i hi;cases i with
  |zero=>rfl
  |succ i=>
   have hi2:i < r.length:=Aas
   have h1:=ih i hi2;show(eF x++GR.flat eF r).set ((i+1)*3+2) u=eF x++GR.flat eF (r.set i ⟨r[i].f,r[i].l,u⟩)
   rw [<-h1,aF9 _ _ (by show 3<=_;omega)];congr 2
   show(i+1)*3+2 - 3=_
   omega
structure SC (w W5 wr:World) (B k:Nat) (l:List Sn) (T T2:List R3) (I:Nat->Nat) (a:Option Addr) (cs:Nat):Prop where
 len:T2.length=l.length
 own:wr.ownsRow B 144 3 (.slice a l.length cs) l.length (GR.flat eF T2)
 dn:∀i (hi:i < l.length),i < k->∃b c,T2[i]?=some ⟨l[i].f,l[i].l,.slice b l[i].ids.length c⟩/\GR.W aW 1 wr b (I i) l[i].ids/\∀x∈fp (I i) l[i].ids,W5.heap.size<=x/\x < wr.heap.size
 up:∀i,k<=i->T2[i]?=T[i]?
 nd:∀i j (hi:i < l.length) (hj:j < l.length),i < j->j < k->0 < l[i].ids.length->0 < l[j].ids.length->I i≠I j
 gr:W5.grownBy wr (Value.slice a l.length cs).ownBlock
theorem SC.start (hT:T.length=l.length) (ho:W5.ownsRow B 144 3 (.slice a l.length cs) l.length (GR.flat eF T)):SC w W5 W5 B 0 l T T (λ_=>0) a cs:=
 ⟨hT,ho,λi _ h=>Aaa,λ_ _=>rfl,λi j _ _ _ h=>Aaa,World.grownBy.refl _ _⟩
theorem SC.next {x:World} {gi cc:Nat} {b:Option Addr} (h:SC w W5 wr B k l T T2 I a cs) (hk:k < l.length) (ha:a=some ⟨g,0,none⟩) (hT:∃b c,T[k]?=some ⟨l[k].f,l[k].l,.slice b l[k].ids.length c⟩) (hx:aG wr x) (hg5:g < W5.heap.size) (hi:GR.W aW 1 x b gi l[k].ids) (hlt:∀z∈fp gi l[k].ids,wr.heap.size<=z/\z < x.heap.size):SC w W5 (x.setCell ⟨g,k*3+2,none⟩ (.slice b l[k].ids.length cc)) B (k+1) l T (T2.set k ⟨l[k].f,l[k].l,.slice b l[k].ids.length cc⟩) (λi=>if i=k then gi else I i) a cs:=by
 subst ha;have hk2:k < T2.length:=by rw [h.len];exact hk
 have hTk:∃b c,T2[k]=⟨l[k].f,l[k].l,.slice b l[k].ids.length c⟩:=by
  obtain⟨b',c',e⟩:=hT;refine⟨b',c',?_⟩;have:=h.up k (aEx _);rw [aEB hk2,e] at this;exact aFe this
 have hgs:x.heap.size=(x.setCell ⟨g,k*3+2,none⟩ (.slice b l[k].ids.length cc)).heap.size:=Aaq
 have hkp:aC [g] x (x.setCell ⟨g,k*3+2,none⟩ (.slice b l[k].ids.length cc)):=aC.set _;have hws:=h.gr.size;have hxs:=hx.size;refine⟨by rw [aGd];exact h.len,?_,λi hi' hik=>?_,λi hik=>?_,λi j hi' hj hij hjk h1 h2=>?_,?_⟩
 .have ho:=GR.own_below h.own hx;have hst:=(ho.stored (k*3+2) (.slice b l[k].ids.length cc)).1;rw [abM _ T2 k hk2] at hst;obtain⟨b',c',e⟩:=hTk;rw [e] at hst;exact hst
 .by_cases e:i=k
  .subst e;refine⟨b,cc,by rw [aF7 hk2],?_,?_⟩
   .rw [aER rfl];exact hi.keeps hkp (λz hz hm=>by have:=(hlt z hz).1;have:z=g:=Aax;omega)
   .rw [aER rfl];exact λz hz=>⟨by have:=(hlt z hz).1;omega,by rw [<-hgs];exact(hlt z hz).2⟩
  .obtain⟨b',c',e1,e2,e3⟩:=h.dn i hi' Aaa;refine⟨b',c',by rw [aFK Aaa];exact e1,?_,?_⟩
   .rw [aEG e];exact(e2.below hx).keeps hkp (λz hz hm=>by have:=(e3 z hz).1;have:z=g:=Aax;omega)
   .rw [aEG e];exact λz hz=>⟨(e3 z hz).1,by rw [<-hgs];have:=(e3 z hz).2;omega⟩
 .rw [aFK Aaa];exact h.up i Aaa
 .by_cases ej:j=k
  .subst ej;rw [aEG Aaa,aER rfl];obtain⟨_,_,_,_,e3⟩:=h.dn i hi' Aaa;have q1:=(e3 (I i) (dH h1)).2;have q2:=(hlt gi (dH h2)).1;omega
  .exact ajc
 .refine h.gr.andThen (row':=some g) ⟨hx.os,hx.tape,hx.output,by rw [<-hgs];exact hx.size,λz hz hne=>?_⟩ (λj hj=> .inr (by cases hj;rfl));rw [aEU _ _ _ _ (λe=>hne Aao)];exact hx.block z hz
theorem SC.done (h:SC w W5 wr B l.length l T T2 I a cs):∃g,fU wr a g I l/\(∀x∈fp g l,B<=x/\(Value.slice a l.length cs).ownBlock=some x)/\(∀x∈uo I l,W5.heap.size<=x/\x < wr.heap.size)/\(uo I l).Nodup:=by
 open ath in exact agY
theorem SC.below (h:SC w W5 wr B k l T T2 I a cs) {C:Nat} (hC:C<=B) (hs:C<=W5.heap.size):Below C W5 wr:=
 ⟨h.gr.os,h.gr.tape,h.gr.output,h.gr.size,λx hx=>h.gr.block x Aaa (λe=>by have:=(h.own.lt x e.symm).1;omega)⟩
theorem zJ {α:Type} {enc:α->List Value} {l:List α} (h:GR.W enc sz w a g l) (hs:w.heap.size<=w'.heap.size) (hb:∀x∈fp g l,w'.heap[x]?=w.heap[x]?):GR.W enc sz w' a g l:=λi hi=>by
 obtain⟨e,hg,hc⟩:=h i hi;have hbl:=hb g (dH Aaa);exact⟨e,Aaa,λj hj=>⟨(aE6 (w:=w) hbl).trans (hc j hj).1,(aGj (w:=w) hbl).trans (hc j hj).2⟩⟩
theorem jf (h:w.ownsRow B t sz v k xs) (hb:∀x,v.ownBlock=some x->w'.heap[x]?=w.heap[x]?):w'.ownsRow B t sz v k xs:=by
 refine⟨h.1,?_⟩;rcases h.2 with hn|⟨g,cap,cur,rfl,hB,hgg,rest⟩
 .exact .inl hn
 .exact .inr ⟨g,cap,cur,rfl,hB,(hb g rfl).trans hgg,rest⟩
theorem kX (h:w.ownsRow B t sz v k xs) (hB:B'<=B):w.ownsRow B' t sz v k xs:=by
 refine⟨h.1,?_⟩;rcases h.2 with hn|⟨g,cap,cur,rfl,hBg,rest⟩
 .exact .inl hn
 .exact .inr ⟨g,cap,cur,rfl,Aaa,rest⟩
theorem O4 (h:fU w a g I l) (hs:w.heap.size<=w'.heap.size) (hb:∀x∈fp g l,w'.heap[x]?=w.heap[x]?) (hI:∀x∈uo I l,w'.heap[x]?=w.heap[x]?):fU w' a g I l:=by
 obtain⟨T,hT,hl,hr⟩:=h;refine⟨T,zJ hT hs (λx hx=>hb x (by have:=dz hx;rw [this.1];exact dH (by omega))),hl,λi hi=>?_⟩;obtain⟨b,c,ht,hi2⟩:=hr i hi;exact⟨b,c,ht,zJ hi2 hs (λx hx=>hI x (jE hi x hx))⟩
def Dn (s0 s1 s2 s4 s5 s6 x:Nat):Nat:=if x < s0 then 0 else if x < s1 then 1 else if x < s2 then 2 else if x < s4 then 3 else if x < s5 then 4 else if x < s6 then 5 else 6
theorem uz (n:Nd) (A:bg) (w:World) (hz:eH n 1048576) (ha:bX w A n):
 Calls prog 73 #[gP n A] w λe w'=>∃A' G' c',e= .returned (gP n A')/\NO w' w.heap.size n A' G' c'/\aG w w':=by
 have HZ:=Hq hz;have HA:=Hq ha;have hlo:=hz.o;have hls:=hz.s;have hlr:=hz.r;clear hz ha;go_in
 go_upto_region 1 with fail;refine wp_at (λW0 hW=>?_);obtain⟨e1,e2,e3⟩:=gU w (.cells (dR n A) 53) (.cells kH 53);rw [<-hW] at e1 e2 e3;have vM:=Hq e1;have OU:=Hq e2;have OD:=Hq e3;have hsz0:=ay e2;clear hW e1 e2 e3;obtain⟨c0,c1,c2,c3,c4,c5,c6,c7,c8⟩:=nine vM;have akX:=ay vM;have aBC:=aA vM 2;go_wp2_with fail;refine(BK A.k A.ck n.kids W0 (aEA HZ.k Aaa) (GR.At.below HA.k OD)).mono ?_;rintro e y ⟨vk,rfl,hrow,hby⟩;obtain⟨ak,ck,gk,rfl,hWk,hgk,_⟩:=GR.W.of_own (enc:=aW) aU hrow;clear hrow;have Wm:=Hq hby;have hN1:=aj vM hby;have f1:=aA hN1 2;have Mt:=ay hN1;obtain⟨d0,d1,d2,d3,d4,d5,d6,d7,d8⟩:=nine hN1;clear c0 c1 c2 c3 c4 c5 c6 c7 c8 hby aBC;go_upto_region 2 with fail;refine wp_at (λW1 hW=>?_);obtain⟨vN,OE,CS,Wi⟩:=cpy (cs':=dR n ⟨ak,A.p,A.o,A.s,A.r,ck,A.cp,A.co,A.cs,A.cr⟩) hW vM OD Wm (aEx _) rfl;have OV:=Hq (CS.obj OU Aac);clear hW hN1 f1 Mt d0 d1 d2 d3 d4 d5 d6 d7 d8 vM OU;have HKW:Hid (GR.W aW 1 W1 ak gk n.kids/\∀x∈fp gk n.kids,W0.heap.size<=x/\x < W1.heap.size):=⟨hWk.keeps Wi (λx hx=>by have:=(hgk x hx).1;simp;omega),λx hx=>⟨(hgk x hx).1,aEH (hgk x hx).2 Wi.size⟩⟩;clear hWk hgk;obtain⟨c0,c1,c2,c3,c4,c5,c6,c7,c8⟩:=nine vN;have akY:=ay vN;have aBD:=aA vN 4;go_wp2_with fail;refine(Qe A.p A.cp n.pu W1 HZ.p HZ.pk (GR.At.below HA.p OE)).mono ?_;rintro e y ⟨ap,cp,gp,hgp,rfl,hWp,hby⟩;have Wn:=Hq hby;have hN1:=aj vN hby;have f1:=aA hN1 4;have Mt:=ay hN1;obtain⟨d0,d1,d2,d3,d4,d5,d6,d7,d8⟩:=nine hN1;clear c0 c1 c2 c3 c4 c5 c6 c7 c8 hby aBD;go_upto_region 3 with fail;refine wp_at (λW2 hW=>?_);obtain⟨vO,OG,zw,Wj⟩:=cpy (cs':=dR n ⟨ak,ap,A.o,A.s,A.r,ck,cp,A.co,A.cs,A.cr⟩) hW vN OE Wn (aEx _) rfl;have OW:=Hq (zw.obj OV Aac);clear hW hN1 f1 Mt d0 d1 d2 d3 d4 d5 d6 d7 d8 vN OV
 have Ij:Hid (GR.W fO 4 W2 ap gp n.pu/\∀x∈fp gp n.pu,W1.heap.size<=x/\x < W2.heap.size):=by
  have hgy:=uq (show GR.W fO 4 y ap gp n.pu from hWp);have hs0:=CS.size;refine⟨GR.W.keeps (show GR.W fO 4 y ap gp n.pu from hWp) Wj (λx hx=>by have:=(dz hx).1;simp;omega),λx hx=>⟨by have:=(dz hx).1;omega,aEH (hgy x hx) Wj.size⟩⟩
 clear hWp hgp;obtain⟨c0,c1,c2,c3,c4,c5,c6,c7,c8⟩:=nine vO;have akZ:=ay vO;have aBE:=aA vO 5;go_wp2_with fail;refine(abz A.o A.co n.out W2 (aEA HZ.o Aaa) (CX _) (GR.At.below HA.o OG)).mono ?_;rintro e y ⟨vo,rfl,hrow,hby⟩;obtain⟨ao,co,rfl,_⟩:=GR.own_at (enc:=aN) (sz:=4) aX hrow;have Wo:=Hq hby;have hN1:=aj vO hby;have f1:=aA hN1 5;have Mt:=ay hN1;obtain⟨d0,d1,d2,d3,d4,d5,d6,d7,d8⟩:=nine hN1;clear c0 c1 c2 c3 c4 c5 c6 c7 c8 hby aBE;go_upto_region 4 with fail;refine wp_at (λW3 hW=>?_);obtain⟨xV,OH,zx,aaz⟩:=cpy (cs':=dR n ⟨ak,ap,ao,A.s,A.r,ck,cp,co,A.cs,A.cr⟩) hW vO OG Wo (aEx _) rfl;have OX:=Hq (zx.obj OW Aac);clear hW hN1 f1 Mt d0 d1 d2 d3 d4 d5 d6 d7 d8 vO OW;have HOW:Hid (W3.ownsRow W2.heap.size 129 4 (.slice ao n.out.length co) n.out.length (GR.flat aN n.out)):=dA hrow aaz (λx hx=>by have:x=w.heap.size:=Aad;omega);clear hrow;have ak0:=ay xV;obtain⟨c0,c1,c2,c3,c4,c5,c6,c7,c8⟩:=nine xV;go_wp2_with fail;go_loopw [21] (λi wr=>∃k:Nat,k<=n.out.length/\i= .int .i64 k/\aG W3 wr) (λi _=>n.out.length - (intOf i).toNat)
 case atStart=>exact vQ
 case' round=>
  obtain⟨k,hk,rfl,hbw⟩:=hrel
  clear c0 c1 c2 c3 c4 c5 c6 c7 c8
  by_cases hlt:k < n.out.length
  case' pos=>
   have P7:(k:Int) < (n.out.length:Int):=Aaa
   have gK:=Hq hbw
   have SK:=Hq (aj xV hbw)
   obtain⟨g,rest,e0,hBg,hgb⟩:=wS (GR.own_below HOW hbw) (show 0 < n.out.length by omega)
   have kJ:=Hq hgb
   have q2:wr.cell? ⟨g,k*4+2,none⟩=some (.string n.out[k].k):=wu aX hgb k hlt 2 Aaa
   have hkk:n.out[k].k.size<=281474976710656:=aEA (HZ.ok _ (aEL hlt)) Aaa
   have jr:=Hq (λw1=>clone n.out[k].k w1 hkk)
   obtain⟨c0,c1,c2,c3,c4,c5,c6,c7,c8⟩:=nine SK
   have hnr:=ay SK
   have hgr:=ay hgb
   clear hbw hgb hkk
   subst e0
   generalize n.out[k].k=kx at *
   go_upto_region 7 with fail
   have y5:=aEv c5
   have z2:=aEv q2
   clear c0 c1 c2 c3 c4 c5 c6 c7 c8
   refine rg 12 Ge 13 ?_
   refine tk [0,1,2,3,4,5,6,7,8] ?_
   iterate 9 (refine iy (λK hK=>?_);go_simp;refine hK _ ?_;clear hK K)
   refine jm ?_
   clear y5 z2
   refine dB 9 rfl Aab Aah (λx hx=>?_)
   go_simp
   refine(jr x).mono ?_
   rintro e y ⟨rfl,hby⟩
   refine⟨hby,?_⟩
   have HY:=Hq (Ge.trans hx hby)
   clear hx hby jr
   refine tk [10,11] ?_
   iterate 2 (refine iy (λK hK=>?_);go_simp;refine hK _ ?_;clear hK K)
   refine jm ?_
   refine aS Aab (λx3 hx3=>?_)
   have SN:=Hq (Ge.trans HY hx3)
   have IZ:=aj kJ SN
   have q3:x3.cell? ⟨g,k*4+2,none⟩=some (.string kx):=(SN.cell (p:=⟨g,k*4+2,none⟩) hgr).trans q2
   have f3:=aA IZ (k*4+2)
   have zF:=Hq (mQ IZ q3)
   clear hx3 IZ q2
   refine an 12 ?_
   go_simp
   refine ad ?_
   go_simp
   clear q3 f3
   go_wp2_with fail
   go_roundw
   case rel=>exact ajd
   case measure=>simp[intOf];omega
  have hke:k=n.out.length:=Aaa
  subst hke
  have hnlt:decide ((n.out.length:Int) < (n.out.length:Int))=false:=Aac
  have gK:=Hq hbw
  clear hbw
  go_upto_region 9 with fail
  refine wp_at (λW4 hWW=>?_)
  subst hWW
  have xW:=Hq (aj xV gK)
  have VZ:=Hq (aj OX gK)
  have JL:=Hq (OH.trans (gK.mono OH.size))
  have CU:Hid (aC [w.heap.size] W3 W4):=aC.of_below gK
  clear gK hnlt xV OX hlt
 obtain⟨T,hT,hAt,hT1,hTr⟩:=ady HA.s;have HTR:=Hq hTr;have HT:=Hq hT;have HC5:=ae2 A.s A.cs T W4 (by rw [hT];omega) hT1 (GR.At.below hAt JL);rw [hT] at HC5;have HCS:=Hq HC5;clear hTr hAt hT1 HC5 hT;obtain⟨c0,c1,c2,c3,c4,c5,c6,c7,c8⟩:=nine xW;have ak1:=ay xW;have aBF:=aA xW 6;go_wp2_with fail;refine HCS.mono ?_;rintro e y ⟨vs,rfl,hrow,hby⟩;have hrow2:=hrow;rw [<-ah HT] at hrow2;obtain⟨as2,cs,hvs,_⟩:=GR.own_at (enc:=eF) (sz:=3) (l:=T) bf hrow2;rw [ah HT] at hvs;subst hvs;clear hrow2 HCS;have amV:=Hq hby;have hN1:=aj xW hby;have f1:=aA hN1 6;have Mt:=ay hN1;obtain⟨d0,d1,d2,d3,d4,d5,d6,d7,d8⟩:=nine hN1;clear c0 c1 c2 c3 c4 c5 c6 c7 c8 hby aBF;go_upto_region 10 with fail;refine wp_at (λW5 hW=>?_);obtain⟨VW,amj,EA,amQ⟩:=cpy (cs':=dR n ⟨ak,ap,ao,as2,A.r,ck,cp,co,cs,A.cr⟩) hW xW JL amV (aEx _) rfl;have aau:=Hq (EA.obj VZ Aac);clear hW hN1 f1 Mt d0 d1 d2 d3 d4 d5 d6 d7 d8 xW VZ;have HSW:Hid (W5.ownsRow W4.heap.size 144 3 (.slice as2 n.seen.length cs) n.seen.length (GR.flat eF T)):=dA hrow amQ (λx hx=>by have:x=w.heap.size:=Aad;omega);clear hrow;have aCj:=ay VW;have aDf:=ay aau;have aB3:=EA.size;have aBM:=JL.size;obtain⟨c0,c1,c2,c3,c4,c5,c6,c7,c8⟩:=nine VW;go_wp2_with fail;go_loopw [44] (λi wr=>∃(k:Nat) (T2:List R3) (I:Nat->Nat),k<=n.seen.length/\i= .int .i64 k/\SC w W5 wr W4.heap.size k n.seen T T2 I as2 cs) (λi _=>n.seen.length - (intOf i).toNat)
 case atStart=>exact⟨0,T,_,aEN _,rfl,SC.start HT HSW⟩
 case' round=>
  obtain⟨k,T2,I,hk,rfl,hsc⟩:=hrel
  clear c0 c1 c2 c3 c4 c5 c6 c7 c8
  have HSC:=Hq hsc
  have aO:=Hq (hsc.below (aEx W4.heap.size) aB3)
  have hN4:w.heap.size+1 < W4.heap.size:=by have:=CS.size;have:=zw.size;have:=zx.size;have:=CU.size;omega
  have SK:Hid (wr.heap[w.heap.size]?=some (.cells (vG n.id n.par ak n.kids.length ck n.next ap n.pu.length cp ao n.out.length co as2 n.seen.length cs n.old A.r n.reqs.length A.cr) 53 (0,0))):=(aO.block _ Aaa).trans VW
  have HRr:Hid (wr.heap[w.heap.size+1]?=some (.cells kH 53 (0,0))):=(aO.block _ Aaa).trans aau
  have HBr:=Hq (amj.trans (aO.mono aBM))
  clear hsc
  by_cases hlt:k < n.seen.length
  case' pos=>
   have P7:(k:Int) < (n.seen.length:Int):=Aaa
   obtain⟨b,cc,hTk,hIb⟩:=ah HTR k hlt
   have hk2:k < T2.length:=by rw [(ah HSC).len];exact hlt
   have ho2:=HSC.own
   rw [<-(ah HSC).len] at ho2
   obtain⟨g,rest,e0,hBg,hgb⟩:=wS ho2 (show 0 < T2.length by omega)
   have ayb:T2[k]=⟨n.seen[k].f,n.seen[k].l,.slice b n.seen[k].ids.length cc⟩:=by
    have:=HSC.up k (aEx _);rw [aEB hk2,hTk] at this;exact aFe this
   have q2:wr.cell? ⟨g,k*3+2,none⟩=some (.slice b n.seen[k].ids.length cc):=by
    have:=wu bf hgb k hk2 2 Aaa;rw [ayb] at this;exact this
   have hg5:g < W5.heap.size:=(HSW.lt g (by rw [e0];rfl)).2
   have jr:=Hq (λw1 (h1:aG wr w1)=>BK b cc n.seen[k].ids w1 (aEA (HZ.sk _ (aEL hlt)) Aaa) (GR.At.below hIb (HBr.trans (h1.mono HBr.size))))
   have kJ:=Hq hgb
   have gu:=Hq (λx b2 c2 g2 hx hi hl=>SC.next (x:=x) (b:=b2) (cc:=c2) (gi:=g2) HSC hlt e0 ⟨b,cc,hTk⟩ hx hg5 hi hl)
   obtain⟨c0,c1,c2,c3,c4,c5,c6,c7,c8⟩:=nine SK
   have hnr:=ay SK
   have hgr:=ay hgb
   clear hTk hIb ho2 hgb ayb
   subst e0
   generalize n.seen[k].ids=ids at *
   go_upto_region 13 with fail
   have y6:=aEv c6
   have z2:=aEv q2
   clear c0 c1 c2 c3 c4 c5 c6 c7 c8
   refine rg 12 Ge 13 ?_
   refine tk [0,1,2,3,4,5,6,7,8] ?_
   iterate 9 (refine iy (λK hK=>?_);go_simp;refine hK _ ?_;clear hK K)
   refine jm ?_
   clear y6 z2
   refine dB 9 rfl Aab Aah (λx hx=>?_)
   go_simp
   refine(jr x hx).mono ?_
   rintro e y ⟨v2,rfl,hrow,hby⟩
   refine⟨hby,?_⟩
   obtain⟨b2,c2,g2,rfl,hW2,hg2,_⟩:=GR.W.of_own (enc:=aW) aU hrow
   have HY:=Hq (Ge.trans hx hby)
   have HWI:=Hq (And.intro hW2 (λz (hz:z∈fp g2 ids)=>And.intro (aEA hx.size (hg2 z hz).1) (hg2 z hz).2))
   clear hx hby jr hrow hW2 hg2
   refine tk [10,11] ?_
   iterate 2 (refine iy (λK hK=>?_);go_simp;refine hK _ ?_;clear hK K)
   refine jm ?_
   refine aS Aab (λx3 hx3=>?_)
   have SN:=Hq (Ge.trans HY hx3)
   have HRL:=Hq (gu x3 b2 c2 g2 SN (HWI.1.below hx3) (λz hz=>⟨(HWI.2 z hz).1,aEH (HWI.2 z hz).2 hx3.size⟩))
   have IZ:=aj kJ SN
   have q3:x3.cell? ⟨g,k*3+2,none⟩=some (.slice b ids.length cc):=(SN.cell (p:=⟨g,k*3+2,none⟩) hgr).trans q2
   have f3:=aA IZ (k*3+2)
   clear hx3 IZ q2 gu
   refine an 12 ?_
   go_simp
   refine ad ?_
   go_simp
   clear q3 f3
   go_wp2_with fail
   go_roundw
   case rel=>exact⟨k+1,_,_,Aaa,Aaf,HRL⟩
   case measure=>simp[intOf];omega
  have hke:k=n.seen.length:=Aaa
  subst hke
  have hnlt:decide ((n.seen.length:Int) < (n.seen.length:Int))=false:=Aac
  go_upto_region 15 with fail
  refine wp_at (λW6 hWW=>?_)
  subst hWW
  have JN:=Hq SK
  have agx:=Hq HRr
  have agi:=Hq HBr
  have agp:=Hq aO
  obtain⟨gs,hsn⟩:=HSC.done
  obtain⟨I6,hI6⟩:∃J,J=I:=⟨I,rfl⟩
  rw [<-hI6] at hsn
  have HSN:=Hq hsn
  clear hsn hI6 HSC SK HRr HBr aO hnlt VW aau hlt
 obtain⟨c0,c1,c2,c3,c4,c5,c6,c7,c8⟩:=nine JN;have aCk:=ay JN;have aBG:=aA JN 8;go_wp2_with fail;refine(ae3 A.r A.cr n.reqs W6 (aEA HZ.r Aaa) (mV _) (GR.At.below HA.r agi)).mono ?_;rintro e y ⟨vr,rfl,hrow,hby⟩;obtain⟨ar,cr,rfl,_⟩:=GR.own_at (enc:=aM) (sz:=4) bQ hrow;have amW:=Hq hby;have hN1:=aj JN hby;have f1:=aA hN1 8;have Mt:=ay hN1;obtain⟨d0,d1,d2,d3,d4,d5,d6,d7,d8⟩:=nine hN1;clear c0 c1 c2 c3 c4 c5 c6 c7 c8 hby aBG;go_upto_region 16 with fail;refine wp_at (λW7 hW=>?_);obtain⟨OL,agj,aam,amR⟩:=cpy (cs':=dR n ⟨ak,ap,ao,as2,ar,ck,cp,co,cs,cr⟩) hW JN agi amW (aEx _) rfl;have agy:=Hq (aam.obj agx Aac);clear hW hN1 f1 Mt d0 d1 d2 d3 d4 d5 d6 d7 d8 JN agx;have HQW:Hid (W7.ownsRow W6.heap.size 133 4 (.slice ar n.reqs.length cr) n.reqs.length (GR.flat aM n.reqs)):=dA hrow amR (λx hx=>by have:x=w.heap.size:=Aad;omega);clear hrow;have aCl:=ay OL;obtain⟨c0,c1,c2,c3,c4,c5,c6,c7,c8⟩:=nine OL;go_wp2_with fail;go_loopw [67] (λi wr=>∃k:Nat,k<=n.reqs.length/\i= .int .i64 k/\aG W7 wr) (λi _=>n.reqs.length - (intOf i).toNat)
 case atStart=>exact vQ
 case' round=>
  obtain⟨k,hk,rfl,hbw⟩:=hrel
  clear c0 c1 c2 c3 c4 c5 c6 c7 c8
  by_cases hlt:k < n.reqs.length
  case' pos=>
   have P7:(k:Int) < (n.reqs.length:Int):=Aaa
   have gK:=Hq hbw
   have SK:=Hq (aj OL hbw)
   obtain⟨g,rest,e0,hBg,hgb⟩:=wS (GR.own_below HQW hbw) (show 0 < n.reqs.length by omega)
   have kJ:=Hq hgb
   have q2:wr.cell? ⟨g,k*4+1,none⟩=some (.string n.reqs[k].k):=wu bQ hgb k hlt 1 Aaa
   have hkk:n.reqs[k].k.size<=281474976710656:=aEA (HZ.rk _ (aEL hlt)) Aaa
   have jr:=Hq (λw1=>clone n.reqs[k].k w1 hkk)
   obtain⟨c0,c1,c2,c3,c4,c5,c6,c7,c8⟩:=nine SK
   have hnr:=ay SK
   have hgr:=ay hgb
   clear hbw hgb hkk
   subst e0
   generalize n.reqs[k].k=kx at *
   go_upto_region 19 with fail
   have y5:=aEv c8
   have z2:=aEv q2
   clear c0 c1 c2 c3 c4 c5 c6 c7 c8
   refine rg 12 Ge 13 ?_
   refine tk [0,1,2,3,4,5,6,7,8] ?_
   iterate 9 (refine iy (λK hK=>?_);go_simp;refine hK _ ?_;clear hK K)
   refine jm ?_
   clear y5 z2
   refine dB 9 rfl Aab Aah (λx hx=>?_)
   go_simp
   refine(jr x).mono ?_
   rintro e y ⟨rfl,hby⟩
   refine⟨hby,?_⟩
   have HY:=Hq (Ge.trans hx hby)
   clear hx hby jr
   refine tk [10,11] ?_
   iterate 2 (refine iy (λK hK=>?_);go_simp;refine hK _ ?_;clear hK K)
   refine jm ?_
   refine aS Aab (λx3 hx3=>?_)
   have SN:=Hq (Ge.trans HY hx3)
   have IZ:=aj kJ SN
   have q3:x3.cell? ⟨g,k*4+1,none⟩=some (.string kx):=(SN.cell (p:=⟨g,k*4+1,none⟩) hgr).trans q2
   have f3:=aA IZ (k*4+1)
   have zF:=Hq (mQ IZ q3)
   clear hx3 IZ q2
   refine an 12 ?_
   go_simp
   refine ad ?_
   go_simp
   clear q3 f3
   go_wp2_with fail
   go_roundw
   case rel=>exact ajd
   case measure=>simp[intOf];omega
  have hke:k=n.reqs.length:=Aaa
  subst hke
  have hnlt:decide ((n.reqs.length:Int) < (n.reqs.length:Int))=false:=Aac
  have gK:=Hq hbw
  clear hbw
  go_upto_region 21 with fail
  refine wp_at (λW8 hWW=>?_)
  subst hWW
  have agu:=Hq (aj OL gK)
  have Wh:=Hq (aj agy gK)
  have agk:=Hq (agj.trans (gK.mono agj.size))
  have agq:Hid (aC [w.heap.size] W7 W8):=aC.of_below gK
  clear gK hnlt OL agy hlt
 obtain⟨c0,c1,c2,c3,c4,c5,c6,c7,c8⟩:=nine agu;obtain⟨d0,d1,d2,d3,d4,d5,d6,d7,d8⟩:=nine Wh;obtain⟨f0,f1,f2,f3,f4,f5,f6,f7,f8⟩:=mX Wh;have aCi:=ay agu;have aCs:=ay Wh;go_wp2_with fail;refine oU results73 rfl rfl Wh (λW' e4 eX hso hsz=>?_);have HBE:Hid (aG w W'):=agk.trans (eX.below (λx hx=>Aaj) agk.size);clear c0 c1 c2 c3 c4 c5 c6 c7 c8 d0 d1 d2 d3 d4 d5 d6 d7 d8 f0 f1 f2 f3 f4 f5 f6 f7 f8;have k1:=zw.size;have k2:=zx.size;have k3:=CU.size;have k4:=EA.size;have k5:=agp.size;have k6:=aam.size;have k7:=agq.size;have k0:=CS.size;have b8:∀x,w.heap.size+1 < x->x < W7.heap.size->W'.heap[x]?=W7.heap[x]?:=λx h1 h2=>(hso x Aaa).trans (agq.block x h2 Aae)
 have b6:∀x,w.heap.size+1 < x->x < W6.heap.size->W'.heap[x]?=W6.heap[x]?:=λx h1 h2=>(b8 x h1 Aaa).trans (aam.block x h2 Aae)
 have b4:∀x,w.heap.size+1 < x->x < W4.heap.size->W'.heap[x]?=W4.heap[x]?:=λx h1 h2=>((b6 x h1 Aaa).trans (agp.block x h2)).trans (EA.block x h2 Aae)
 have b3:∀x,w.heap.size+1 < x->x < W3.heap.size->W'.heap[x]?=W3.heap[x]?:=λx h1 h2=>(b4 x h1 Aaa).trans (CU.block x h2 Aae)
 have b2:∀x,w.heap.size+1 < x->x < W2.heap.size->W'.heap[x]?=W2.heap[x]?:=λx h1 h2=>(b3 x h1 Aaa).trans (zx.block x h2 Aae)
 have b1:∀x,w.heap.size+1 < x->x < W1.heap.size->W'.heap[x]?=W1.heap[x]?:=λx h1 h2=>(b2 x h1 Aaa).trans (zw.block x h2 Aae)
 have oS:=HSW.lt;have oO:=HOW.lt;have oQ:=HQW.lt;obtain⟨sw,sg,si,snd⟩:=ah HSN
 have jD:Hid (NO W' w.heap.size n ⟨ak,ap,ao,as2,ar,ck,cp,co,cs,cr⟩ ⟨gk,gp,0,gs,0,I6⟩ (Dn W0.heap.size W1.heap.size W2.heap.size W4.heap.size W5.heap.size W6.heap.size)):=by
  refine⟨zJ HKW.1 Aaa (λx hx=>b1 x (by have:=HKW.2 x hx;omega) (HKW.2 x hx).2),zJ Ij.1 Aaa (λx hx=>b2 x (by have:=Ij.2 x hx;omega) (Ij.2 x hx).2),kX (jf HOW (λx hx=>b3 x (by have:=oO x hx;omega) (oO x hx).2)) Aaa,O4 sw Aaa (λx hx=>b6 x (by have:=(sg x hx).1;omega) (by have:=oS x (sg x hx).2;omega)) (λx hx=>b6 x (by have:=si x hx;omega) (si x hx).2),kX (jf HQW (λx hx=>b8 x (by have:=oQ x hx;omega) (oQ x hx).2)) Aaa,λx hx=>?_,λx hx=>?_,λx hx=>?_,λx hx=>?_,λx hx=>?_,λx hx=>?_,λx hx=>?_,snd⟩
  .unfold Dn;rw [aER Aaa]
  .have:=HKW.2 x hx;unfold Dn;rw [aEG Aaa,aER Aaa]
  .have:=Ij.2 x hx;unfold Dn;rw [aEG Aaa,aEG Aaa,aER Aaa]
  .have:=oO x hx;unfold Dn;rw [aEG Aaa,aEG Aaa,aEG Aaa,aER Aaa]
  .have:=oS x (sg x hx).2;unfold Dn;rw [aEG Aaa,aEG Aaa,aEG Aaa,aEG Aaa,aER Aaa]
  .have:=si x hx;unfold Dn;rw [aEG Aaa,aEG Aaa,aEG Aaa,aEG Aaa,aEG Aaa,aER Aaa]
  .have:=oQ x hx;unfold Dn;rw [aEG Aaa,aEG Aaa,aEG Aaa,aEG Aaa,aEG Aaa,aEG Aaa]
 clear e4 eX hso b8 b6 b4 b3 b2 b1 oS oO oQ sw sg si snd;exact⟨⟨ak,ap,ao,as2,ar,ck,cp,co,cs,cr⟩,rfl,⟨_,_,jD⟩,HBE⟩
theorem NO.base (h:NO w B n A G c) (hB:B'<=B):NO w B' n A G c:=
 ⟨h.k,h.p,kX h.o hB,h.s,kX h.r hB,λx hx=>h.lo x Aaa,h.ck,h.cp,h.co,h.c4,h.ci,h.cr,h.ni⟩
theorem fP (w:World) (a b d:Obj):(((w.alloc a).alloc b).alloc d).heap[w.heap.size]?=some a/\(((w.alloc a).alloc b).alloc d).heap[w.heap.size+1]?=some b/\(((w.alloc a).alloc b).alloc d).heap[w.heap.size+2]?=some d/\Below w.heap.size w (((w.alloc a).alloc b).alloc d):=zM w a b d
theorem PY (z:Int):∀(l:List Rq) (i:Nat) (hi:i < l.length),(GR.flat aM l).set (i*4+3) (.int .i64 z)=GR.flat aM (l.set i ⟨l[i].no,l[i].k,l[i].n,z⟩):=by
 intro l;induction l with
 |nil=>intro i hi;simp at hi
 |cons x r ih=>
  intro i hi;cases i with
  |zero=>rfl
  |succ i=>
   have hi2:i < r.length:=Aas
   have h1:=ih i hi2;show(aM x++GR.flat aM r).set ((i+1)*4+3) (.int .i64 z)=aM x++GR.flat aM (r.set i ⟨r[i].no,r[i].k,r[i].n,z⟩)
   rw [<-h1,aF9 _ _ (by show 4<=_;omega)];congr 2
   show(i+1)*4+3 - 4=_
   omega
theorem yF (s:jI):∀u∈aN s,u.oneCell'=true:=by
 intro u hu;simp only[aN,aET,aFt,or_false] at hu;rcases hu with rfl|rfl|rfl|rfl<;>rfl
theorem J8 (k:ByteArray) (m f s:Int) (w:World):(Instr.field 142 (.agg (iK k m f s)) 2).run prog w= .ok (.int .i64 f) w:=Aab
theorem MV:(prog.info? 129).map (λi=>(i.zero,i.size,i.bytes))=some (some (.agg (gB 0 0 ByteArray.empty 0)),4,40):=Aab
theorem J2 {l:List Pu} {key:ByteArray} {dm df ds n:Int} (h:(cK l key dm df ds n).2=false):(cK l key dm df ds n).1=l:=by
 exact ajf
theorem Hf (hi:i < n.seen.length) (e:iH n.seen m.F=i) (hs:n.seen[i]=s0) (h:rX s0 m.L m.I=false) (hg:lS n s0 m=true):takeN n m=(dS (setPu n (cK n.pu m.k 0 1 0 m.N).1) (n.seen.set i ⟨m.F,fH s0 m.L,kW (bV s0 m.L) m.I⟩),true):=by
 subst e hs;unfold takeN;rw [Eo hi,aEG (by rw [h];simp),aER hg]
theorem K9 (hi:i < n.seen.length) (e:iH n.seen m.F=i) (hs:n.seen[i]=s0) (h:rX s0 m.L m.I=true):takeN n m=(dS n (n.seen.set i ⟨m.F,fH s0 m.L,bV s0 m.L⟩),true):=by
 subst e hs;unfold takeN;rw [Eo hi,aER h]
theorem R8 (hi:i < n.seen.length) (e:iH n.seen m.F=i) (hs:n.seen[i]=s0) (h:rX s0 m.L m.I=false) (hg:lS n s0 m=false):takeN n m=(dS n (n.seen.set i ⟨m.F,fH s0 m.L,bV s0 m.L⟩),false):=by
 grind [takeN,Eo]
theorem E8 (h:Below B w X) (hg:B<=g):
 Below B w (((((((((X.setCell ⟨g,0,none⟩ b0).setCell ⟨g,1,none⟩ b1).setCell ⟨g,2,none⟩ b2).setCell ⟨g,3,none⟩ b3).setCell ⟨g,4,none⟩ b4).setCell ⟨g,5,none⟩ b5).setCell ⟨g,6,none⟩ b6).setCell ⟨g,7,none⟩ b7).setCell ⟨g,8,none⟩ b8):=
 ((((((((h.setCell (p:=⟨g,0,none⟩) hg b0).setCell (p:=⟨g,1,none⟩) hg b1).setCell (p:=⟨g,2,none⟩) hg b2).setCell (p:=⟨g,3,none⟩) hg b3).setCell (p:=⟨g,4,none⟩) hg b4).setCell (p:=⟨g,5,none⟩) hg b5).setCell (p:=⟨g,6,none⟩) hg b6).setCell (p:=⟨g,7,none⟩) hg b7).setCell (p:=⟨g,8,none⟩) hg b8
theorem EW {a0 a1 a2 a3 a4 a5 a6 a7 a8:Value} (h:X.heap[g]?=some (.cells #[a0,a1,a2,a3,a4,a5,a6,a7,a8] t (0,0))):
 (((((((((X.setCell ⟨g,0,none⟩ b0).setCell ⟨g,1,none⟩ b1).setCell ⟨g,2,none⟩ b2).setCell ⟨g,3,none⟩ b3).setCell ⟨g,4,none⟩ b4).setCell ⟨g,5,none⟩ b5).setCell ⟨g,6,none⟩ b6).setCell ⟨g,7,none⟩ b7).setCell ⟨g,8,none⟩ b8).heap[g]?=some (.cells #[b0,b1,b2,b3,b4,b5,b6,b7,b8] t (0,0)):=by
 exact aib
theorem yM:
 aC [g] X (((((((((X.setCell ⟨g,0,none⟩ b0).setCell ⟨g,1,none⟩ b1).setCell ⟨g,2,none⟩ b2).setCell ⟨g,3,none⟩ b3).setCell ⟨g,4,none⟩ b4).setCell ⟨g,5,none⟩ b5).setCell ⟨g,6,none⟩ b6).setCell ⟨g,7,none⟩ b7).setCell ⟨g,8,none⟩ b8):=
 (((((((((aC.set b0).trans (aC.set b1)).trans (aC.set b2)).trans (aC.set b3)).trans (aC.set b4)).trans (aC.set b5)).trans (aC.set b6)).trans (aC.set b7)).trans (aC.set b8))
theorem NO.keepsN (h:NO w B n A G c) (hg:g < B) (hk:aC [g] w X):NO X B n A G c:=by
 have hc:KC c 0 w X:=KC.keeps hk (λx hx=>by rw [aEM.1 hx];exact h.lo g hg);exact⟨hc.w h.k h.ck Aaa,hc.w h.p h.cp Aaa,hc.own h.o h.co Aaa,hc.seen h.s h.c4 h.ci Aaa Aaa,hc.own h.r h.cr Aaa,h.lo,h.ck,h.cp,h.co,h.c4,h.ci,h.cr,h.ni⟩
end Go.Proofs.YtfachhcijcjbpaaGreatDoor
