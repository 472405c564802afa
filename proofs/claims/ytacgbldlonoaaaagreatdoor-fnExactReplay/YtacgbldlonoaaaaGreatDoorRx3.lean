/- Parts. -/
import Derived.Test.YtacgbldlonoaaaaGreatDoorRr40
import Derived.Test.YtacgbldlonoaaaaGreatDoorRr42
import Derived.Test.YtacgbldlonoaaaaGreatDoorRx2
namespace Go.Proofs.YtacgbldlonoaaaaGreatDoor
set_option maxHeartbeats 16000000
set_option maxRecDepth 100000
open Go.RowKit
open Go.WideShapes
open Go.ChangeShapes
open Mth
theorem ax9:Tryz.prog.cellsOf 3=1:=Aab
theorem ayi:Tryz.prog.cellsOf 9=1:=Aab
section
variable {H:Type} {enc:TypeId×Value->H} {W:World}
theorem ayd {α:Type} {en:α->List Value} {sz:Nat} {ok:α->Prop} {t e:TypeId} {fuel:Nat} {cs:List Value} {x:DataW H×List MemPlace} (ht:Tryz.prog.underlying t=some (.slice e)) (hc:Tryz.prog.cellsOf e=sz) (hsz:0 < sz) (hs:∀y,(en y).length=sz)
 (hel:∀fuel cs' x,cs'.length=sz->DataW.trod enc Tryz.prog W 0 (λ_=>true) true fuel e cs'=some x->∃y,ok y/\cs'=en y)
 (h:DataW.trod enc Tryz.prog W 0 (λ_=>true) true fuel t cs=some x):
 ∃(a:Option Addr) (cap:Nat) (l:List α),cs=[.slice a l.length cap]/\l.length<=maxLen/\(∀y∈l,ok y)/\GR.At en sz W a l:=by
 rcases Deep.open_slice ht h with⟨hcs,_⟩|⟨x,len,cap,m,n,D,Pl,hcs,_,hlc,hcm,hm,_,hcell⟩
 .exact⟨none,0,[],hcs,Aac,λp hp=>by simp at hp,λi hi=>Aas⟩
 .have hm':m=cap:=by rw [hm];simp
  have each:∀i,i < len->∃q:α,ok q/\∀j,j < sz->W.cell? (x.add (i*sz+j))=(en q)[j]?:=by
   intro i hi;obtain⟨cs',h1,h2⟩:=hcell i Aaa;rw [hc] at h1;obtain⟨_,hlen,hcc⟩:=World.cells?_some h1;obtain⟨y,hy,rfl⟩:=hel _ _ _ hlen h2;refine⟨y,hy,λj hj=>?_⟩;have e:=hcc j Aaa;rw [Deep.add_add] at e;exact e
  have hd:Nonempty α\/len=0:=by
   by_cases h0:len=0
   .exact .inr h0
   .obtain⟨q,_⟩:=each 0 Aaa;exact .inl ⟨q⟩
  rcases hd with d|d
  .obtain⟨q,hq⟩:∃q:Nat->α,∀i,i < len->ok (q i)/\∀j,j < sz->W.cell? (x.add (i*sz+j))=(en (q i))[j]?:=by
    exact⟨λi=>if hi:i < len then(each i hi).choose else Classical.choice d,λi hi=>by simp only[dif_pos hi];exact(each i hi).choose_spec⟩
   refine⟨some x,cap,(List.range len).map q,by rw [hcs];simp,Aag,λp hp=>?_,λi hi=>?_⟩
   .obtain⟨i,hi,rfl⟩:=List.mem_map.1 hp;exact(hq i (List.mem_range.1 hi)).1
   .have hi':i < len:=Aap
    obtain⟨b,off,spot⟩:=x;have h0:=(hq 0 Aaa).2 0 hsz;have hne:∃v,(en (q 0))[0]?=some v:=⟨_,List.getElem?_eq_getElem (by rw [hs];exact hsz)⟩;obtain⟨v0,hv0⟩:=hne;rw [hv0] at h0;have hspot:spot=none:=by simpa [Addr.add] using World.cell?_spot h0
    subst hspot;have h1:=(hq i hi').2;have ea:∀k:Nat,(⟨b,off,none⟩:Addr).add k=⟨b,off+k,none⟩:=λk=>by unfold Addr.add;split<;>simp_all
    have h3:=h1 0 hsz;rw [ea,List.getElem?_eq_getElem (by rw [hs];exact hsz)] at h3;refine⟨b,off,rfl,World.block_lt_of_cell? _ _ h3,λj hj=>?_⟩;have h2:=h1 j hj;rw [ea] at h2;simpa using h2
  .subst d;exact⟨some x,cap,[],by rw [hcs];simp,Aac,λp hp=>by simp at hp,λi hi=>Aas⟩
theorem open_ints' {fuel:Nat} {cs:List Value} {x:DataW H×List MemPlace} (h:DataW.trod enc Tryz.prog W 0 (λ_=>true) true fuel 24 cs=some x):
 ∃(a:Option Addr) (cap:Nat) (l:List Int),cs=[.slice a l.length cap]/\l.length<=maxLen/\eu W a l:=by
 obtain⟨a,cap,l,h1,h2,_,h4⟩:=ayd (en:=aW) (sz:=1) (ok:=λ_=>True) Tryz.underlying24 ax9 Aaa aQ (λfuel cs' x _ h=>by
  obtain⟨n,q,_⟩:=DataW.trod_int Tryz.underlying3 h
  exact⟨n,trivial,q⟩) h
 exact⟨a,cap,l,h1,h2,h4⟩
theorem ayv {fuel:Nat} {cs:List Value} {x:DataW H×List MemPlace} (h:DataW.trod enc Tryz.prog W 0 (λ_=>true) true fuel 58 cs=some x):
 ∃(a:Option Addr) (cap:Nat) (l:List Pu),cs=[.slice a l.length cap]/\l.length<=maxLen/\(∀y∈l,y.k.size<=maxLen)/\aH W a l:=
 ayd (en:=fE) (sz:=4) (ok:=λy=>y.k.size<=maxLen) Tryz.underlying58 Aab Aaa aZ (λfuel cs' x hlen h=>by
  obtain⟨xs,k,_,_,_,hxl,hfl⟩:=DataW.trod_struct Tryz.underlying177 h
  match xs,hxl,cs',hlen with
  |[y0,y1,y2,y3],_,[v0,v1,v2,v3],_=>
   have g0:=hfl 0 _ rfl
   have g1:=hfl 1 _ rfl
   have g2:=hfl 2 _ rfl
   have g3:=hfl 3 _ rfl
   simp[ax9,ayi] at g0 g1 g2 g3
   obtain⟨s0,q0,_,hs0⟩:=DataW.trod_string Tryz.underlying9 g0
   obtain⟨n1,q1,_⟩:=DataW.trod_int Tryz.underlying3 g1
   obtain⟨n2,q2,_⟩:=DataW.trod_int Tryz.underlying3 g2
   obtain⟨n3,q3,_⟩:=DataW.trod_int Tryz.underlying3 g3
   simp at q0 q1 q2 q3
   subst q0 q1 q2 q3
   exact⟨⟨s0,n1,n2,n3⟩,hs0,rfl⟩) h
theorem ayO {fuel:Nat} {cs:List Value} {x:DataW H×List MemPlace} (h:DataW.trod enc Tryz.prog W 0 (λ_=>true) true fuel 59 cs=some x):
 ∃(a:Option Addr) (cap:Nat) (l:List kC),cs=[.slice a l.length cap]/\l.length<=maxLen/\(∀y∈l,y.k.size<=maxLen)/\SentAt W a l:=
 ayd (en:=aR) (sz:=4) (ok:=λy=>y.k.size<=maxLen) Tryz.underlying59 Aab Aaa cZ (λfuel cs' x hlen h=>by
  obtain⟨xs,k,_,_,_,hxl,hfl⟩:=DataW.trod_struct Tryz.underlying179 h
  match xs,hxl,cs',hlen with
  |[y0,y1,y2,y3],_,[v0,v1,v2,v3],_=>
   have g0:=hfl 0 _ rfl
   have g1:=hfl 1 _ rfl
   have g2:=hfl 2 _ rfl
   have g3:=hfl 3 _ rfl
   simp[ax9,ayi] at g0 g1 g2 g3
   obtain⟨n0,q0,_⟩:=DataW.trod_int Tryz.underlying3 g0
   obtain⟨n1,q1,_⟩:=DataW.trod_int Tryz.underlying3 g1
   obtain⟨s2,q2,_,hs2⟩:=DataW.trod_string Tryz.underlying9 g2
   obtain⟨n3,q3,_⟩:=DataW.trod_int Tryz.underlying3 g3
   simp at q0 q1 q2 q3
   subst q0 q1 q2 q3
   exact⟨⟨n0,n1,s2,n3⟩,hs2,rfl⟩) h
theorem azm {fuel:Nat} {cs:List Value} {x:DataW H×List MemPlace} (h:DataW.trod enc Tryz.prog W 0 (λ_=>true) true fuel 61 cs=some x):
 ∃(a:Option Addr) (cap:Nat) (l:List Rq),cs=[.slice a l.length cap]/\l.length<=maxLen/\(∀y∈l,y.k.size<=maxLen)/\iU W a l:=
 ayd (en:=aM) (sz:=4) (ok:=λy=>y.k.size<=maxLen) Tryz.underlying61 Aab Aaa bg (λfuel cs' x hlen h=>by
  obtain⟨xs,k,_,_,_,hxl,hfl⟩:=DataW.trod_struct Tryz.underlying183 h
  match xs,hxl,cs',hlen with
  |[y0,y1,y2,y3],_,[v0,v1,v2,v3],_=>
   have g0:=hfl 0 _ rfl
   have g1:=hfl 1 _ rfl
   have g2:=hfl 2 _ rfl
   have g3:=hfl 3 _ rfl
   simp[ax9,ayi] at g0 g1 g2 g3
   obtain⟨n0,q0,_⟩:=DataW.trod_int Tryz.underlying3 g0
   obtain⟨s1,q1,_,hs1⟩:=DataW.trod_string Tryz.underlying9 g1
   obtain⟨n2,q2,_⟩:=DataW.trod_int Tryz.underlying3 g2
   obtain⟨n3,q3,_⟩:=DataW.trod_int Tryz.underlying3 g3
   simp at q0 q1 q2 q3
   subst q0 q1 q2 q3
   exact⟨⟨n0,s1,n2,n3⟩,hs1,rfl⟩) h
theorem ayp:Tryz.prog.cellsOf 24=1:=Aab
theorem azn {fuel:Nat} {cs:List Value} {x:DataW H×List MemPlace} (h:DataW.trod enc Tryz.prog W 0 (λ_=>true) true fuel 60 cs=some x):
 ∃(a:Option Addr) (cap:Nat) (l:List Sn),cs=[.slice a l.length cap]/\l.length<=maxLen/\(∀y∈l,y.ids.length<=maxLen)/\lu W a l:=by
 obtain⟨a,cap,l,h1,h2,h3,h4⟩:=ayd (en:=eG) (sz:=3) (ok:=λy=>∃b c,∃ids:List Int,y.v= .slice b ids.length c/\ids.length<=maxLen/\eu W b ids) Tryz.underlying60 Aab Aaa bZ (λfuel cs' x hlen h=>by
  obtain⟨xs,k,_,_,_,hxl,hfl⟩:=DataW.trod_struct Tryz.underlying181 h
  match xs,hxl,cs',hlen with
  |[y0,y1,y2],_,[v0,v1,v2],_=>
   have g0:=hfl 0 _ rfl
   have g1:=hfl 1 _ rfl
   have g2:=hfl 2 _ rfl
   simp[ax9,ayp] at g0 g1 g2
   obtain⟨n0,q0,_⟩:=DataW.trod_int Tryz.underlying3 g0
   obtain⟨n1,q1,_⟩:=DataW.trod_int Tryz.underlying3 g1
   obtain⟨b,c,ids,q2,hi1,hi2⟩:=open_ints' g2
   simp at q0 q1 q2
   subst q0 q1 q2
   exact⟨⟨n0,n1,.slice b ids.length c⟩,⟨b,c,ids,rfl,hi1,hi2⟩,rfl⟩) h
 have hex:∀y:R3,∃s:Sn,y∈l->(s.f=y.f/\s.l=y.l/\∃b c,y.v= .slice b s.ids.length c/\s.ids.length<=maxLen/\eu W b s.ids):=λy=>by
  by_cases hy:y∈l
  .obtain⟨b,c,ids,e1,e2,e3⟩:=h3 y hy;exact⟨⟨y.f,y.l,ids⟩,λ_=>⟨rfl,rfl,b,c,e1,e2,e3⟩⟩
  .exact⟨default,λh=>absurd h hy⟩
 refine⟨a,cap,l.map (λy=>(hex y).choose),by rw [h1];simp,by simpa using h2,?_,?_⟩
 .intro s hs;obtain⟨y,hy,rfl⟩:=List.mem_map.1 hs;obtain⟨_,_,b,c,_,e2,_⟩:=(hex y).choose_spec hy;exact e2
 .intro i hi;have hi':i < l.length:=Aap
  obtain⟨g,off,e,hg,hc⟩:=h4 i hi';have hsp:=(hex l[i]).choose_spec (List.getElem_mem hi');have hge:(l.map (λy=>(hex y).choose))[i]=(hex l[i]).choose:=Aac
  rw [hge];obtain⟨s1,s2,b,c,e1,e2,e3⟩:=hsp;refine⟨g,off,b,c,e,hg,?_,?_,?_,e3⟩
  .rw [s1];simpa using hc 0 Aaa
  .rw [s2];simpa [Nat.add_assoc] using hc 1 Aaa
  .rw [<-e1];simpa [Nat.add_assoc] using hc 2 Aaa
theorem ayF {α:Type} {cs:Array α} (h:cs.size=9):∃a b c d e f g i j,cs=#[a,b,c,d,e,f,g,i,j]:=by
 obtain⟨l⟩:=cs;match l,h with
 |[a,b,c,d,e,f,g,i,j],_=>exact⟨a,b,c,d,e,f,g,i,j,rfl⟩
theorem aAq:Tryz.prog.cellsOf 63=9:=Aab
theorem aBz:Tryz.prog.cellsOf 58=1:=Aab
theorem aBA:Tryz.prog.cellsOf 59=1:=Aab
theorem aBB:Tryz.prog.cellsOf 60=1:=Aab
theorem aBC:Tryz.prog.cellsOf 61=1:=Aab
theorem azl {r:Reach} {base:Nat} {v:Value} {d:DataW H} {p:List MemPlace} (hv:Value.okWide Tryz.prog W r base 63 v) (h:DataW.Trod enc Tryz.prog W 0 (λ_=>true) true 63 v d p):
 ∃(n:Nd) (A:bH),v=fI n A/\fu n maxLen/\dK W A n:=by
 simp only[Value.okWide,Tryz.underlying63] at hv;obtain⟨cs,rfl,hsz,ts,hts,_,hall⟩:=hv;obtain⟨fuel,hf⟩:=h;obtain⟨a0,a1,a2,a3,a4,a5,a6,a7,a8,rfl⟩:=ayF (hsz.trans aAq);obtain⟨xs,k,_,_,_,hxl,hfl⟩:=DataW.trod_struct Tryz.underlying63 hf;match xs,hxl with
 |[y0,y1,y2,y3,y4,y5,y6,y7,y8],_=>
  have g0:=hfl 0 _ rfl
  have g1:=hfl 1 _ rfl
  have g2:=hfl 2 _ rfl
  have g3:=hfl 3 _ rfl
  have g4:=hfl 4 _ rfl
  have g5:=hfl 5 _ rfl
  have g6:=hfl 6 _ rfl
  have g7:=hfl 7 _ rfl
  have g8:=hfl 8 _ rfl
  simp[ax9,ayp,aBz,aBA,aBB,aBC,Value.cells] at g0 g1 g2 g3 g4 g5 g6 g7 g8
  obtain⟨n0,q0,_⟩:=DataW.trod_int Tryz.underlying3 g0
  obtain⟨n1,q1,_⟩:=DataW.trod_int Tryz.underlying3 g1
  obtain⟨b2,c2,l2,q2,z2,t2⟩:=open_ints' g2
  obtain⟨n3,q3,_⟩:=DataW.trod_int Tryz.underlying3 g3
  obtain⟨b4,c4,l4,q4,z4,s4,t4⟩:=ayv g4
  obtain⟨b5,c5,l5,q5,z5,s5,t5⟩:=ayO g5
  obtain⟨b6,c6,l6,q6,z6,s6,t6⟩:=azn g6
  obtain⟨n7,q7,_⟩:=DataW.trod_int Tryz.underlying3 g7
  obtain⟨b8,c8,l8,q8,z8,s8,t8⟩:=azm g8
  simp at q0 q1 q2 q3 q4 q5 q6 q7 q8
  subst q0 q1 q2 q3 q4 q5 q6 q7 q8
  exact⟨⟨n0,n1,l2,n3,l4,l5,l6,n7,l8⟩,⟨b2,b4,b5,b6,b8,c2,c4,c5,c6,c8⟩,rfl,⟨z2,z4,z5,z6,z8,s4,s5,s6,s8⟩,⟨t2,t4,t5,t6,t8⟩⟩
end
theorem ayh (n:Nd) (A:bH) (hz:fu n maxLen) (s:ByteArray) (hs:s.size<=maxLen) (E:Nat->Addr) (w:World) (ha:dK w A n) (he:iG w E) (hH:Handle w):
 Calls Tryz.prog 5 #[fI n A,.string s] w (eP w (.bool true)):=by
 have HZN:=Hq (λW (hb:aX w W)=>aAT n A W hz (ha.below hb));have HTN:=Hq (λW (hb:aX w W) (h:fu n 1048576)=>aAX n A W h (ha.below hb));have HSD:=Hq (λA' W (h:fu n 1048576) (ha:dK W A' n)=>agt n A' s W hs h ha);have HID:=Hq (λA' W (h:fu n 1048576) (ha:dK W A' n) (hb:aX w W)=>agh n A' s E W hs h ha (he.below hb) (hH.below hb));have HS1:=Hq (fun(h:fu n 1048576)=>Sg h (iF s).1);unfold QU at HSD;unfold BR at HID;generalize iB n (iF s).1=N1 at *;clear ha he hz hs hH;go_enter Tryz.func5,Tryz.ntmps5
 go_upto_region 1 with fail;refine wp_at (λW0 hW=>?_);have hL0:W0.heap[w.heap.size]?=some (.cells (dH n A) 63 (0,0)):=by rw [hW];exact heap_alloc_new w _
 have hB0:aX w W0:=by rw [hW];exact aj w _
 have HB0:=Hq hB0;clear hW;by_cases hbig:s.size<=1048576
 case' neg=>
  have hd:decide ((s.size:Int) > 1048576)=true:=decide_eq_true Aaa
  clear hbig
  go_wp2_with fail
  go_ret
  exact⟨rfl,HB0⟩
 have hd:decide ((s.size:Int) > 1048576)=false:=decide_eq_false Aaa;have hd2:decide (1048576 < (s.size:Int))=false:=decide_eq_false Aaa;obtain⟨c0,c1,c2,c3,c4,c5,c6,c7,c8⟩:=nine (hL0);have hcl:=aA (hL0);go_wp2_with fail;refine(HZN W0 hB0).mono ?_;rintro e w1 ⟨z,rfl,hb1,hcase⟩;have az0:=Hq (ay hL0 hb1);have azr:=Hq (hB0.trans (hb1.mono hB0.size));clear hb1 HZN hL0 hB0 HB0 hd hd2 hbig;clear c0 c1 c2 c3 c4 c5 c6 c7 c8 hcl;rcases hcase with rfl|⟨z0,z1,hz⟩
 case' inl=>
  go_wp2_with fail
  go_ret
  exact⟨rfl,azr⟩
 have hzn:decide (z < 0)=false:=decide_eq_false Aaa;have HZ:=Hq hz;clear hz z0 z1;obtain⟨c0,c1,c2,c3,c4,c5,c6,c7,c8⟩:=nine az0;have hcl:=aA az0;go_wp2_with fail;refine(HTN w1 azr HZ).mono ?_;rintro e w2 ⟨A2,rfl,G2,Vw,_,hb2⟩;go_wp2_with fail;refine(HSD A2 w2 HZ Vw.at).mono ?_;rintro e w3 ⟨A3,rfl,hat,hb3⟩;clear c0 c1 c2 c3 c4 c5 c6 c7 c8 hcl;have ayt:=hb2.trans (hb3.mono hb2.size);have aA9:=Hq (ay az0 ayt);have aAx:=Hq (azr.trans (ayt.mono azr.size));have aBb:=Hq (hat _ Co.refl);clear Vw hb2 hb3 ayt hat hzn az0 azr HSD;go_upto_region 8 with fail;refine wp_at (λw8 hV=>?_);have hbw:aX w3 w8:=by rw [hV];exact aj w3 _
 have aau:=Hq (show w8.heap[w3.heap.size]?=some (.cells (dH N1 A3) 30 (0,0)) by rw [hV];exact heap_alloc_new _ _);have ayE:=Hq (ay aA9 hbw);have ayn:=Hq (aAx.trans (hbw.mono aAx.size));have Vl:=Hq (aBb.below hbw);have hl8:=aA ayE;have Gw:=Hq (HZ.mono (show 1048576<=1048600 by omega));have ayW:=Hq ((HS1 HZ).mono (show 1048576<=1048600 by omega));clear hV hbw aA9 aAx aBb HS1;generalize w3.heap.size=q at *;obtain⟨c0,c1,c2,c3,c4,c5,c6,c7,c8⟩:=nine ayE;have hcl:=aA ayE;go_wp2_with fail;refine(HTN w8 ayn HZ).mono ?_;rintro e w9 ⟨A4,rfl,G4,hN4,hP4,P6⟩;clear c0 c1 c2 c3 c4 c5 c6 c7 c8 hcl;have h89:w8.heap.size<=w9.heap.size:=P6.size;go_upto_region 9 with fail;refine wp_at (λV hV=>?_);have hbw:aX w9 V:=by rw [hV];exact aj w9 _
 have hT:V.heap[w9.heap.size]?=some (.cells (dH n A4) 30 (0,0)):=by rw [hV];exact heap_alloc_new _ _
 have hzv:w9.heap.size < V.heap.size:=aA hT;have SI:=Hq hP4;clear hV hP4;have az2:=Hq (Below.trans (a:=w8) P6 (hbw.mono h89));have aAD:=Hq (hN4.below hbw);have az3:=Hq (hT);have aA1:=Hq (Below.trans ayn (az2.mono ayn.size));clear P6 hbw hN4 hT;obtain⟨t0,t1,t2,t3,t4,t5,t6,t7,t8⟩:=nine az3;have htl:=aA az3;go_wp2_with fail;refine(HID A4 V HZ aAD.at aA1).mono ?_;rintro e w10 ⟨A6,G5,c5,rfl,ES,azG⟩;clear t0 t1 t2 t3 t4 t5 t6 t7 t8 htl;obtain⟨G6,hNW,hsep,_⟩:=ES.full;have h10:V.heap.size<=w10.heap.size:=azG.size;clear ES aA1;have aAC:=Hq (Below.trans az2 (azG.mono az2.size));have aBm:=Hq (sZ.below aAD azG);have aBk:=Hq (ay az3 azG);clear azG az2 aAD az3;go_upto_region 10 with fail;refine wp_at (λw11 hV=>?_);have hbw:aX w10 w11:=by rw [hV];exact aj w10 _
 have hQ2:w11.heap[w10.heap.size]?=some (.cells (dH N1 A6) 30 (0,0)):=by rw [hV];exact heap_alloc_new _ _
 have hI:=hNW.below hbw;have HND:=Hq hsep.nodup;have HIR:=Hq (show∀x∈G6.all N1,V.heap.size<=x/\x≠w10.heap.size from λx hx=>by have h1:=hsep.rng x hx;omega);clear hV hNW hsep;have SV:=Hq (Below.trans aAC (hbw.mono aAC.size));have aBn:=Hq (sZ.below aBm hbw);have aBl:=Hq (ay aBk hbw);clear hbw aAC aBm aBk;have aAy:=Hq (hI);have az1:=Hq (hQ2);clear hI hQ2;obtain⟨g0,g1,g2,g3,g4,g5,g6,g7,g8⟩:=nine az1;have hgl:=aA az1;obtain⟨s0,s1,s2,s3,s4,s5,s6,s7,s8⟩:=nine (ay aau SV);have hsl:=aA (ay aau SV);go_wp2_with fail;refine(ays N1 A6 A3 _ ayW aAy.at (Vl.below SV)).mono ?_;rintro e w12 ⟨rfl,azb⟩;clear g0 g1 g2 g3 g4 g5 g6 g7 g8 hgl;clear s0 s1 s2 s3 s4 s5 s6 s7 s8 hsl;have aaz:=Hq (Below.trans SV (azb.mono SV.size));have aAE:=Hq (sZ.below aBn azb);have az4:=Hq (ay aBl azb);have aA2:=Hq (sZ.below aAy azb);have aBd:=Hq (ay az1 azb);clear azb SV aBn aBl aAy az1;go_upto_region 12 with fail;obtain⟨t0,t1,t2,t3,t4,t5,t6,t7,t8⟩:=nine az4;have htl:=aA az4;obtain⟨c0,c1,c2,c3,c4,c5,c6,c7,c8⟩:=nine (ay ayE aaz);have hcl:=aA (ay ayE aaz);obtain⟨w13,aCs⟩:∃x,x=w12:=⟨_,rfl⟩;subst aCs;have aBj:=Hq (λx (hx:Ge w13 x)=>HTN x (Below.trans ayn ((Below.trans aaz (hx.mono aaz.size)).mono ayn.size)) HZ);have HEQ:=Hq (λA' A'' W (ha:dK W A' n) (hb:dK W A'' n)=>ays n A' A'' W Gw ha hb);have k0:=cell_grown' c0;have m0:=cell_grown' t0;have k1:=cell_grown' c1;have m1:=cell_grown' t1;have k2:=cell_grown' c2;have m2:=cell_grown' t2;have k3:=cell_grown' c3;have m3:=cell_grown' t3;have k4:=cell_grown' c4;have m4:=cell_grown' t4;have k5:=cell_grown' c5;have m5:=cell_grown' t5;have k6:=cell_grown' c6;have m6:=cell_grown' t6;have k7:=cell_grown' c7;have m7:=cell_grown' t7;have k8:=cell_grown' c8;have m8:=cell_grown' t8;refine dw Aab ?_;show gX _ _ _ _ 5 (Array.replicate 5 false) _ _
 refine tk [0,1] ?_;iterate 2 (refine tY (λK hK=>?_);go_simp;refine hK _ ?_;clear hK K)
 refine iN ?_;clear k0 m0 c0 t0 k1 m1 c1 t1 k2 m2 c2 t2 k3 m3 c3 t3 k4 m4 c4 t4 k5 m5 c5 t5 k6 m6 c6 t6 k7 m7 c7 t7 k8 m8 c8 t8 hcl htl;refine Aq 2 rfl Aab Aad (λx hx=>?_);go_simp;refine(aBj x hx).mono ?_;rintro e y ⟨A9,rfl,G9,hN9,_,hby⟩;refine⟨hby,?_⟩;have HEE:=Hq (λz (hz:Ge y z)=>HEQ _ _ z ((aAE.at.below (Ge.trans hx hby)).below hz) (hN9.at.below hz));have HXY:=Hq (Ge.trans hx hby);clear hN9 hx hby;refine Aq 3 rfl Aab Aad (λx2 hx2=>?_);go_simp;refine(HEE x2 hx2).mono ?_;rintro e y2 ⟨rfl,EU⟩;refine⟨EU,?_⟩;have HXZ:=Hq (Ge.trans (Ge.trans HXY hx2) EU);clear hx2 EU;refine tk [4] ?_;(refine tY (λK hK=>?_);go_simp;refine hK _ ?_;clear hK K)
 refine iN ?_;refine eX Aab (λw14 aBy=>?_);have azc:aX w13 w14:=Ge.trans HXZ aBy;clear aBy HXZ HXY HEE aBj HEQ;have Wq:=Hq (Below.trans aaz (azc.mono aaz.size));have aBM:=Hq (sZ.below aAE azc);have az5:=Hq (ay az4 azc);have aA3:=Hq (sZ.below aA2 azc);have ae9:=Hq (ay aBd azc);clear azc aaz aAE az4 aA2 aBd;obtain⟨t0,t1,t2,t3,t4,t5,t6,t7,t8⟩:=nine az5;have htl:=aA az5;go_wp2_with fail;refine(ayr n A4 G4 _ Gw SI.nodup aBM).mono ?_;rintro e w15 ⟨rfl,_,azK⟩;clear t0 t1 t2 t3 t4 t5 t6 t7 t8 htl;have ayX:=Hq (Below.trans Wq (azK.below (λx hx=>by have h4:=SI.rng x hx;omega) Wq.size));have aCy:=Hq (azK.obj az5 (λhx=>by have h4:=SI.rng _ hx;omega));have aAz:=Hq (sZ.keeps aA3 azK (λx hx hx2=>by have h4:=SI.rng _ hx2;have h1:=ah HIR x hx;omega));have Pf:=Hq (azK.obj ae9 (λhx=>by have h4:=SI.rng _ hx;omega));clear azK Wq az5 aA3 ae9;have aCv:decide ((ayj n:Int) < 0)=false:=decide_eq_false Aaa;obtain⟨g0,g1,g2,g3,g4,g5,g6,g7,g8⟩:=nine Pf;have hgl:=aA Pf;obtain⟨s0,s1,s2,s3,s4,s5,s6,s7,s8⟩:=nine (ay aau ayX);have hsl:=aA (ay aau ayX);go_wp2_with fail;refine(ays N1 A6 A3 _ ayW aAz.at (Vl.below ayX)).mono ?_;rintro e w16 ⟨rfl,aAi⟩;clear g0 g1 g2 g3 g4 g5 g6 g7 g8 hgl;clear s0 s1 s2 s3 s4 s5 s6 s7 s8 hsl;have aaA:=Hq (Below.trans ayX (aAi.mono ayX.size));have aBF:=Hq (sZ.below aAz aAi);have afa:=Hq (ay Pf aAi);clear aAi ayX aAz Pf;obtain⟨g0,g1,g2,g3,g4,g5,g6,g7,g8⟩:=nine afa;have hgl:=aA afa;go_wp2_with fail;refine(ayr N1 A6 G6 _ ayW HND aBF).mono ?_;rintro e w18 ⟨rfl,aBw,aAP⟩;clear g0 g1 g2 g3 g4 g5 g6 g7 g8 hgl;have aaB:=Hq (Below.trans aaA (aAP.below (λx hx=>by have h1:=ah HIR x hx;omega) aaA.size));have SL:=Hq (aAP.obj afa (λhx=>by have h1:=ah HIR _ hx;omega));clear aAP aaA afa;have aAA:=Hq (aBw);clear aBw;have aCw:decide ((ayj N1:Int) < 0)=false:=decide_eq_false Aaa;have aCx:((ayj N1:Int) != (ayj N1:Int))=false:=Aac
 obtain⟨g0,g1,g2,g3,g4,g5,g6,g7,g8⟩:=nine SL;have hgl:=aA SL;go_wp2_with fail;refine(ayq N1 A6 G6 _ ayW aAA).mono ?_;rintro e w20 ⟨rfl,aAj⟩;clear g0 g1 g2 g3 g4 g5 g6 g7 g8 hgl;have ahd:=Hq (Below.trans aaB (aAj.mono aaB.size));have Bu:=Hq (ay SL aAj);have aA4:=Hq (sZ.below aAA aAj);clear aAj aaB SL aAA;obtain⟨c0,c1,c2,c3,c4,c5,c6,c7,c8⟩:=nine (ay ayE ahd);have hcl:=aA (ay ayE ahd);go_wp2_with fail;refine(HTN w20 (Below.trans ayn (ahd.mono ayn.size)) HZ).mono ?_;rintro e w21 ⟨A7,rfl,G7,hN7,_,aAk⟩;clear c0 c1 c2 c3 c4 c5 c6 c7 c8 hcl;have HN7:=Hq hN7.at;clear hN7;have Pj:=Hq (Below.trans ahd (aAk.mono ahd.size));have Wh:=Hq (ay Bu aAk);have aA5:=Hq (sZ.below aA4 aAk);clear aAk ahd Bu aA4;go_wp2_with fail;refine(HID A7 w21 HZ HN7 (Below.trans ayn (Pj.mono ayn.size))).mono ?_;rintro e w22 ⟨A8,G8,CV,rfl,aBx,aAl⟩;have HN8:=Hq aBx.at;clear aBx HN7;have Wo:=Hq (Below.trans Pj (aAl.mono Pj.size));have aau:=Hq (ay Wh aAl);have aA6:=Hq (sZ.below aA5 aAl);clear aAl Pj Wh aA5;go_upto_region 27 with fail;refine wp_at (λw23 hV=>?_);have ayt:aX w22 w23:=by rw [hV];exact aj w22 _
 have HQ3:=Hq (show w23.heap[w22.heap.size]?=some (.cells (dH N1 A8) 30 (0,0)) by rw [hV];exact heap_alloc_new _ _);have HN9:=Hq (HN8.below ayt);clear hV HN8;have Wp:=Hq (Below.trans Wo (ayt.mono Wo.size));have IV:=Hq (ay aau ayt);have aA7:=Hq (sZ.below aA6 ayt);clear ayt Wo aau aA6;obtain⟨h0,h1,h2,h3,h4,h5,h6,h7,h8⟩:=nine HQ3;have hhl:=aA HQ3;obtain⟨s0,s1,s2,s3,s4,s5,s6,s7,s8⟩:=nine (ay aau Wp);have hsl:=aA (ay aau Wp);go_wp2_with fail;refine(ays N1 A8 A3 _ ayW HN9 (Vl.below Wp)).mono ?_;rintro e w32 ⟨rfl,aAm⟩;clear h0 h1 h2 h3 h4 h5 h6 h7 h8 hhl;clear s0 s1 s2 s3 s4 s5 s6 s7 s8 hsl;have azt:=Hq (Below.trans Wp (aAm.mono Wp.size));have ayR:=Hq (ay IV aAm);have azs:=Hq (sZ.below aA7 aAm);clear aAm Wp IV aA7;obtain⟨g0,g1,g2,g3,g4,g5,g6,g7,g8⟩:=nine ayR;have hgl:=aA ayR;go_wp2_with fail;refine(ayq N1 A6 G6 _ ayW azs).mono ?_;rintro e w35 ⟨rfl,aAn⟩;clear g0 g1 g2 g3 g4 g5 g6 g7 g8 hgl;have aBi:=Hq (Below.trans azt (aAn.mono azt.size));have aCu:=Hq (ay ayR aAn);have aCt:=Hq (sZ.below azs aAn);clear aAn azt ayR azs;go_wp2_with fail;go_ret;exact⟨rfl,Below.trans ayn (aBi.mono ayn.size)⟩
theorem aCq:Tryz.prog.globalNamed "errors.errorType" =some 5:=Aab
theorem aAS:(Tryz.prog.cutTypes.find? (·.1 == "internal/reflectlite.rtype")).map (·.2)=some 317:=Aab
theorem aAQ:((List.range 367).filter λt=>Tryz.prog.rowNamed t [101,114,114,111,114])=[248]:=Aab
theorem azq:Tryz.prog.types.size=367:=Aab
theorem aza {l:List (String×DataW Unit)} {W:World} (h:handlesMet Tryz.prog l W) (hm:("errors.errorType",Rows.laid_errors_errorType)∈l):Handle W:=by
 obtain⟨name,u,ty,e1,e2,e3,e4,e5⟩:=h _ hm;have en:name=[101,114,114,111,114]:=(Option.some.inj e1).symm;subst en;obtain rfl:=Option.some.inj (aAS.symm.trans e2);have hm:ty∈(List.range 367).filter λt=>Tryz.prog.rowNamed t [101,114,114,111,114]:=List.mem_filter.2 ⟨List.mem_range.2 (by rw [<-azq];exact e3),e4⟩
 rw [aAQ] at hm;obtain rfl:=List.mem_singleton.1 hm;have hh:typeHandle Tryz.prog 248= .pointer (some ⟨6,248,none⟩):=Aab
 rw [hh] at e5;have:=World.var?_cell aCq e5 0;unfold Handle;simpa using this
theorem ayH:(Tryz.prog.globals[2]?).map (·.type)=some 248:=Aab
theorem aAh:(Tryz.prog.globals[0]?).map (·.type)=some 248:=Aab
theorem ayG:(Tryz.prog.globals[1]?).map (·.type)=some 248:=Aab
theorem aAg:(Tryz.prog.globals[3]?).map (·.type)=some 248:=Aab
theorem azF:(Tryz.prog.globals[4]?).map (·.type)=some 248:=Aab
theorem ayZ:Tryz.prog.globalNamed "loop.example/g00264/impl.errNoPurses" =some 2:=Aab
theorem aAN:Tryz.prog.globalNamed "loop.example/g00264/impl.errNoKey" =some 0:=Aab
theorem ayY:Tryz.prog.globalNamed "loop.example/g00264/impl.errNoAmount" =some 1:=Aab
theorem aAM:Tryz.prog.globalNamed "loop.example/g00264/impl.errFewer" =some 3:=Aab
theorem aAf:Tryz.prog.globalNamed "loop.example/g00264/impl.errBeyond" =some 4:=Aab
theorem azy:Tryz.prog.cellsOf 356=1:=Aab
theorem azz:Tryz.prog.cellsOf 9=1:=Aab
theorem ayV: "*" ++ "errors.errorString" = "*errors.errorString" :=Aae
theorem aAR (u:TypeId) (h:Tryz.prog.typeName? 3 u=some "*errors.errorString"):u=338:=
 typeName_ptr_named (nm:= "errors.errorString") (by rw [ayV];kernel_rfl) Aab Aae u (by rw [ayV];exact h)
theorem ayC {n:String} {text:List UInt8} {r:List (String×DataW Unit)} {W:World} {g:Nat} (h:laidMet Tryz.prog ((n,.iface "*errors.errorString" (.ptr (.agg [.lit (.string text)])))::r) W)
 (hg:Tryz.prog.globalNamed n=some g) (ht:(Tryz.prog.globals[g]?).map (·.type)=some 248):
 ∃(a:Addr) (s:ByteArray) (c:Array Value) (t:TypeId),W.cell? ⟨g,0,none⟩=some (tV a)/\W.cell? a=some (.string s)/\s.data.toList=text/\W.heap[a.block]?=some (.cells c t (0,0)):=by
 obtain⟨ps,⟨g0',t0',cs0,f0,p0,q0,hg0',ht0',hv0,hd0,_,e0⟩,hnd,hrows⟩:=h;obtain rfl:=Option.some.inj (hg.symm.trans hg0');obtain rfl:=Option.some.inj (ht.symm.trans ht0');subst e0;obtain⟨l0⟩:=cs0
 have ok0:∀u v,l0=[.iface u v]->Value.okWide Tryz.prog W .any 0 u v:=λu v e=>by
  subst e
  exact(hrows g 0 (by simp[MemPlace.row])).2 u v (by simpa using World.var?_cell hg0' hv0 0)
 obtain⟨a0,s0,rfl,hc0,hs0,hz0,rfl⟩:=errorString_of_trod Tryz.underlying248 aAR Tryz.underlying338 Tryz.underlying356 rfl rfl Tryz.underlying9 azy azz hd0 ok0;obtain⟨c0,t0,hb0⟩:=(hrows a0.block a0.off (by simp[MemPlace.row])).1;exact⟨a0,s0,c0,t0,by simpa using World.var?_cell hg0' hv0 0,hc0,hs0,hb0⟩
theorem apart {W:World} {a b:Addr} {s t:ByteArray} (ha:W.cell? a=some (.string s)) (hb:W.cell? b=some (.string t)) (hne:s.data.toList≠t.data.toList):a≠b:=λe=>by
 rw [e,hb] at ha;injection ha with ha
 injection ha with ha
 exact hne (by rw [ha])
theorem azE {W:World} (h:laidMet Tryz.prog [("loop.example/g00264/impl.errNoPurses",Rows.laid_loop_example_g00264_impl_errNoPurses),("loop.example/g00264/impl.errNoKey",Rows.laid_loop_example_g00264_impl_errNoKey),("loop.example/g00264/impl.errNoAmount",Rows.laid_loop_example_g00264_impl_errNoAmount),("loop.example/g00264/impl.errFewer",Rows.laid_loop_example_g00264_impl_errFewer),("loop.example/g00264/impl.errBeyond",Rows.laid_loop_example_g00264_impl_errBeyond)] W):∃E,iG W E:=by
 obtain⟨a2,s2,k2,t2,v2,c2,x2,b2⟩:=ayC h ayZ ayH;have h1:=h.tail;obtain⟨a0,s0,k0,t0,v0,c0,x0,b0⟩:=ayC h1 aAN aAh;have h2:=h1.tail;obtain⟨a1,s1,k1,t1,v1,c1,x1,b1⟩:=ayC h2 ayY ayG;have h3:=h2.tail;obtain⟨a3,s3,k3,t3,v3,c3,x3,b3⟩:=ayC h3 aAM aAg;have h4:=h3.tail;obtain⟨a4,s4,k4,t4,v4,c4,x4,b4⟩:=ayC h4 aAf azF;let E:Nat->Addr:=λi=>if i=2 then a2 else if i=0 then a0 else if i=1 then a1 else if i=3 then a3 else a4
 let T:Nat->ByteArray:=λi=>if i=2 then s2 else if i=0 then s0 else if i=1 then s1 else if i=3 then s3 else s4
 have hT:∀i,i < 5->W.cell? (E i)=some (.string (T i)):=λi hi=>by
  have:i=0\/i=1\/i=2\/i=3\/i=4:=Aaa
  rcases this with rfl|rfl|rfl|rfl|rfl
  all_goals first|exact c0|exact c1|exact c2|exact c3|exact c4
 refine⟨E,⟨λi hi=>?_,λi hi=>?_,λi j hi hj hne=>apart (hT i hi) (hT j hj) ?_⟩⟩
 .have:i=0\/i=1\/i=2\/i=3\/i=4:=Aaa
  rcases this with rfl|rfl|rfl|rfl|rfl
  all_goals first|exact v0|exact v1|exact v2|exact v3|exact v4
 .have:i=0\/i=1\/i=2\/i=3\/i=4:=Aaa
  rcases this with rfl|rfl|rfl|rfl|rfl
  all_goals first|exact⟨_,_,b0⟩|exact⟨_,_,b1⟩|exact⟨_,_,b2⟩|exact⟨_,_,b3⟩|exact⟨_,_,b4⟩
 .have hi':i=0\/i=1\/i=2\/i=3\/i=4:=Aaa
  have hj':j=0\/j=1\/j=2\/j=3\/j=4:=Aaa
  rcases hi' with rfl|rfl|rfl|rfl|rfl<;>rcases hj' with rfl|rfl|rfl|rfl|rfl
  all_goals first|exact absurd rfl hne|(simp[T,x0,x1,x2,x3,x4])
theorem ayk {W:World} (h:laidMetH Tryz.prog Rows.fnExactReplayRow.laid W):(∃E,iG W E)/\Handle W:=by
 have h':laidMet Tryz.prog [("loop.example/g00264/impl.errNoPurses",Rows.laid_loop_example_g00264_impl_errNoPurses),("loop.example/g00264/impl.errNoKey",Rows.laid_loop_example_g00264_impl_errNoKey),("loop.example/g00264/impl.errNoAmount",Rows.laid_loop_example_g00264_impl_errNoAmount),("loop.example/g00264/impl.errFewer",Rows.laid_loop_example_g00264_impl_errFewer),("loop.example/g00264/impl.errBeyond",Rows.laid_loop_example_g00264_impl_errBeyond)] W/\handlesMet Tryz.prog [("errors.errorType",Rows.laid_errors_errorType)] W:=h;exact⟨azE h'.1,aza h'.2 (List.mem_singleton.2 rfl)⟩
open Go
theorem ayl {H:Type} {enc:TypeId×Value->H} {P:Program} {w:World} {sp:Nat->Bool}:∀{ns:List String} {gs:List (DataW H)} {ps:List MemPlace},DataW.TrodVars enc P w sp ns gs ps->gs.length=ns.length
 |[],[],_,_=>rfl
 |[],_::_,_,h=>h.elim
 |_::_,[],_,h=>h.elim
 |_::ns,_::ds,_,h=>by
  obtain⟨_,_,_,_,_,_,_,_,_,_,hs,_⟩:=h
  have:=ayl hs
  simp[this]
theorem ayQ {α:Type} {gs:List α} (h:gs.length=5):∃a b c d e,gs=[a,b,c,d,e]:=by
 match gs,h with
 |[a,b,c,d,e],_=>exact⟨a,b,c,d,e,rfl⟩
end Go.Proofs.YtacgbldlonoaaaaGreatDoor
