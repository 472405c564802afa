/- Parts. -/
import Derived.Test.YtohmklmkjmlpjaaGreatDoorRk15
import Derived.Test.YtohmklmkjmlpjaaGreatDoorRk7
namespace Go.Proofs.YtohmklmkjmlpjaaGreatDoor
open Go.Proofs.Tryz
set_option maxHeartbeats 4000000
set_option maxRecDepth 100000
open Go.RowKit
open Mth
abbrev xC (s:Sn) (b:Option Addr) (c:Nat):Value:= .agg #[.int .i64 s.f,.int .i64 s.l,.slice b s.ids.length c]
theorem EJ:(prog.info? 110).map (λi=>(i.zero,i.size,i.bytes))=some (some (.agg #[.int .i64 0,.int .i64 0,.slice none 0 0]),3,40):=Aab
theorem ab6 (n:Nat) (hn:n<=2000000):∀W:World,(Instr.makeSlice 37 (.int .i64 (n:Int)) (.int .i64 (n:Int))).run prog W= .ok (.slice (some ⟨W.heap.size,0,none⟩) n n) (W.alloc (.cells (GR.flat fK (List.replicate n ⟨0,0,.slice none 0 0⟩)).toArray 110)):=by
 obtain⟨i0,hi,hz0,hz1,hz2⟩:=info_parts EJ;intro W;have h:=run_make (P:=prog) W 37 110 i0 (.agg #[.int .i64 0,.int .i64 0,.slice none 0 0]) underlying37 hi hz0 .i64 .i64 (n:Int) (n:Int) Aaa Aaa Abd Aaa;rw [hz1] at h;have e:=GR.made_flat fK 3 dK Aaa ⟨0,0,.slice none 0 0⟩ (Value.cells (.agg #[.int .i64 0,.int .i64 0,.slice none 0 0])) rfl n;exact Ef
theorem aN {w:World} {c:Nat} {cs:Array Value} {t:TypeId} (h:w.heap[c]?=some (.cells cs t (0,0))) (i:Nat) (v:Value):(w.setCell ⟨c,i,none⟩ v).heap[c]?=some (.cells (cs.setIfInBounds i v) t (0,0)):=by
 exact Ve
theorem jg {w:World} {g g' i:Nat} {v:Value} {o:Option Obj} (h:w.heap[g']?=o) (hne:g'≠g):(w.setCell ⟨g,i,none⟩ v).heap[g']?=o:=by rw [Below.heap_setCell _ _ _ _ hne,h]
theorem yZ (w:World) (a b c:Obj):(((w.alloc a).alloc b).alloc c).heap[w.heap.size]?=some a/\(((w.alloc a).alloc b).alloc c).heap[w.heap.size+1]?=some b/\(((w.alloc a).alloc b).alloc c).heap[w.heap.size+1+1]?=some c/\Below w.heap.size w (((w.alloc a).alloc b).alloc c):=by
 have e1:(w.alloc a).heap.size=w.heap.size+1:=Aac
 have e2:((w.alloc a).alloc b).heap.size=w.heap.size+1+1:=Aac
 have h1:=heap_alloc_new w a;have h2:=heap_alloc_new (w.alloc a) b;have h3:=heap_alloc_new ((w.alloc a).alloc b) c;rw [e1] at h2;rw [e2] at h3;refine⟨?_,?_,h3,((ay w _).alloc Aac _).alloc Aag _⟩
 .rw [Below.heap_alloc _ _ _ (by rw [e2];omega),Below.heap_alloc _ _ _ (by rw [e1];omega)];exact h1
 .rw [Below.heap_alloc _ _ _ (by rw [e2];omega)];exact h2
theorem aO {P:Program} {fn:Func} {Q:Ending->World->Prop} {x:Exit} {act:Act} {W:World} (h:∀W',W'=W->bodyPost P fn Q x act W'):bodyPost P fn Q x act W:=h W rfl
theorem ak4 (s:Sn) (b:Option Addr) (c:Nat) (w:World) (hl:s.ids.length<=1048576) (ha:bX w b s.ids):
 Calls prog 114 #[xC s b c] w λe w'=>∃g,w.heap.size<=g/\e= .returned (xC s (some ⟨g,0,none⟩) s.ids.length)/\lQ w' g s.ids/\aI w w':=by
 obtain⟨fr,lo,ids⟩:=s;dsimp only at hl ha ⊢;have HA:=Hq ha;clear ha;go_in
 go_upto_region 4 with fail;refine wp_at (λW0 hW0=>?_);obtain⟨hP,hR,hO,hB⟩:=yZ w (.cells #[.int .i64 fr,.int .i64 lo,.slice b ids.length c] 152) (.cells #[.int .i64 0,.int .i64 0,.slice none 0 0] 110) (.cells #[.int .i64 fr,.int .i64 lo,.slice none 0 0] 110);rw [<-hW0] at hP hR hO hB;have HP:=Hq hP;have HR:=Hq hR;have HO:=Hq hO;have HB:=Hq hB;clear hP hR hO hB hW0;obtain⟨c0,c1,c2⟩:=three HP;have HT:=Hq (acZ b c ids W0 hl (GR.At.below HA HB));go_wp2_with fail;refine HT.mono ?_;rintro e w1 ⟨rfl,hblk,hb1⟩;have HR1:=Hq (au HR hb1);have Kh:=Hq (au HO hb1);have HI1:=Hq hblk;have HB1:=Hq (HB.trans (hb1.mono HB.size));have HLT:=Hq (aA HO);clear hblk hb1 c0 c1 c2 HT;obtain⟨d0,d1,d2⟩:=three Kh;obtain⟨r0,r1,r2⟩:=three HR1;have f0:=aj Kh 2;have f1:=aj HR1 0;have f2:=aj HR1 1;have f3:=aj HR1 2;go_wp2_with fail;refine aO (λW' hW'=>?_);have hR:=aN (aN (aN (jg (g:=w.heap.size+1+1) (i:=2) (v:= .slice (some ⟨W0.heap.size,0,none⟩) ids.length ids.length) HR1 Aaa) 0 (.int .i64 fr)) 1 (.int .i64 lo)) 2 (.slice (some ⟨W0.heap.size,0,none⟩) ids.length ids.length);obtain⟨x0,x1,x2⟩:=three (show W'.heap[w.heap.size+1]?=some (.cells #[.int .i64 fr,.int .i64 lo,.slice (some ⟨W0.heap.size,0,none⟩) ids.length ids.length] 110 (0,0)) by rw [hW'];exact hR);have hlt:=ah HLT;refine bodyPost_ret (v:=xC ⟨fr,lo,ids⟩ (some ⟨W0.heap.size,0,none⟩) ids.length) (by simp[results,results114,go_sem,x0,x1,x2]) rfl ⟨W0.heap.size,Aaa,rfl,?_,?_⟩
 .rw [hW'];exact jg (jg (jg (jg HI1 Aaa) Aaa) Aaa) Aaa
 .rw [hW'];exact(((HB1.setCell (p:=⟨w.heap.size+1+1,2,none⟩) (by show w.heap.size<=w.heap.size+1+1;omega) _).setCell (p:=⟨w.heap.size+1,0,none⟩) (by show w.heap.size<=w.heap.size+1;omega) _).setCell (p:=⟨w.heap.size+1,1,none⟩) (by show w.heap.size<=w.heap.size+1;omega) _).setCell (p:=⟨w.heap.size+1,2,none⟩) (by show w.heap.size<=w.heap.size+1;omega) _
abbrev Fg (w:World) (g:Nat) (T:List R3):Prop:=GR.Blk fK 110 w g T
theorem Fg.three {w:World} {g:Nat} {l:List R3} (h:Fg w g l) (i:Nat) (hi:i < l.length):w.cell? ⟨g,i*3,none⟩=some (.int .i64 l[i].f)/\w.cell? ⟨g,i*3+1,none⟩=some (.int .i64 l[i].l)/\w.cell? ⟨g,i*3+2,none⟩=some l[i].v:=
 ⟨by simpa using GR.Blk.cell h dK i hi 0 Aaa,by simpa using GR.Blk.cell h dK i hi 1 Aaa,by simpa using GR.Blk.cell h dK i hi 2 Aaa⟩
theorem afa (a:Option Addr) (cap:Nat) (l:List Sn) (w:World) (hl:l.length<=1048576) (hl2:∀s∈l,s.ids.length<=1048576) (ha:gZ w a l):
 Calls prog 62 #[.slice a l.length cap] w λe w'=>e= .returned (.slice (some ⟨w.heap.size,0,none⟩) l.length l.length)/\(∃(T:List R3) (I:Nat->Nat),Fg w' w.heap.size T/\T.length=l.length/\(∀i,i < l.length->w.heap.size < I i/\I i < w'.heap.size/\T[i]?=some ⟨(l.getD i default).f,(l.getD i default).l,.slice (some ⟨I i,0,none⟩) (l.getD i default).ids.length (l.getD i default).ids.length⟩/\lQ w' (I i) (l.getD i default).ids)/\(∀i j,i < j->j < l.length->I i < I j))/\aI w w':=by
 have hmk:=ab6 l.length Aaa;have HA:=Hq ha;have HL2:=Hq hl2;clear ha hl2;go_in
 go_wp2_with fail;go_loopw [4] (λi wr=>∃(k:Nat) (T:List R3) (I:Nat->Nat),k<=l.length/\i= .int .i64 k/\Fg wr w.heap.size T/\T.length=l.length/\(∀i,i < k->w.heap.size < I i/\I i < wr.heap.size/\T[i]?=some ⟨(l.getD i default).f,(l.getD i default).l,.slice (some ⟨I i,0,none⟩) (l.getD i default).ids.length (l.getD i default).ids.length⟩/\lQ wr (I i) (l.getD i default).ids)/\(∀i j,i < j->j < k->I i < I j)/\aI w wr) (λi _=>l.length - (intOf i).toNat)
 case atStart=>exact⟨0,List.replicate l.length ⟨0,0,.slice none 0 0⟩,λi=>i,Nat.zero_le _,rfl,heap_alloc_new w _,Aac,λi hi=>Aaa,λi j _ hj=>Aaa,ay w _⟩
 case round=>
  obtain⟨k,T,I,hk,rfl,hB,hTl,hI,hIm,hbel⟩:=hrel;have HB:=Hq hB;have cK:=Hq hbel;have HI:=Hq hI;have HIM:=Hq hIm;clear hB hbel hmk hI hIm;by_cases hlt:k < l.length
  .obtain⟨g,off,b,c,e0,hgw,q0,q1,q2,hX⟩:=gZ.below HA cK k hlt;subst e0;have hs:=ah HL2 _ (List.getElem_mem hlt);have Ni:=Hq (ak4 l[k] b c wr hs hX);have hgd:l.getD k default=l[k]:=by rw [List.getD_eq_getElem?_getD,List.getElem?_eq_getElem hlt];rfl
   have HGD:=Hq hgd;clear hX hgd;generalize l[k]=sk at *;obtain⟨fr,lo,ids⟩:=sk;dsimp only at q0 q1 q2 hs;go_wp2_with fail;refine Ni.mono ?_;rintro e w5 ⟨g5,hg5,rfl,hI5,hb5⟩;have gY:Hid (Fg w5 w.heap.size T):=au HB hb5;have fG:=Hq (cK.trans (hb5.mono cK.size));have HI5:=Hq hI5;have HS5:=Hq hb5;have aBO:=aA hI5;have hwl:=aA HB;clear hb5 q0 q1 q2 hI5 Ni;obtain⟨s0,s1,s2⟩:=Fg.three gY k Aaa;have f0:=GR.Blk.free gY (k*3);have f1:=GR.Blk.free gY (k*3+1);have f2:=GR.Blk.free gY (k*3+2);go_wp2_with fail;go_roundw
   case rel=>
    have h:=GR.Blk.set gY dK k Aaa ⟨fr,lo,.slice (some ⟨g5,0,none⟩) ids.length ids.length⟩;refine⟨k+1,T.set k ⟨fr,lo,.slice (some ⟨g5,0,none⟩) ids.length ids.length⟩,λi=>if i=k then g5 else I i,Aaa,Aah,h,by simpa using hTl,?_,?_,GR.setW_below (o:=k*3) (Nat.le_refl w.heap.size) (fK ⟨fr,lo,.slice (some ⟨g5,0,none⟩) ids.length ids.length⟩) fG⟩
    .intro i hi;have hsz:∀X:Nat,X < w5.heap.size->X < (GR.setW w5 w.heap.size (k*3) (fK ⟨fr,lo,.slice (some ⟨g5,0,none⟩) ids.length ids.length⟩)).heap.size:=λX hX=>Nat.lt_of_lt_of_le hX (GR.setW_below (B:=0) (a:=w5) (o:=k*3) (Nat.zero_le w.heap.size) _ ⟨rfl,rfl,rfl,Nat.le_refl _,λ_ h=>absurd h (Nat.not_lt_zero _)⟩).size
     by_cases hik:i=k
     .subst hik;simp only[if_true];rw [ah HGD];exact⟨Aaa,hsz _ aBO,by rw [List.getElem?_set_self Aaa],(GR.setW_other (g:=w.heap.size) (g':=g5) Aaa (fK ⟨fr,lo,.slice (some ⟨g5,0,none⟩) ids.length ids.length⟩) (w:=w5) (o:=i*3)).trans HI5⟩
     .simp only[if_neg hik];obtain⟨h1,h2,h3,h4⟩:=ah HI i Aaa;refine⟨h1,hsz _ (Nat.lt_of_lt_of_le h2 HS5.size),by rw [List.getElem?_set_ne Aaa];exact h3,(GR.setW_other (g:=w.heap.size) (g':=I i) Aaa (fK ⟨fr,lo,.slice (some ⟨g5,0,none⟩) ids.length ids.length⟩) (w:=w5) (o:=k*3)).trans (au h4 HS5)⟩
    .intro i j hij hj;by_cases hjk:j=k
     .subst hjk;simp only[if_true,if_neg (show¬i=j by omega)];have:=(HI i Aaa).2.1;omega
     .simp only[if_neg hjk,if_neg (show¬i=k by omega)];exact HIM i j hij Aaa
   case measure=>simp[intOf];omega
  .open anA in exact xL
theorem akZ (s:Sn) (b:Option Addr) (c:Nat) (left:Int) (w:World) (h0:0<=left) (h1:left<=1048576) (hk:s.ids.length<=maxLen):Calls prog 97 #[xC s b c,.int .i64 left] w λe w'=>e= .returned (.int .i64 (if (s.ids.length:Int)<=left then left - s.ids.length else -1))/\aI w w':=by
 obtain⟨fr,lo,ids⟩:=s;dsimp only at hk ⊢;have HI:=Hq (λw1=>acV b c ids left w1 h0 h1 hk);by_cases hc:(ids.length:Int)<=left
 .rw [if_pos hc] at HI ⊢;have hn:¬(left - (ids.length:Int) < 0):=Aaa
  exact ahM
 .rw [if_neg hc] at HI ⊢;exact ahM
theorem ae7 (a:Option Addr) (ca:Nat) (l:List Sn) (z0:Int) (w:World) (h0:0<=z0) (h1:z0<=1048576) (hl:l.length<=maxLen) (hks:∀p∈l,p.ids.length<=maxLen) (ha:gZ w a l):
 Calls prog 42 #[.slice a l.length ca,.int .i64 z0] w λe w'=>∃r:Int,e= .returned (.int .i64 r)/\aI w w'/\(r= -1\/0<=r/\r<=1048576/\l.length<=1048576/\∀p∈l,p.ids.length<=1048576):=by
 have HA:=Hq ha;clear ha;unfold maxLen at hl;by_cases hbig:(l.length:Int)<=z0
 .have hn:¬(z0 - (l.length:Int) < 0):=Aaa
  go_in
  go_wp2_with fail;go_loopw [1,5] (λlf i wr=>∃(k:Nat) (z:Int),k<=l.length/\i= .int .i64 k/\lf= .int .i64 z/\0<=z/\z<=1048576/\(∀p∈l.take k,p.ids.length<=1048576)/\aI w wr) (λ_ i _=>l.length - (intOf i).toNat)
  case atStart=>exact Wv
  case round=>
   open aqU in exact Jh
 .have hn:z0 - (l.length:Int) < 0:=Aaa
  go_in
  exact Vg
theorem aj9 (s:Sn) (b b':Option Addr) (c c':Nat) (w:World) (hl:s.ids.length<=1048600) (ha:bX w b s.ids) (hb:bX w b' s.ids):Calls prog 131 #[xC s b c,xC s b' c'] w (eG w (.bool true)):=by
 obtain⟨fr,lo,ids⟩:=s;dsimp only at hl ha hb ⊢;have hbx:Below w.heap.size w ((w.alloc (.cells #[.int .i64 fr,.int .i64 lo,.slice b ids.length c] 110)).alloc (.cells #[.int .i64 fr,.int .i64 lo,.slice b' ids.length c'] 110)):=(ay w _).alloc Aac _;have HE:=Hq (aaV b b' c c' ids _ hl (GR.At.below ha hbx) (GR.At.below hb hbx));have jN:=Hq hbx;clear ha hb hbx;go_in
 go_wp2_with fail;refine HE.mono ?_;rintro e w1 ⟨rfl,hb1⟩;have HB1:=Hq (jN.trans (hb1.mono jN.size));clear hb1;exact aaF
theorem aei (a b:Option Addr) (ca cb:Nat) (l:List Sn) (w:World) (hl:l.length<=1048600) (hl2:∀s∈l,s.ids.length<=1048600) (ha:gZ w a l) (hb:gZ w b l):
 Calls prog 76 #[.slice a l.length ca,.slice b l.length cb] w (eG w (.bool true)):=by
 have HA:=Hq ha;have HB:=Hq hb;have HL2:=Hq hl2;clear ha hb hl2;go_in
 go_wp2_with fail;go_loopw [5] (λi wr=>∃k:Nat,k<=l.length/\i= .int .i64 k/\aI w wr) (λi _=>l.length - (intOf i).toNat)
 case atStart=>exact AQ
 case round=>
  obtain⟨k,hk,rfl,hbel⟩:=hrel;have cK:=Hq hbel;clear hbel;by_cases hlt:k < l.length
  .obtain⟨g1,o1,b1,c1,e1,hg1,s0,s1,s2,hI1⟩:=gZ.below HA cK k hlt;obtain⟨g2,o2,b2,c2,e2,hg2,t0,t1,t2,hI2⟩:=gZ.below HB cK k hlt;subst e1 e2;have hs:=ah HL2 _ (List.getElem_mem hlt);generalize l[k]=pu at *;have UA:Hid (∀w1,aI wr w1->Calls prog 131 #[xC pu b1 c1,xC pu b2 c2] w1 (eG w1 (.bool true))):=λw1 hbb=>aj9 pu b1 b2 c1 c2 w1 hs (GR.At.below hI1 hbb) (GR.At.below hI2 hbb)
   clear hI1 hI2;obtain⟨fr,lo,ids⟩:=pu;dsimp only at s0 s1 s2 t0 t1 t2 hs;go_wp2_with fail;have cE:∀d os,Calls prog 131 #[xC ⟨fr,lo,ids⟩ b1 c1,xC ⟨fr,lo,ids⟩ b2 c2] (Sort.grow (redrawn wr d) os) λe w''=>e= .returned (.bool true)/\∃p:Regrown,w''=Sort.grow (redrawn wr p.d) p.os:=λd os=>Calls.regrown_of (UA _ (below_regrown wr d os))
   have k0:=cell_grown' s0;have k1:=cell_grown' s1;have k2:=cell_grown' s2;have m0:=cell_grown' t0;have m1:=cell_grown' t1;have m2:=cell_grown' t2;refine wp_region_quiet_below Aab Aab ?_;repeat (first|go_big_quiet_step ((go_at_call 131;exact cE _ _))|quiet_step ((go_at_call 131;exact cE _ _)))
   open avo in exact Va
  .exact R7
theorem Fw:∀(vs:List Value) (w:World) (g o:Nat),w.setCells g o vs=GR.setW w g o vs:=by
 intro vs;induction vs with
 |nil=>intro w g o;rfl
 |cons v vs ih=>intro w g o;exact ih _ _ _
theorem iP (g:Nat):∀(vs:List Value) (_w:World) (_o:Nat),aC [g] _w (_w.setCells g _o vs)
 |[],_,_=>aC.refl _ _
 |v::vs,_,_=>(aC.set v).trans (iP g vs _ _)
theorem kR {B g:Nat} (hg:B<=g):∀(vs:List Value) (a w:World) (o:Nat),Below B a w->Below B a (w.setCells g o vs)
 |[],_,_,_,h=>h
 |v::vs,a,_,_,h=>kR hg vs a _ _ (h.setCell (p:=⟨g,_,none⟩) hg v)
theorem xB {P:Program} {fn:Func} {p:Tmp} {ty:TypeId} (h:fn.results=#[.cell p ty]) (tmps:Array Value) (w:World) (g:Nat) (cs:List Value) (d:TypeDesc)
 (hp:tmps.getD p undef= .pointer (some ⟨g,0,none⟩)) (hc:w.rangeAt g 0 cs) (hu:P.underlying ty=some d) (hd:d.isRow=true) (hi:(P.info? ty).map (·.size)=some cs.length):
 (results fn tmps).run P w= .ok (.agg cs.toArray) w:=by
 have hp':tmps[p]?.getD undef= .pointer (some ⟨g,0,none⟩):=by simpa using hp
 simp[results,h,hp',asAddr,run_loadVar_mid w g 0 ty cs d hc hu hd hi]
structure TO (tl ti:TypeId) (C Z:List Value) (w:World) (M:World->Prop) (L:List Value) (W:World):Prop where
 p:W.heap[w.heap.size]?=some (.cells C.toArray tl (0,0))
 r:W.heap[w.heap.size+1]?=some (.cells Z.toArray ti (0,0))
 o:W.heap[w.heap.size+1+1]?=some (.cells L.toArray ti (0,0))
 b:aI w W
 m:∀W',aC [w.heap.size+1,w.heap.size+1+1] W W'->M W'
section
variable {tl ti:TypeId} {C Z L L2:List Value} {w W W2:World} {M:World->Prop}
theorem TO.s (h:TO tl ti C Z w M L W):w.heap.size+3<=W.heap.size:=aA h.o
theorem TO.step (h:TO tl ti C Z w M L W) (hb:aI W W2) (N:World->Prop) (hN:∀W',aC [w.heap.size+1,w.heap.size+1+1] W2 W'->N W'):TO tl ti C Z w (λW'=>M W'/\N W') L W2:=
 ⟨au h.p hb,au h.r hb,au h.o hb,h.b.trans (hb.mono h.b.size),λW' hk=>⟨h.m W' ((aC.of_below hb).trans hk),hN W' hk⟩⟩
theorem TO.put (h:TO tl ti C Z w M L W) (hk:aC [w.heap.size+1+1] W W2) (h2:W2.heap[w.heap.size+1+1]?=some (.cells L2.toArray ti (0,0))):TO tl ti C Z w M L2 W2:=
 ⟨hk.obj h.p Aag,hk.obj h.r Aac,h2,h.b.trans (hk.below (λx hx=>by rw [List.mem_singleton.1 hx];omega) h.b.size),λW' hk'=>h.m W' ((hk.mono (λx hx=>Aaz)).trans hk')⟩
theorem TO.mid (h:TO tl ti C Z w M L W) (o:Nat) (vs:List Value):TO tl ti C Z w M (GR.setRun L o vs) (W.setCells (w.heap.size+1+1) o vs):=
 h.put (iP _ _ _ _) (by rw [Fw];exact GR.setW_blk vs h.o)
theorem TO.one (h:TO tl ti C Z w M L W) (i:Nat) (v:Value):TO tl ti C Z w M (L.set i v) (W.setCell ⟨w.heap.size+1+1,i,none⟩ v):=
 h.put (aC.set v) (by have:=aN h.o i v;simpa using this)
theorem TO.there (h:TO tl ti C Z w M L W) (o n:Nat) (hn:o+n<=L.length):W.there (w.heap.size+1+1) o n:=λj hj=>⟨by rw [cell_of_row W _ _ _ _ (0,0) h.o];simp;omega,aj h.o _⟩
theorem TO.thereR (h:TO tl ti C Z w M L W):W.there (w.heap.size+1) 0 Z.length:=λj hj=>⟨by rw [cell_of_row W _ _ _ _ (0,0) h.r];simp;omega,aj h.r _⟩
theorem TO.cell (h:TO tl ti C Z w M L W) (i:Nat):W.cell? ⟨w.heap.size,i,none⟩=C[i]?:=by rw [cell_of_row W _ _ _ _ (0,0) h.p];simp
theorem TO.rng (h:TO tl ti C Z w M L W) (o:Nat) (vs:List Value) (hv:(C.drop o).take vs.length=vs):W.rangeAt w.heap.size o vs:=λj v hj=>by
 rw [h.cell,<-List.getElem?_drop];have hl:=(List.getElem?_eq_some_iff.1 hj).1;rw [<-hv,List.getElem?_take_of_lt hl] at hj;exact hj
theorem TO.rngO (h:TO tl ti C Z w M L W):W.rangeAt (w.heap.size+1+1) 0 L:=λj v hj=>by
 rw [cell_of_row W _ _ _ _ (0,0) h.o];simpa using hj
theorem TO.ends (h:TO tl ti C Z w M L W):M (W.setCells (w.heap.size+1) 0 L)/\Below w.heap.size w (W.setCells (w.heap.size+1) 0 L):=
 ⟨h.m _ ((iP _ _ _ _).mono (λx hx=>Aaz)),kR Aaa _ _ _ _ h.b⟩
end
open Go.RowKit Go.Maps
abbrev Ez (x:Int):Lit:= .int .i64 x
theorem aeB {a b:Int} (h:a≠b):Ez a≠Ez b:=λe=>h (by injection e)
theorem qY:Keyed prog 3:=int_keyed underlying3
theorem Px (x:Int) (h0:0<=x) (h1:x<=1000000000):keyOf prog 3 (.int .i64 x)=some (Ez x):=keyOf_int_mk underlying3 (by simp only[Lit.wf,Bool.and_eq_true,decide_eq_true_eq];constructor<;>(first|omega|(unfold IntKind.min;simp;omega)|(unfold IntKind.max;simp;omega)|(simp[IntKind.min,IntKind.max,IntKind.bits,IntKind.signed];omega)))
theorem adh (w:World):(zeroValue 125).run prog w= .ok (.agg #[]) w:=Aab
def fC (w:World) (mb n:Nat) (l:List Int):Prop:=∃D:DataW Unit,w.ownsMap prog 3 unitElem mb n D/\∀x,Maps.has D (Ez x)=decide (x∈l)
theorem fC.made (w:World):fC (w.alloc (.map #[] 0)) w.heap.size 0 []:=⟨_,World.ownsMap_made w _ _ _,λx=>by simp[Maps.has]⟩
theorem fC.lt {w:World} {mb n:Nat} {l:List Int} (h:fC w mb n l):mb < w.heap.size:=h.choose_spec.1.lt
theorem fC.kept {w w':World} {mb n:Nat} {l:List Int} (h:fC w mb n l) (hb:w'.heap[mb]?=w.heap[mb]?):fC w' mb n l:=by
 exact aiE
theorem fC.mono {w:World} {mb n n':Nat} {l:List Int} (h:fC w mb n l) (hn:n<=n'):fC w mb n' l:=by
 obtain⟨D,h1,h2⟩:=h;exact⟨D,h1.mono hn,h2⟩
theorem fC.same {w:World} {mb n:Nat} {l l':List Int} (h:fC w mb n l) (he:∀x,x∈l↔x∈l'):fC w mb n l':=by
 obtain⟨D,h1,h2⟩:=h;exact⟨D,h1,λx=>by rw [h2 x,decide_eq_decide];exact he x⟩
theorem fC.look {w:World} {mb n:Nat} {l:List Int} (h:fC w mb n l) (x:Int) (h0:0<=x) (h1:x<=1000000000):
 (Instr.lookup 291 (.map (some mb)) (.int .i64 x) true).run prog w= .ok (.tuple #[.agg #[],.bool (decide (x∈l))]) w:=by
 obtain⟨D,hown,ha⟩:=h;obtain⟨v,ps,hrun,hv⟩:=hown.look_ok qY underlying291 (adh w) unitElem_mk (Px x h0 h1);rw [hrun,ha x,(unitElem_inv hv).1]
theorem fC.store {w:World} {mb n:Nat} {l:List Int} (h:fC w mb n l) (x:Int) (h0:0<=x) (h1:x<=1000000000) (hn:n < maxLen):
 ∃w',(Instr.mapUpdate 291 (.map (some mb)) (.int .i64 x) (.agg #[])).run prog w= .ok () w'/\fC w' mb (n+1) (x::l)/\Keeps mb w w':=by
 obtain⟨D,hown,ha⟩:=h;obtain⟨w',hrun,g1,g2⟩:=hown.store qY underlying291 hn (Px x h0 h1) unitElem_mk;refine⟨w',hrun,⟨_,g1,λy=>?_⟩,nV g2⟩;by_cases e:y=x
 .subst e;rw [has_put_same hown.isMap (show WideAt.IsKeyLit (Ez y) from trivial)];simp
 .rw [has_put_other (aeB e),ha y];simp[e]
theorem fC.keys {w:World} {mb n:Nat} {D:DataW Unit} {l:List Int} (hown:w.ownsMap prog 3 unitElem mb n D) (ha:∀x,Maps.has D (Ez x)=decide (x∈l)) (hl:l.Nodup):l.Perm (intKeys D):=by
 obtain⟨es,hD,hpw,_⟩:=hown.entries qY;obtain⟨es',hD',hko⟩:=hown.keysOf;obtain rfl:es=es':=by rw [hD] at hD';simpa using hD'
 subst hD;exact perm_intKeys hpw (λp hp=>by obtain⟨v,hv⟩:=hko p hp;obtain⟨x,_,hx,_⟩:=Maps.keyOf_i64 underlying3 hv;exact⟨x,hx⟩) hl (λx=>by rw [ha x];simp)
theorem JV {w:World} {mb n:Nat} {D:DataW Unit} (hown:w.ownsMap prog 3 unitElem mb n D):Maps.size D=(intKeys D).length:=by
 obtain⟨es,hD,_⟩:=hown.entries qY;subst hD;simp[Maps.size,intKeys]
theorem fC.len {w:World} {mb n:Nat} {l:List Int} (h:fC w mb n l) (hl:l.Nodup) (ty:TypeId):(Builtin.len_ #[291] ty #[.map (some mb)]).run prog w= .ok (.int .i64 l.length) w:=by
 obtain⟨D,hown,ha⟩:=h;rw [hown.len underlying291 ty,JV hown,(fC.keys hown ha hl).length_eq]
theorem akO (B sb mb:Nat) (low x:Int) (w:World) (h1:w.heap[B]?=some (.cells #[.pointer (some ⟨sb,0,none⟩)] 264 (0,0))) (h2:w.heap[sb]?=some (.cells #[.int .i64 low,.map (some mb)] 293 (0,0))):
 Calls prog 266 #[.int .i64 x,.agg #[],.pointer (some ⟨B,0,none⟩)] w (eG w (.bool (decide (x < low)))):=by
 have hB:=aA h1;have hS:=aA h2;have c0:w.cell? ⟨B,0,none⟩=some (.pointer (some ⟨sb,0,none⟩)):=cell_of_row w B 0 _ _ (0,0) h1;have c1:w.cell? ⟨sb,0,none⟩=some (.int .i64 low):=cell_of_row w sb 0 _ _ (0,0) h2;clear h1 h2;go_in
 exact Vf
def zD (low:Int):Lit->DataW Unit->Bool
 | .int _ x,_=>decide (x < low)
 |_,_=>false
theorem WX {w:World} {mb n:Nat} {l:List Int} {es:List (Lit×DataW Unit)} (low:Int) (hown:w.ownsMap prog 3 unitElem mb n (.map es)) (ha:∀x,Maps.has (.map es) (Ez x)=decide (x∈l)) (x:Int):
 Maps.has (Lib.deleteFuncD (zD low) (.map es)) (Ez x)=decide (x∈l.filter (λx=>decide (low<=x))):=by
 obtain⟨es',hD',hko⟩:=hown.keysOf;obtain rfl:es=es':=by simpa using hD'
 have hx:=ha x;rw [Bool.eq_iff_iff,decide_eq_true_iff,has_eq,List.any_eq_true] at hx;show Maps.has (.map (es.filter λp=> !zD low p.1 p.2)) (Ez x)=_
 rw [Bool.eq_iff_iff,decide_eq_true_iff,has_eq,List.any_eq_true,List.mem_filter,<-hx,decide_eq_true_iff];constructor
 .rintro⟨p,hp,hs⟩;obtain⟨hp1,hp2⟩:=List.mem_filter.1 hp;refine⟨⟨p,hp1,hs⟩,?_⟩;obtain⟨v,hv⟩:=hko p hp1;obtain⟨y,_,hy,_⟩:=Maps.keyOf_i64 underlying3 hv;rw [hy] at hs hp2;have e:y=x:=by simpa [Lit.sameKey] using hs
  subst e;simpa [zD] using hp2
 .rintro⟨⟨p,hp1,hs⟩,hle⟩;obtain⟨v,hv⟩:=hko p hp1;obtain⟨y,_,hy,_⟩:=Maps.keyOf_i64 underlying3 hv;have hs':=hs;rw [hy] at hs';have e:y=x:=by simpa [Lit.sameKey] using hs'
  subst e;exact⟨p,List.mem_filter.2 ⟨hp1,by rw [hy];simpa [zD] using hle⟩,hs⟩
theorem EP {w w':World} {b:Nat} (g:w.grownBy w' (some b)):_root_.Go.Proofs.YtohmklmkjmlpjaaGreatDoor.Keeps b w w':=⟨g.os,g.tape,g.output,g.size,λk hk hne=>g.block k hk (λe=>hne (Option.some.inj e))⟩
theorem gP {w w':World} (h:aI w w') (row:Option Nat):w.grownBy w' row:=⟨h.os,h.tape,h.output,h.size,λk hk _=>h.block k hk⟩
theorem aj7 (B sb mb n:Nat) (low:Int) (l:List Int) (w:World) (h1:w.heap[B]?=some (.cells #[.pointer (some ⟨sb,0,none⟩)] 264 (0,0))) (h2:w.heap[sb]?=some (.cells #[.int .i64 low,.map (some mb)] 293 (0,0))) (hs:fC w mb n l):
 Calls prog 265 #[.map (some mb),.func (.func 266) #[] #[.pointer (some ⟨B,0,none⟩)]] w λe w'=>e= .returned (.tuple #[])/\fC w' mb n (l.filter (λx=>decide (low<=x)))/\Keeps mb w w':=by
 obtain⟨D,hown,ha⟩:=hs;obtain⟨es0,rfl,hap,hkeys⟩:=hown.entries qY;have hmap:∃es clock,w.heap[mb]?=some (.map es clock):=by obtain⟨es,clock,hb,_⟩:=hown;exact⟨es,clock,hb⟩
 obtain⟨es1,clock1,hmb⟩:=hmap;have hBm:B≠mb:=λe=>by rw [e,hmb] at h1;cases h1
 have hSm:sb≠mb:=λe=>by rw [e,hmb] at h2;cases h2
 have HA:=Hq (WX (n:=n) low hown ha);have HD:=Hq (fun(W:World) (x:Int) (hg:w.grownBy W (some mb))=>akO B sb mb low x W ((hg.block B (aA h1) (by simpa using hBm)).trans h1) ((hg.block sb (aA h2) (by simpa using hSm)).trans h2));clear h1 h2 hmb hBm hSm ha;go_in
 go_wp2_with (first
  |(at_range;refine wpList_range_own _ rfl _ 291 rfl 3 125 qY underlying291 unitElem mb n _ rfl hown ?_;intro w0 hrg0 hg0 hs0)
  |go_in)
 go_frame
 go_loopw [8] (λ_ wr=>∃(left:Lit->Bool) (cnt:Nat),wr.ranges prog 3 unitElem mb w.heap.size n (Fk (zD low) es0 left) left cnt/\w.grownBy wr (some mb))
  (λ_ wr=>wr.rangeLeft mb w.heap.size)
 case atStart=>exact⟨_,_,by rw [Fk_start hkeys];exact hrg0,hg0.but _⟩
 case round=>
  obtain⟨left,cnt,hrg,hgw⟩:=hrel
  go_wp2_with (first
   |(at_next;refine wpList_next_ranges _ rfl _ rfl 3 qY unitElem (Value.int .i64) (λ_:Unit=>Value.agg #[]) (λkey kl hk=>by obtain⟨x,hx,_⟩:=Maps.keyOf_i64 underlying3 hk;exact⟨x,hx⟩) (λv y hv=>⟨(),(unitElem_inv hv).1⟩) mb w.heap.size n _ _ _ rfl hrg ?_ ?_)
   |go_in)
  ·
   intro _ hl0
   go_wp2_with fail
   go_end0
   refine⟨rfl,⟨_,?_,HA⟩,EP hgw⟩
   rw [<-Fk_end hl0]
   exact hrg.owns
  ·
   intro x kl yd yp w1 cnt1 hkey hlx hv hat hrg1 hlt hg1 hs1 hen
   obtain⟨x',ex,rfl,_⟩:=Maps.keyOf_i64 underlying3 hkey
   cases ex
   have hgw1:=hgw.andThen hg1 (λj hj=>by cases hj;exact Or.inl (Nat.le_refl _))
   have hc:=Hq (HD (w1.alloc (.cells #[] 125)) x (hgw1.andThen (World.grownBy_alloc w1 _ none) (λj hj=>by cases hj)))
   have ayr:=hrg1.alloc (.cells #[] 125)
   have hgA:=hgw1.andThen (World.grownBy_alloc w1 (.cells #[] 125) none) (λj hj=>by cases hj)
   by_cases hx:x < low
   .have hp:zD low (Ez x) yd=true:=by simpa [zD] using hx
    have hq:decide (x < low)=true:=Aaf
    go_wp2_with (first
     |(go_at_call 266;refine hc.mono ?_;rintro e w2 ⟨rfl,hb2⟩;have hrg2:=ayr.kept (gP hb2 none) Aac Aac)
     |(at_delete;refine wpList_delete_ranges _ rfl _ _ 291 3 rfl 125 qY underlying291 unitElem mb w.heap.size n _ _ _ rfl hrg2 _ _ rfl hkey ?_;intro w3 cnt3 hrg3 hle hturn;go_frame)
     |go_in)
    rw [strike_twice] at hrg3;go_roundw
    case rel=>exact⟨_,cnt3,by rw [<-Fk_struck hap (qY.key hkey) hlx hp hat];exact hrg3,(hgA.andThen (gP hb2 none) (λj hj=>by cases hj)).andThen hturn.grown (λj hj=>by cases hj;exact Or.inr rfl)⟩
    case measure=>rw [hrg3.left_eq,hrg.left_eq];omega
   .have hp:zD low (Ez x) yd=false:=by simpa [zD] using hx
    have hq:decide (x < low)=false:=Aaf
    go_wp2_with (first
     |(go_at_call 266;refine hc.mono ?_;rintro e w2 ⟨rfl,hb2⟩;have hrg2:=ayr.kept (gP hb2 none) Aac Aac)
     |go_in)
    go_roundw
    case rel=>exact⟨_,cnt1,by rw [<-Fk_stays hap (qY.key hkey) hlx hp hat];exact hrg2,hgA.andThen (gP hb2 none) (λj hj=>by cases hj)⟩
    case measure=>rw [hrg2.left_eq,hrg.left_eq];exact hlt
end Go.Proofs.YtohmklmkjmlpjaaGreatDoor
