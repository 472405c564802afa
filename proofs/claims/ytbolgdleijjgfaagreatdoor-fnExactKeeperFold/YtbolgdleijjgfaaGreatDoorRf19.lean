/- Parts. -/
import Derived.Test.YtbolgdleijjgfaaGreatDoorRf16
import Derived.Test.YtbolgdleijjgfaaGreatDoorRf9
namespace Go.Proofs.YtbolgdleijjgfaaGreatDoor
open Go.Proofs.Tryz
set_option maxHeartbeats 4000000
set_option maxRecDepth 100000
open Go.RowKit
open Mth
abbrev yN (s:Sn) (b:Option Addr) (c:Nat):Value:= .agg #[.int .i64 s.f,.int .i64 s.l,.slice b s.ids.length c]
theorem FZ:(prog.info? 130).map (λi=>(i.zero,i.size,i.bytes))=some (some (.agg #[.int .i64 0,.int .i64 0,.slice none 0 0]),3,40):=Aab
theorem acM (n:Nat) (hn:n<=2000000):∀W:World,(Instr.makeSlice 36 (.int .i64 (n:Int)) (.int .i64 (n:Int))).run prog W= .ok (.slice (some ⟨W.heap.size,0,none⟩) n n) (W.alloc (.cells (GR.flat eX (List.replicate n ⟨0,0,.slice none 0 0⟩)).toArray 130)):=by
 obtain⟨i0,hi,hz0,hz1,hz2⟩:=aFt FZ;intro W;have h:=run_make (P:=prog) W 36 130 i0 (.agg #[.int .i64 0,.int .i64 0,.slice none 0 0]) underlying36 hi hz0 .i64 .i64 (n:Int) (n:Int) Aaa Aaa Abc Aaa;rw [hz1] at h;have e:=GR.made_flat eX 3 bE Aaa ⟨0,0,.slice none 0 0⟩ (Value.cells (.agg #[.int .i64 0,.int .i64 0,.slice none 0 0])) rfl n;exact Tn
theorem aP {w:World} {c:Nat} {cs:Array Value} {t:TypeId} (h:w.heap[c]?=some (.cells cs t (0,0))) (i:Nat) (v:Value):(w.setCell ⟨c,i,none⟩ v).heap[c]?=some (.cells (cs.setIfInBounds i v) t (0,0)):=by
 exact Wj
theorem jq {w:World} {g g' i:Nat} {v:Value} {o:Option Obj} (h:w.heap[g']?=o) (hne:g'≠g):(w.setCell ⟨g,i,none⟩ v).heap[g']?=o:=by rw [aFe _ _ _ _ hne,h]
theorem Ag (w:World) (a b c:Obj):(((w.alloc a).alloc b).alloc c).heap[w.heap.size]?=some a/\(((w.alloc a).alloc b).alloc c).heap[w.heap.size+1]?=some b/\(((w.alloc a).alloc b).alloc c).heap[w.heap.size+1+1]?=some c/\Below w.heap.size w (((w.alloc a).alloc b).alloc c):=by
 have e1:(w.alloc a).heap.size=w.heap.size+1:=Aac
 have e2:((w.alloc a).alloc b).heap.size=w.heap.size+1+1:=Aac
 have h1:=aEP w a;have h2:=aEP (w.alloc a) b;have h3:=aEP ((w.alloc a).alloc b) c;rw [e1] at h2;rw [e2] at h3;refine⟨?_,?_,h3,((au w _).alloc Aac _).alloc Aah _⟩
 .rw [aE4 _ _ _ (by rw [e2];omega),aE4 _ _ _ (by rw [e1];omega)];exact h1
 .rw [aE4 _ _ _ (by rw [e2];omega)];exact h2
theorem iE {P:Program} {fn:Func} {Q:Ending->World->Prop} {x:Exit} {act:Act} {W:World} (h:∀W',W'=W->bodyPost P fn Q x act W'):bodyPost P fn Q x act W:=h W rfl
theorem alq (s:Sn) (b:Option Addr) (c:Nat) (w:World) (hl:s.ids.length<=1048576) (ha:bH w b s.ids):
 Calls prog 102 #[yN s b c] w λe w'=>∃g,w.heap.size<=g/\e= .returned (yN s (some ⟨g,0,none⟩) s.ids.length)/\mJ w' g s.ids/\aH w w':=by
 obtain⟨fr,lo,ids⟩:=s;dsimp only at hl ha ⊢;have HA:=Hq ha;clear ha;go_in
 go_upto_region 4 with fail;refine wp_at (λW0 hW0=>?_);obtain⟨hP,hR,hO,hB⟩:=Ag w (.cells #[.int .i64 fr,.int .i64 lo,.slice b ids.length c] 138) (.cells #[.int .i64 0,.int .i64 0,.slice none 0 0] 130) (.cells #[.int .i64 fr,.int .i64 lo,.slice none 0 0] 130);rw [<-hW0] at hP hR hO hB;have HP:=Hq hP;have HR:=Hq hR;have HO:=Hq hO;have HB:=Hq hB;clear hP hR hO hB hW0;obtain⟨c0,c1,c2⟩:=three HP;have HT:=Hq (adG b c ids W0 hl (GR.At.below HA HB));go_wp2_with fail;refine HT.mono ?_;rintro e w1 ⟨rfl,hblk,hb1⟩;have HR1:=Hq (aj HR hb1);have Ij:=Hq (aj HO hb1);have HI1:=Hq hblk;have HB1:=Hq (HB.trans (hb1.mono HB.size));have HLT:=Hq (ay HO);clear hblk hb1 c0 c1 c2 HT;obtain⟨d0,d1,d2⟩:=three Ij;obtain⟨r0,r1,r2⟩:=three HR1;have f0:=aC Ij 2;have f1:=aC HR1 0;have f2:=aC HR1 1;have f3:=aC HR1 2;go_wp2_with fail;refine iE (λW' hW'=>?_);have hR:=aP (aP (aP (jq (g:=w.heap.size+1+1) (i:=2) (v:= .slice (some ⟨W0.heap.size,0,none⟩) ids.length ids.length) HR1 Aaa) 0 (.int .i64 fr)) 1 (.int .i64 lo)) 2 (.slice (some ⟨W0.heap.size,0,none⟩) ids.length ids.length);obtain⟨x0,x1,x2⟩:=three (show W'.heap[w.heap.size+1]?=some (.cells #[.int .i64 fr,.int .i64 lo,.slice (some ⟨W0.heap.size,0,none⟩) ids.length ids.length] 130 (0,0)) by rw [hW'];exact hR);have hlt:=ah HLT;refine aEY (v:=yN ⟨fr,lo,ids⟩ (some ⟨W0.heap.size,0,none⟩) ids.length) (by simp[results,results102,go_sem,x0,x1,x2]) rfl ⟨W0.heap.size,Aaa,rfl,?_,?_⟩
 .rw [hW'];exact jq (jq (jq (jq HI1 Aaa) Aaa) Aaa) Aaa
 .rw [hW'];exact(((HB1.setCell (p:=⟨w.heap.size+1+1,2,none⟩) (by show w.heap.size<=w.heap.size+1+1;omega) _).setCell (p:=⟨w.heap.size+1,0,none⟩) (by show w.heap.size<=w.heap.size+1;omega) _).setCell (p:=⟨w.heap.size+1,1,none⟩) (by show w.heap.size<=w.heap.size+1;omega) _).setCell (p:=⟨w.heap.size+1,2,none⟩) (by show w.heap.size<=w.heap.size+1;omega) _
abbrev Gs (w:World) (g:Nat) (T:List R3):Prop:=GR.Blk eX 130 w g T
theorem Gs.three {w:World} {g:Nat} {l:List R3} (h:Gs w g l) (i:Nat) (hi:i < l.length):w.cell? ⟨g,i*3,none⟩=some (.int .i64 l[i].f)/\w.cell? ⟨g,i*3+1,none⟩=some (.int .i64 l[i].l)/\w.cell? ⟨g,i*3+2,none⟩=some l[i].v:=
 ⟨by simpa using GR.Blk.cell h bE i hi 0 Aaa,by simpa using GR.Blk.cell h bE i hi 1 Aaa,by simpa using GR.Blk.cell h bE i hi 2 Aaa⟩
theorem afS (a:Option Addr) (cap:Nat) (l:List Sn) (w:World) (hl:l.length<=1048576) (hl2:∀s∈l,s.ids.length<=1048576) (ha:iA w a l):
 Calls prog 54 #[.slice a l.length cap] w λe w'=>e= .returned (.slice (some ⟨w.heap.size,0,none⟩) l.length l.length)/\(∃(T:List R3) (I:Nat->Nat),Gs w' w.heap.size T/\T.length=l.length/\(∀i,i < l.length->w.heap.size < I i/\I i < w'.heap.size/\T[i]?=some ⟨(l.getD i default).f,(l.getD i default).l,.slice (some ⟨I i,0,none⟩) (l.getD i default).ids.length (l.getD i default).ids.length⟩/\mJ w' (I i) (l.getD i default).ids)/\(∀i j,i < j->j < l.length->I i < I j))/\aH w w':=by
 have hmk:=acM l.length Aaa;have HA:=Hq ha;have HL2:=Hq hl2;clear ha hl2;go_in
 go_wp2_with fail;go_loopw [4] (λi wr=>∃(k:Nat) (T:List R3) (I:Nat->Nat),k<=l.length/\i= .int .i64 k/\Gs wr w.heap.size T/\T.length=l.length/\(∀i,i < k->w.heap.size < I i/\I i < wr.heap.size/\T[i]?=some ⟨(l.getD i default).f,(l.getD i default).l,.slice (some ⟨I i,0,none⟩) (l.getD i default).ids.length (l.getD i default).ids.length⟩/\mJ wr (I i) (l.getD i default).ids)/\(∀i j,i < j->j < k->I i < I j)/\aH w wr) (λi _=>l.length - (intOf i).toNat)
 case atStart=>exact⟨0,List.replicate l.length ⟨0,0,.slice none 0 0⟩,λi=>i,aE7 _,rfl,aEP w _,Aac,λi hi=>Aaa,λi j _ hj=>Aaa,au w _⟩
 case round=>
  obtain⟨k,T,I,hk,rfl,hB,hTl,hI,hIm,hbel⟩:=hrel;have HB:=Hq hB;have aZ:=Hq hbel;have HI:=Hq hI;have HIM:=Hq hIm;clear hB hbel hmk hI hIm;by_cases hlt:k < l.length
  .obtain⟨g,off,b,c,e0,hgw,q0,q1,q2,hX⟩:=iA.below HA aZ k hlt;subst e0;have hs:=ah HL2 _ (aE8 hlt);have Og:=Hq (alq l[k] b c wr hs hX);have hgd:l.getD k default=l[k]:=by rw [aFs,aEV hlt];rfl
   have HGD:=Hq hgd;clear hX hgd;generalize l[k]=sk at *;obtain⟨fr,lo,ids⟩:=sk;dsimp only at q0 q1 q2 hs;go_wp2_with fail;refine Og.mono ?_;rintro e w5 ⟨g5,hg5,rfl,hI5,hb5⟩;have gX:Hid (Gs w5 w.heap.size T):=aj HB hb5;have fO:=Hq (aZ.trans (hb5.mono aZ.size));have HI5:=Hq hI5;have Sd:=Hq hb5;have aCm:=ay hI5;have hwl:=ay HB;clear hb5 q0 q1 q2 hI5 Og;obtain⟨s0,s1,s2⟩:=Gs.three gX k Aaa;have f0:=GR.Blk.free gX (k*3);have f1:=GR.Blk.free gX (k*3+1);have f2:=GR.Blk.free gX (k*3+2);go_wp2_with fail;go_roundw
   case rel=>
    have h:=GR.Blk.set gX bE k Aaa ⟨fr,lo,.slice (some ⟨g5,0,none⟩) ids.length ids.length⟩;refine⟨k+1,T.set k ⟨fr,lo,.slice (some ⟨g5,0,none⟩) ids.length ids.length⟩,λi=>if i=k then g5 else I i,Aaa,Aaf,h,by simpa using hTl,?_,?_,GR.setW_below (o:=k*3) (aER w.heap.size) (eX ⟨fr,lo,.slice (some ⟨g5,0,none⟩) ids.length ids.length⟩) fO⟩
    .intro i hi;have hsz:∀X:Nat,X < w5.heap.size->X < (GR.setW w5 w.heap.size (k*3) (eX ⟨fr,lo,.slice (some ⟨g5,0,none⟩) ids.length ids.length⟩)).heap.size:=λX hX=>aEZ hX (GR.setW_below (B:=0) (a:=w5) (o:=k*3) (aE7 w.heap.size) _ ⟨rfl,rfl,rfl,aER _,λ_ h=>absurd h (Nat.not_lt_zero _)⟩).size
     by_cases hik:i=k
     .subst hik;simp only[if_true];rw [ah HGD];exact⟨Aaa,hsz _ aCm,by rw [aGx Aaa],(GR.setW_other (g:=w.heap.size) (g':=g5) Aaa (eX ⟨fr,lo,.slice (some ⟨g5,0,none⟩) ids.length ids.length⟩) (w:=w5) (o:=i*3)).trans HI5⟩
     .simp only[aE2 hik];obtain⟨h1,h2,h3,h4⟩:=ah HI i Aaa;refine⟨h1,hsz _ (aEZ h2 Sd.size),by rw [aGa Aaa];exact h3,(GR.setW_other (g:=w.heap.size) (g':=I i) Aaa (eX ⟨fr,lo,.slice (some ⟨g5,0,none⟩) ids.length ids.length⟩) (w:=w5) (o:=k*3)).trans (aj h4 Sd)⟩
    .intro i j hij hj;by_cases hjk:j=k
     .subst hjk;simp only[if_true,aE2 (show¬i=j by omega)];have:=(HI i Aaa).2.1;omega
     .simp only[aE2 hjk,aE2 (show¬i=k by omega)];exact HIM i j hij Aaa
   case measure=>simp[intOf];omega
  .open amJ in exact uI
theorem alk (s:Sn) (b:Option Addr) (c:Nat) (left:Int) (w:World) (h0:0<=left) (h1:left<=1048576) (hk:s.ids.length<=maxLen):Calls prog 84 #[yN s b c,.int .i64 left] w λe w'=>e= .returned (.int .i64 (if (s.ids.length:Int)<=left then left - s.ids.length else -1))/\aH w w':=by
 obtain⟨fr,lo,ids⟩:=s;dsimp only at hk ⊢;have HI:=Hq (λw1=>adC b c ids left w1 h0 h1 hk);by_cases hc:(ids.length:Int)<=left
 .rw [aFc hc] at HI ⊢;have hn:¬(left - (ids.length:Int) < 0):=Aaa
  exact ah8
 .rw [aE2 hc] at HI ⊢;exact ah8
theorem afP (a:Option Addr) (ca:Nat) (l:List Sn) (z0:Int) (w:World) (h0:0<=z0) (h1:z0<=1048576) (hl:l.length<=maxLen) (hks:∀p∈l,p.ids.length<=maxLen) (ha:iA w a l):
 Calls prog 42 #[.slice a l.length ca,.int .i64 z0] w λe w'=>∃r:Int,e= .returned (.int .i64 r)/\aH w w'/\(r= -1\/0<=r/\r<=1048576/\l.length<=1048576/\∀p∈l,p.ids.length<=1048576):=by
 have HA:=Hq ha;clear ha;unfold maxLen at hl;by_cases hbig:(l.length:Int)<=z0
 .have hn:¬(z0 - (l.length:Int) < 0):=Aaa
  go_in
  go_wp2_with fail;go_loopw [1,5] (λlf i wr=>∃(k:Nat) (z:Int),k<=l.length/\i= .int .i64 k/\lf= .int .i64 z/\0<=z/\z<=1048576/\(∀p∈l.take k,p.ids.length<=1048576)/\aH w wr) (λ_ i _=>l.length - (intOf i).toNat)
  case atStart=>exact XY
  case round=>
   open arf in exact XT
 .have hn:z0 - (l.length:Int) < 0:=Aaa
  go_in
  exact Wm
theorem akt (s:Sn) (b b':Option Addr) (c c':Nat) (w:World) (hl:s.ids.length<=1048600) (ha:bH w b s.ids) (hb:bH w b' s.ids):Calls prog 119 #[yN s b c,yN s b' c'] w (dU w (.bool true)):=by
 obtain⟨fr,lo,ids⟩:=s;dsimp only at hl ha hb ⊢;have hbx:Below w.heap.size w ((w.alloc (.cells #[.int .i64 fr,.int .i64 lo,.slice b ids.length c] 130)).alloc (.cells #[.int .i64 fr,.int .i64 lo,.slice b' ids.length c'] 130)):=(au w _).alloc Aac _;have HE:=Hq (aby b b' c c' ids _ hl (GR.At.below ha hbx) (GR.At.below hb hbx));have jO:=Hq hbx;clear ha hb hbx;go_in
 go_wp2_with fail;refine HE.mono ?_;rintro e w1 ⟨rfl,hb1⟩;have HB1:=Hq (jO.trans (hb1.mono jO.size));clear hb1;exact abg
theorem aeY (a b:Option Addr) (ca cb:Nat) (l:List Sn) (w:World) (hl:l.length<=1048600) (hl2:∀s∈l,s.ids.length<=1048600) (ha:iA w a l) (hb:iA w b l):
 Calls prog 68 #[.slice a l.length ca,.slice b l.length cb] w (dU w (.bool true)):=by
 have HA:=Hq ha;have HB:=Hq hb;have HL2:=Hq hl2;clear ha hb hl2;go_in
 go_wp2_with fail;go_loopw [5] (λi wr=>∃k:Nat,k<=l.length/\i= .int .i64 k/\aH w wr) (λi _=>l.length - (intOf i).toNat)
 case atStart=>exact BZ
 case round=>
  obtain⟨k,hk,rfl,hbel⟩:=hrel;have aZ:=Hq hbel;clear hbel;by_cases hlt:k < l.length
  .obtain⟨g1,o1,b1,c1,e1,hg1,s0,s1,s2,hI1⟩:=iA.below HA aZ k hlt;obtain⟨g2,o2,b2,c2,e2,hg2,t0,t1,t2,hI2⟩:=iA.below HB aZ k hlt;subst e1 e2;have hs:=ah HL2 _ (aE8 hlt);generalize l[k]=pu at *;have Sv:Hid (∀w1,aH wr w1->Calls prog 119 #[yN pu b1 c1,yN pu b2 c2] w1 (dU w1 (.bool true))):=λw1 hbb=>akt pu b1 b2 c1 c2 w1 hs (GR.At.below hI1 hbb) (GR.At.below hI2 hbb)
   clear hI1 hI2;obtain⟨fr,lo,ids⟩:=pu;dsimp only at s0 s1 s2 t0 t1 t2 hs;go_wp2_with fail;have cE:∀d os,Calls prog 119 #[yN ⟨fr,lo,ids⟩ b1 c1,yN ⟨fr,lo,ids⟩ b2 c2] (Sort.grow (redrawn wr d) os) λe w''=>e= .returned (.bool true)/\∃p:Regrown,w''=Sort.grow (redrawn wr p.d) p.os:=λd os=>aFr (Sv _ (aFl wr d os))
   have k0:=cell_grown' s0;have k1:=cell_grown' s1;have k2:=cell_grown' s2;have m0:=cell_grown' t0;have m1:=cell_grown' t1;have m2:=cell_grown' t2;refine aE5 Aab Aab ?_;repeat (first|go_big_quiet_step ((go_at_call 119;exact cE _ _))|quiet_step ((go_at_call 119;exact cE _ _)))
   open avW in exact Wh
  .exact Tj
theorem lU:∀(vs:List Value) (w:World) (g o:Nat),w.setCells g o vs=GR.setW w g o vs:=by
 intro vs;induction vs with
 |nil=>intro w g o;rfl
 |cons v vs ih=>intro w g o;exact ih _ _ _
theorem dz (g:Nat):∀(vs:List Value) (_w:World) (_o:Nat),aA [g] _w (_w.setCells g _o vs)
 |[],_,_=>aA.refl _ _
 |v::vs,_,_=>(aA.set v).trans (dz g vs _ _)
theorem eZ {B g:Nat} (hg:B<=g):∀(vs:List Value) (a w:World) (o:Nat),Below B a w->Below B a (w.setCells g o vs)
 |[],_,_,_,h=>h
 |v::vs,a,_,_,h=>eZ hg vs a _ _ (h.setCell (p:=⟨g,_,none⟩) hg v)
theorem jN {P:Program} {fn:Func} {p:Tmp} {ty:TypeId} (h:fn.results=#[.cell p ty]) (tmps:Array Value) (w:World) (g:Nat) (cs:List Value) (d:TypeDesc)
 (hp:tmps.getD p undef= .pointer (some ⟨g,0,none⟩)) (hc:w.rangeAt g 0 cs) (hu:P.underlying ty=some d) (hd:d.isRow=true) (hi:(P.info? ty).map (·.size)=some cs.length):
 (results fn tmps).run P w= .ok (.agg cs.toArray) w:=by
 exact aia
structure TO (tl ti:TypeId) (C Z:List Value) (w:World) (M:World->Prop) (L:List Value) (W:World):Prop where
 p:W.heap[w.heap.size]?=some (.cells C.toArray tl (0,0))
 r:W.heap[w.heap.size+1]?=some (.cells Z.toArray ti (0,0))
 o:W.heap[w.heap.size+1+1]?=some (.cells L.toArray ti (0,0))
 b:aH w W
 m:∀W',aA [w.heap.size+1,w.heap.size+1+1] W W'->M W'
section
variable {tl ti:TypeId} {C Z L L2:List Value} {w W W2:World} {M:World->Prop}
theorem TO.s (h:TO tl ti C Z w M L W):w.heap.size+3<=W.heap.size:=ay h.o
theorem TO.step (h:TO tl ti C Z w M L W) (hb:aH W W2) (N:World->Prop) (hN:∀W',aA [w.heap.size+1,w.heap.size+1+1] W2 W'->N W'):TO tl ti C Z w (λW'=>M W'/\N W') L W2:=
 ⟨aj h.p hb,aj h.r hb,aj h.o hb,h.b.trans (hb.mono h.b.size),λW' hk=>⟨h.m W' ((aA.of_below hb).trans hk),hN W' hk⟩⟩
theorem TO.put (h:TO tl ti C Z w M L W) (hk:aA [w.heap.size+1+1] W W2) (h2:W2.heap[w.heap.size+1+1]?=some (.cells L2.toArray ti (0,0))):TO tl ti C Z w M L2 W2:=
 ⟨hk.obj h.p Aah,hk.obj h.r Aac,h2,h.b.trans (hk.below (λx hx=>Acv) h.b.size),λW' hk'=>h.m W' ((hk.mono (λx hx=>Aas)).trans hk')⟩
theorem TO.mid (h:TO tl ti C Z w M L W) (o:Nat) (vs:List Value):TO tl ti C Z w M (GR.setRun L o vs) (W.setCells (w.heap.size+1+1) o vs):=
 h.put (dz _ _ _ _) (by rw [lU];exact GR.setW_blk vs h.o)
theorem TO.one (h:TO tl ti C Z w M L W) (i:Nat) (v:Value):TO tl ti C Z w M (L.set i v) (W.setCell ⟨w.heap.size+1+1,i,none⟩ v):=
 h.put (aA.set v) (by have:=aP h.o i v;simpa using this)
theorem TO.there (h:TO tl ti C Z w M L W) (o n:Nat) (hn:o+n<=L.length):W.there (w.heap.size+1+1) o n:=λj hj=>⟨by rw [aE1 W _ _ _ _ (0,0) h.o];simp;omega,aC h.o _⟩
theorem TO.thereR (h:TO tl ti C Z w M L W):W.there (w.heap.size+1) 0 Z.length:=λj hj=>⟨by rw [aE1 W _ _ _ _ (0,0) h.r];simp;omega,aC h.r _⟩
theorem TO.cell (h:TO tl ti C Z w M L W) (i:Nat):W.cell? ⟨w.heap.size,i,none⟩=C[i]?:=by rw [aE1 W _ _ _ _ (0,0) h.p];simp
theorem TO.rng (h:TO tl ti C Z w M L W) (o:Nat) (vs:List Value) (hv:(C.drop o).take vs.length=vs):W.rangeAt w.heap.size o vs:=λj v hj=>by
 rw [h.cell,<-List.getElem?_drop];have hl:=(aFK.1 hj).1;rw [<-hv,List.getElem?_take_of_lt hl] at hj;exact hj
theorem TO.rngO (h:TO tl ti C Z w M L W):W.rangeAt (w.heap.size+1+1) 0 L:=λj v hj=>by
 rw [aE1 W _ _ _ _ (0,0) h.o];simpa using hj
theorem TO.ends (h:TO tl ti C Z w M L W):M (W.setCells (w.heap.size+1) 0 L)/\Below w.heap.size w (W.setCells (w.heap.size+1) 0 L):=
 ⟨h.m _ ((dz _ _ _ _).mono (λx hx=>Aas)),eZ Aaa _ _ _ _ h.b⟩
end
open Go.RowKit Go.Maps
abbrev FM (x:Int):Lit:= .int .i64 x
theorem afg {a b:Int} (h:a≠b):FM a≠FM b:=λe=>h (by injection e)
theorem sK:Keyed prog 3:=int_keyed underlying3
theorem Ql (x:Int) (h0:0<=x) (h1:x<=1000000000):keyOf prog 3 (.int .i64 x)=some (FM x):=keyOf_int_mk underlying3 (by simp only[Lit.wf,aEX,aFf];constructor<;>(first|omega|(unfold IntKind.min;simp;omega)|(unfold IntKind.max;simp;omega)|(simp[IntKind.min,IntKind.max,IntKind.bits,IntKind.signed];omega)))
theorem adV (w:World):(zeroValue 107).run prog w= .ok (.agg #[]) w:=Aab
def fH (w:World) (mb n:Nat) (l:List Int):Prop:=∃D:DataW Unit,w.ownsMap prog 3 unitElem mb n D/\∀x,Maps.has D (FM x)=decide (x∈l)
theorem fH.made (w:World):fH (w.alloc (.map #[] 0)) w.heap.size 0 []:=⟨_,World.ownsMap_made w _ _ _,λx=>by simp[Maps.has]⟩
theorem fH.lt {w:World} {mb n:Nat} {l:List Int} (h:fH w mb n l):mb < w.heap.size:=h.choose_spec.1.lt
theorem fH.kept {w w':World} {mb n:Nat} {l:List Int} (h:fH w mb n l) (hb:w'.heap[mb]?=w.heap[mb]?):fH w' mb n l:=by
 exact aiZ
theorem fH.mono {w:World} {mb n n':Nat} {l:List Int} (h:fH w mb n l) (hn:n<=n'):fH w mb n' l:=by
 obtain⟨D,h1,h2⟩:=h;exact⟨D,h1.mono hn,h2⟩
theorem fH.same {w:World} {mb n:Nat} {l l':List Int} (h:fH w mb n l) (he:∀x,x∈l↔x∈l'):fH w mb n l':=by
 obtain⟨D,h1,h2⟩:=h;exact⟨D,h1,λx=>by rw [h2 x,decide_eq_decide];exact he x⟩
theorem fH.look {w:World} {mb n:Nat} {l:List Int} (h:fH w mb n l) (x:Int) (h0:0<=x) (h1:x<=1000000000):
 (Instr.lookup 304 (.map (some mb)) (.int .i64 x) true).run prog w= .ok (.tuple #[.agg #[],.bool (decide (x∈l))]) w:=by
 obtain⟨D,hown,ha⟩:=h;obtain⟨v,ps,hrun,hv⟩:=hown.look_ok sK underlying304 (adV w) unitElem_mk (Ql x h0 h1);rw [hrun,ha x,(unitElem_inv hv).1]
theorem fH.store {w:World} {mb n:Nat} {l:List Int} (h:fH w mb n l) (x:Int) (h0:0<=x) (h1:x<=1000000000) (hn:n < maxLen):
 ∃w',(Instr.mapUpdate 304 (.map (some mb)) (.int .i64 x) (.agg #[])).run prog w= .ok () w'/\fH w' mb (n+1) (x::l)/\Keeps mb w w':=by
 obtain⟨D,hown,ha⟩:=h;obtain⟨w',hrun,g1,g2⟩:=hown.store sK underlying304 hn (Ql x h0 h1) unitElem_mk;refine⟨w',hrun,⟨_,g1,λy=>?_⟩,pO g2⟩;by_cases e:y=x
 .subst e;rw [has_put_same hown.isMap (show WideAt.IsKeyLit (FM y) from trivial)];simp
 .rw [has_put_other (afg e),ha y];simp[e]
theorem fH.keys {w:World} {mb n:Nat} {D:DataW Unit} {l:List Int} (hown:w.ownsMap prog 3 unitElem mb n D) (ha:∀x,Maps.has D (FM x)=decide (x∈l)) (hl:l.Nodup):l.Perm (intKeys D):=by
 obtain⟨es,hD,hpw,_⟩:=hown.entries sK;obtain⟨es',hD',hko⟩:=hown.keysOf;obtain rfl:es=es':=by rw [hD] at hD';simpa using hD'
 subst hD;exact perm_intKeys hpw (λp hp=>by obtain⟨v,hv⟩:=hko p hp;obtain⟨x,_,hx,_⟩:=Maps.keyOf_i64 underlying3 hv;exact⟨x,hx⟩) hl (λx=>by rw [ha x];simp)
theorem KV {w:World} {mb n:Nat} {D:DataW Unit} (hown:w.ownsMap prog 3 unitElem mb n D):Maps.size D=(intKeys D).length:=by
 obtain⟨es,hD,_⟩:=hown.entries sK;subst hD;simp[Maps.size,intKeys]
theorem fH.len {w:World} {mb n:Nat} {l:List Int} (h:fH w mb n l) (hl:l.Nodup) (ty:TypeId):(Builtin.len_ #[304] ty #[.map (some mb)]).run prog w= .ok (.int .i64 l.length) w:=by
 obtain⟨D,hown,ha⟩:=h;rw [hown.len underlying304 ty,KV hown,(fH.keys hown ha hl).length_eq]
theorem ak7 (B sb mb:Nat) (low x:Int) (w:World) (h1:w.heap[B]?=some (.cells #[.pointer (some ⟨sb,0,none⟩)] 267 (0,0))) (h2:w.heap[sb]?=some (.cells #[.int .i64 low,.map (some mb)] 306 (0,0))):
 Calls prog 278 #[.int .i64 x,.agg #[],.pointer (some ⟨B,0,none⟩)] w (dU w (.bool (decide (x < low)))):=by
 have hB:=ay h1;have hS:=ay h2;have c0:w.cell? ⟨B,0,none⟩=some (.pointer (some ⟨sb,0,none⟩)):=aE1 w B 0 _ _ (0,0) h1;have c1:w.cell? ⟨sb,0,none⟩=some (.int .i64 low):=aE1 w sb 0 _ _ (0,0) h2;clear h1 h2;go_in
 exact Wl
def AU (low:Int):Lit->DataW Unit->Bool
 | .int _ x,_=>decide (x < low)
 |_,_=>false
theorem Yq {w:World} {mb n:Nat} {l:List Int} {es:List (Lit×DataW Unit)} (low:Int) (hown:w.ownsMap prog 3 unitElem mb n (.map es)) (ha:∀x,Maps.has (.map es) (FM x)=decide (x∈l)) (x:Int):
 Maps.has (Lib.deleteFuncD (AU low) (.map es)) (FM x)=decide (x∈l.filter (λx=>decide (low<=x))):=by
 obtain⟨es',hD',hko⟩:=hown.keysOf;obtain rfl:es=es':=by simpa using hD'
 have hx:=ha x;rw [aF7,aFu,has_eq,List.any_eq_true] at hx;show Maps.has (.map (es.filter λp=> !AU low p.1 p.2)) (FM x)=_
 rw [aF7,aFu,has_eq,List.any_eq_true,aGM,<-hx,aFu];constructor
 .rintro⟨p,hp,hs⟩;obtain⟨hp1,hp2⟩:=aGM.1 hp;refine⟨⟨p,hp1,hs⟩,?_⟩;obtain⟨v,hv⟩:=hko p hp1;obtain⟨y,_,hy,_⟩:=Maps.keyOf_i64 underlying3 hv;rw [hy] at hs hp2;have e:y=x:=by simpa [Lit.sameKey] using hs
  subst e;simpa [AU] using hp2
 .rintro⟨⟨p,hp1,hs⟩,hle⟩;obtain⟨v,hv⟩:=hko p hp1;obtain⟨y,_,hy,_⟩:=Maps.keyOf_i64 underlying3 hv;have hs':=hs;rw [hy] at hs';have e:y=x:=by simpa [Lit.sameKey] using hs'
  grind [AU]
theorem F8 {w w':World} {b:Nat} (g:w.grownBy w' (some b)):_root_.Go.Proofs.YtbolgdleijjgfaaGreatDoor.Keeps b w w':=⟨g.os,g.tape,g.output,g.size,λk hk hne=>g.block k hk (λe=>hne (aFI e))⟩
theorem gT {w w':World} (h:aH w w') (row:Option Nat):w.grownBy w' row:=⟨h.os,h.tape,h.output,h.size,λk hk _=>h.block k hk⟩
theorem akr (B sb mb n:Nat) (low:Int) (l:List Int) (w:World) (h1:w.heap[B]?=some (.cells #[.pointer (some ⟨sb,0,none⟩)] 267 (0,0))) (h2:w.heap[sb]?=some (.cells #[.int .i64 low,.map (some mb)] 306 (0,0))) (hs:fH w mb n l):
 Calls prog 277 #[.map (some mb),.func (.func 278) #[] #[.pointer (some ⟨B,0,none⟩)]] w λe w'=>e= .returned (.tuple #[])/\fH w' mb n (l.filter (λx=>decide (low<=x)))/\Keeps mb w w':=by
 obtain⟨D,hown,ha⟩:=hs;obtain⟨es0,rfl,hap,hkeys⟩:=hown.entries sK;have hmap:∃es clock,w.heap[mb]?=some (.map es clock):=by obtain⟨es,clock,hb,_⟩:=hown;exact⟨es,clock,hb⟩
 obtain⟨es1,clock1,hmb⟩:=hmap;have hBm:B≠mb:=λe=>by rw [e,hmb] at h1;cases h1
 have hSm:sb≠mb:=λe=>by rw [e,hmb] at h2;cases h2
 have HA:=Hq (Yq (n:=n) low hown ha);have HD:=Hq (fun(W:World) (x:Int) (hg:w.grownBy W (some mb))=>ak7 B sb mb low x W ((hg.block B (ay h1) (by simpa using hBm)).trans h1) ((hg.block sb (ay h2) (by simpa using hSm)).trans h2));clear h1 h2 hmb hBm hSm ha;go_in
 go_wp2_with (first
  |(at_range;refine wpList_range_own _ rfl _ 304 rfl 3 107 sK underlying304 unitElem mb n _ rfl hown ?_;intro w0 hrg0 hg0 hs0)
  |go_in)
 go_frame
 go_loopw [8] (λ_ wr=>∃(left:Lit->Bool) (cnt:Nat),wr.ranges prog 3 unitElem mb w.heap.size n (Fk (AU low) es0 left) left cnt/\w.grownBy wr (some mb))
  (λ_ wr=>wr.rangeLeft mb w.heap.size)
 case atStart=>exact⟨_,_,by rw [Fk_start hkeys];exact hrg0,hg0.but _⟩
 case round=>
  obtain⟨left,cnt,hrg,hgw⟩:=hrel
  go_wp2_with (first
   |(at_next;refine wpList_next_ranges _ rfl _ rfl 3 sK unitElem (Value.int .i64) (λ_:Unit=>Value.agg #[]) (λkey kl hk=>by obtain⟨x,hx,_⟩:=Maps.keyOf_i64 underlying3 hk;exact⟨x,hx⟩) (λv y hv=>⟨(),(unitElem_inv hv).1⟩) mb w.heap.size n _ _ _ rfl hrg ?_ ?_)
   |go_in)
  ·
   intro _ hl0
   go_wp2_with fail
   go_end0
   refine⟨rfl,⟨_,?_,HA⟩,F8 hgw⟩
   rw [<-Fk_end hl0]
   exact hrg.owns
  ·
   intro x kl yd yp w1 cnt1 hkey hlx hv hat hrg1 hlt hg1 hs1 hen
   obtain⟨x',ex,rfl,_⟩:=Maps.keyOf_i64 underlying3 hkey
   cases ex
   have hgw1:=hgw.andThen hg1 (λj hj=>by cases hj;exact Or.inl (aER _))
   have hc:=Hq (HD (w1.alloc (.cells #[] 107)) x (hgw1.andThen (World.grownBy_alloc w1 _ none) (λj hj=>by cases hj)))
   have ayT:=hrg1.alloc (.cells #[] 107)
   have hgA:=hgw1.andThen (World.grownBy_alloc w1 (.cells #[] 107) none) (λj hj=>by cases hj)
   by_cases hx:x < low
   .have hp:AU low (FM x) yd=true:=by simpa [AU] using hx
    have hq:decide (x < low)=true:=Aag
    go_wp2_with (first
     |(go_at_call 278;refine hc.mono ?_;rintro e w2 ⟨rfl,hb2⟩;have hrg2:=ayT.kept (gT hb2 none) Aac Aac)
     |(at_delete;refine wpList_delete_ranges _ rfl _ _ 304 3 rfl 107 sK underlying304 unitElem mb w.heap.size n _ _ _ rfl hrg2 _ _ rfl hkey ?_;intro w3 cnt3 hrg3 hle hturn;go_frame)
     |go_in)
    rw [strike_twice] at hrg3;go_roundw
    case rel=>exact⟨_,cnt3,by rw [<-Fk_struck hap (sK.key hkey) hlx hp hat];exact hrg3,(hgA.andThen (gT hb2 none) (λj hj=>by cases hj)).andThen hturn.grown (λj hj=>by cases hj;exact Or.inr rfl)⟩
    case measure=>rw [hrg3.left_eq,hrg.left_eq];omega
   .have hp:AU low (FM x) yd=false:=by simpa [AU] using hx
    have hq:decide (x < low)=false:=Aag
    go_wp2_with (first
     |(go_at_call 278;refine hc.mono ?_;rintro e w2 ⟨rfl,hb2⟩;have hrg2:=ayT.kept (gT hb2 none) Aac Aac)
     |go_in)
    go_roundw
    case rel=>exact⟨_,cnt1,by rw [<-Fk_stays hap (sK.key hkey) hlx hp hat];exact hrg2,hgA.andThen (gT hb2 none) (λj hj=>by cases hj)⟩
    case measure=>rw [hrg2.left_eq,hrg.left_eq];exact hlt
theorem Q0:∀(vs pre xs:List Value),xs.length=vs.length->GR.setRun (pre++xs) pre.length vs=pre++vs:=by
 intro vs;induction vs with
 |nil=>intro pre xs h;rw [aFk h];rfl
 |cons v vs ih=>
  intro pre xs h;cases xs with
  |nil=>simp at h
  |cons x xs=>
   show GR.setRun ((pre++x::xs).set pre.length v) (pre.length+1) vs=pre++v::vs
   have e:(pre++x::xs).set pre.length v=(pre++[v])++xs:=Aac
   have h2:=ih (pre++[v]) xs Abm;rw [e];simpa using h2
theorem KU {w:World} {g:Nat} {t:TypeId} (vs xs:List Value) (hl:xs.length=vs.length) (h:w.heap[g]?=some (.cells xs.toArray t (0,0))):(GR.setW w g 0 vs).heap[g]?=some (.cells vs.toArray t (0,0)):=by
 have h1:=GR.setW_blk vs (o:=0) h;have h2:=Q0 vs [] xs hl;simp only[aF5,List.length_nil] at h2;rw [h2] at h1;exact h1
section
variable {P:Program} {ops:Array Oper} {Q:Exit->Act->World->Prop} {md:Region.Mode} {E r:Nat}
theorem vH (r:Nat):XI (aA [r]):=⟨aA.of_below,aA.trans⟩
abbrev jU (P:Program) (md:Region.Mode) (ops:Array Oper) (Q:Exit->Act->World->Prop) (E r:Nat):Nat->Array Bool->Act->World->Prop:=iP P md ops Q E (aA [r])
theorem lJ {r:Nat} {w:World} {g i:Nat} {v:Value} (h:w.cell? ⟨g,i,none⟩=some v) (hg:g≠r):∀p:But (aA [r]) w,p.x.cell? ⟨g,i,none⟩=some v:=λp=>(aFw (w:=w) (p.h.block g (aFT w _ h) (by simpa using hg))).trans h
theorem ajl (i n:Nat) {oi:Oper} {fuel:Nat} {listed:Array Bool} {a:Act} {w:World} (hi:ops[i]?=some oi) (hs:Region.noSelect ops=true) (hf:Region.free md ops listed i=true) (hr:(Region.ready md ops listed).contains i=true)
 (hcl:qj md ops listed=true) (hE:(Wt md ops E n).contains i=true)
 (hQ:∀v c a w,Q (.panic c) (a.put oi.dst v) w->Q (.panic c) a w)
 (h:∀K:Act->Prop,(∀a',jU P md ops Q E r fuel (listed.setIfInBounds i true) a' w->K a')->if Region.wanted oi (yielded ops a.tmps) then∃v,(∀p:But (aA [r]) w,Oper.quietUpon P (Ge p.x) p.x v ((execOp a.eval oi).run P p.x))/\K (a.put oi.dst v) else K (a.put oi.dst undef)):
 jU P md ops Q E r (fuel+1) listed a w:=lZ i n (vH r) (TA w) h hi hs hf hr (by rw [hcl,hE];simp) hQ
theorem rD (i:Nat) {oi:Oper} {fuel:Nat} {listed:Array Bool} {a:Act} {w:World} (hi:ops[i]?=some oi) (hr:Region.ready md ops listed=[i]) (hw:Region.wanted oi (yielded ops a.tmps)=true) (Mf:i≠E)
 (h:∀x,Ge w x->oi.wp P a x (λa' y=>aA [r] x y/\jU P md ops Q E r fuel (listed.setIfInBounds i true) a' y) Q):jU P md ops Q E r (fuel+1) listed a w:=vO i hi hr hw Mf h
theorem nX (i n:Nat) {oi:Oper} {fuel:Nat} {listed:Array Bool} {a:Act} {w:World} (hi:ops[i]?=some oi) (hs:Region.noSelect ops=true) (hf:Region.free md ops listed i=true) (hr:(Region.ready md ops listed).contains i=true)
 (hcl:qj md ops listed=true) (hE:(Wt md ops E n).contains i=true)
 (hQ:∀v c a w,Q (.panic c) (a.put oi.dst v) w->Q (.panic c) a w) (hw:Region.wanted oi (yielded ops a.tmps)=true)
 (ty:TypeId) (x:Operand) (ho:oi.op= .load ty x) (g o:Nat) (hx:a.eval x= .pointer (some ⟨g,o,none⟩)) (cs:List Value) (d:TypeDesc) (hc:w.rangeAt g o cs) (hg:g < w.heap.size/\g≠r)
 (hu:P.underlying ty=some d) (hd:d.isRow=true) (hz:(P.info? ty).map (·.size)=some cs.length)
 (h:jU P md ops Q E r fuel (listed.setIfInBounds i true) (a.put oi.dst (.agg cs.toArray)) w):jU P md ops Q E r (fuel+1) listed a w:=by
 refine qz n (vH r) hi (aGQ hs) (hQ _) fuel listed a w (.inr ⟨by simpa using hE,Aj hcl⟩) (aGT hi hf) (by simpa using hr) (.inl ⟨hw,λy hy=>?_⟩) h;have hc2:y.rangeAt g o cs:=λj v hv=>(aFw (w:=w) (hy.block g hg.1 (by simpa using hg.2))).trans (hc j v hv)
 unfold execOp;simp only[ho,hx,Instr.loadAt,Instr.sureAddr,Sem.run_bind,Sem.run_pure,Result.andThen_ok,run_loadVar_mid y g o ty cs d hc2 hu hd hz];exact⟨rfl,rfl⟩
theorem zF (i:Nat) {oi:Oper} {fuel:Nat} {listed:Array Bool} {a:Act} {w:World} (hi:ops[i]?=some oi) (hr:Region.ready md ops listed=[i]) (hw:Region.wanted oi (yielded ops a.tmps)=true) (Mf:i≠E)
 (ty:TypeId) (x y:Operand) (ho:oi.op= .store ty x y) (cells:Array Value) (hx:a.eval x= .pointer (some ⟨r,0,none⟩)) (hy:a.eval y= .agg cells) {zs:Array Value} {t:TypeId} (hb:w.heap[r]?=some (.cells zs t (0,0))) (hs:cells.size=zs.size)
 (hn:(P.info? ty).map (·.size)=some cells.size) (h1:cells.all (·.oneCell')=true)
 (h:∀X,aA [r] w X->X.heap[r]?=some (.cells cells t (0,0))->jU P md ops Q E r fuel (listed.setIfInBounds i true) (a.put oi.dst undef) X):jU P md ops Q E r (fuel+1) listed a w:=
 rD i hi hr hw Mf λX hX=>by
  have hbX:=aj hb hX
  refine wp_store_mid ty x y ho r 0 cells hx hy (λj hj=>⟨by rw [aE1 X _ _ _ t (0,0) hbX];simp;omega,aC hbX _⟩) hn h1 ⟨dz _ _ _ _,h _ ((aA.of_below hX).trans (dz _ _ _ _)) ?_⟩
  rw [lU]
  exact KU cells.toList zs.toList (by simpa using hs.symm) (by simpa using hbX)
theorem vM {fuel:Nat} {listed:Array Bool} {a:Act} {w:World} (hr:Region.ready md ops listed=[E]) (h:∀x,Ge w x->wpAny P md ops Q (fuel+1) listed a x):jU P md ops Q E r (fuel+1) listed a w:=vN hr h
theorem rE (E r:Nat) {id:Nat} {a:Act} {w:World} (hm:P.follows .mixedOrders=true) (h:jU P .any ops Q E r ops.size (Array.replicate ops.size false) a w):(Code.region id ops true).wp P Q a w:=nu E hm h
end
end Go.Proofs.YtbolgdleijjgfaaGreatDoor
