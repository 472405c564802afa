/- Parts. -/
import Derived.Test.YtbolgdleijjgfaaGreatDoorRs19
import Derived.Test.YtbolgdleijjgfaaGreatDoorRs20
import Derived.Test.YtbolgdleijjgfaaGreatDoorRs3
namespace Go.Proofs.YtbolgdleijjgfaaGreatDoor
open Go.Proofs.Tryz
set_option maxHeartbeats 4000000
set_option maxRecDepth 100000
open Go.RowKit
open Mth
abbrev yH (s:Sn) (b:Option Addr) (c:Nat):Value:= .agg #[.int .i64 s.f,.int .i64 s.l,.slice b s.ids.length c]
theorem FQ:(prog.info? 130).map (λi=>(i.zero,i.size,i.bytes))=some (some (.agg #[.int .i64 0,.int .i64 0,.slice none 0 0]),3,40):=Aab
theorem acP (n:Nat) (hn:n<=2000000):∀W:World,(Instr.makeSlice 36 (.int .i64 (n:Int)) (.int .i64 (n:Int))).run prog W= .ok (.slice (some ⟨W.heap.size,0,none⟩) n n) (W.alloc (.cells (GR.flat eP (List.replicate n ⟨0,0,.slice none 0 0⟩)).toArray 130)):=by
 obtain⟨i0,hi,hz0,hz1,hz2⟩:=aFm FQ;intro W;have h:=run_make (P:=prog) W 36 130 i0 (.agg #[.int .i64 0,.int .i64 0,.slice none 0 0]) underlying36 hi hz0 .i64 .i64 (n:Int) (n:Int) Aaa Aaa Abd Aaa;rw [hz1] at h;have e:=GR.made_flat eP 3 bg Aaa ⟨0,0,.slice none 0 0⟩ (Value.cells (.agg #[.int .i64 0,.int .i64 0,.slice none 0 0])) rfl n;exact Tf
theorem aN {w:World} {c:Nat} {cs:Array Value} {t:TypeId} (h:w.heap[c]?=some (.cells cs t (0,0))) (i:Nat) (v:Value):(w.setCell ⟨c,i,none⟩ v).heap[c]?=some (.cells (cs.setIfInBounds i v) t (0,0)):=by
 exact VY
theorem jg {w:World} {g g' i:Nat} {v:Value} {o:Option Obj} (h:w.heap[g']?=o) (hne:g'≠g):(w.setCell ⟨g,i,none⟩ v).heap[g']?=o:=by rw [aE9 _ _ _ _ hne,h]
theorem zV (w:World) (a b c:Obj):(((w.alloc a).alloc b).alloc c).heap[w.heap.size]?=some a/\(((w.alloc a).alloc b).alloc c).heap[w.heap.size+1]?=some b/\(((w.alloc a).alloc b).alloc c).heap[w.heap.size+1+1]?=some c/\Below w.heap.size w (((w.alloc a).alloc b).alloc c):=by
 have e1:(w.alloc a).heap.size=w.heap.size+1:=Aac
 have e2:((w.alloc a).alloc b).heap.size=w.heap.size+1+1:=Aac
 have h1:=aEK w a;have h2:=aEK (w.alloc a) b;have h3:=aEK ((w.alloc a).alloc b) c;rw [e1] at h2;rw [e2] at h3;refine⟨?_,?_,h3,((au w _).alloc Aac _).alloc Aah _⟩
 .rw [aEZ _ _ _ (by rw [e2];omega),aEZ _ _ _ (by rw [e1];omega)];exact h1
 .rw [aEZ _ _ _ (by rw [e2];omega)];exact h2
theorem iy {P:Program} {fn:Func} {Q:Ending->World->Prop} {x:Exit} {act:Act} {W:World} (h:∀W',W'=W->bodyPost P fn Q x act W'):bodyPost P fn Q x act W:=h W rfl
theorem alA (s:Sn) (b:Option Addr) (c:Nat) (w:World) (hl:s.ids.length<=1048576) (ha:bC w b s.ids):
 Calls prog 102 #[yH s b c] w λe w'=>∃g,w.heap.size<=g/\e= .returned (yH s (some ⟨g,0,none⟩) s.ids.length)/\lZ w' g s.ids/\aH w w':=by
 obtain⟨fr,lo,ids⟩:=s;dsimp only at hl ha ⊢;have HA:=Hq ha;clear ha;go_in
 go_upto_region 4 with fail;refine wp_at (λW0 hW0=>?_);obtain⟨hP,hR,hO,hB⟩:=zV w (.cells #[.int .i64 fr,.int .i64 lo,.slice b ids.length c] 138) (.cells #[.int .i64 0,.int .i64 0,.slice none 0 0] 130) (.cells #[.int .i64 fr,.int .i64 lo,.slice none 0 0] 130);rw [<-hW0] at hP hR hO hB;have HP:=Hq hP;have HR:=Hq hR;have HO:=Hq hO;have HB:=Hq hB;clear hP hR hO hB hW0;obtain⟨c0,c1,c2⟩:=three HP;have HT:=Hq (adI b c ids W0 hl (GR.At.below HA HB));go_wp2_with fail;refine HT.mono ?_;rintro e w1 ⟨rfl,hblk,hb1⟩;have HR1:=Hq (aj HR hb1);have Hz:=Hq (aj HO hb1);have HI1:=Hq hblk;have HB1:=Hq (HB.trans (hb1.mono HB.size));have HLT:=Hq (ay HO);clear hblk hb1 c0 c1 c2 HT;obtain⟨d0,d1,d2⟩:=three Hz;obtain⟨r0,r1,r2⟩:=three HR1;have f0:=aC Hz 2;have f1:=aC HR1 0;have f2:=aC HR1 1;have f3:=aC HR1 2;go_wp2_with fail;refine iy (λW' hW'=>?_);have hR:=aN (aN (aN (jg (g:=w.heap.size+1+1) (i:=2) (v:= .slice (some ⟨W0.heap.size,0,none⟩) ids.length ids.length) HR1 Aaa) 0 (.int .i64 fr)) 1 (.int .i64 lo)) 2 (.slice (some ⟨W0.heap.size,0,none⟩) ids.length ids.length);obtain⟨x0,x1,x2⟩:=three (show W'.heap[w.heap.size+1]?=some (.cells #[.int .i64 fr,.int .i64 lo,.slice (some ⟨W0.heap.size,0,none⟩) ids.length ids.length] 130 (0,0)) by rw [hW'];exact hR);have hlt:=ah HLT;refine aET (v:=yH ⟨fr,lo,ids⟩ (some ⟨W0.heap.size,0,none⟩) ids.length) (by simp[results,results102,go_sem,x0,x1,x2]) rfl ⟨W0.heap.size,Aaa,rfl,?_,?_⟩
 .rw [hW'];exact jg (jg (jg (jg HI1 Aaa) Aaa) Aaa) Aaa
 .rw [hW'];exact(((HB1.setCell (p:=⟨w.heap.size+1+1,2,none⟩) (by show w.heap.size<=w.heap.size+1+1;omega) _).setCell (p:=⟨w.heap.size+1,0,none⟩) (by show w.heap.size<=w.heap.size+1;omega) _).setCell (p:=⟨w.heap.size+1,1,none⟩) (by show w.heap.size<=w.heap.size+1;omega) _).setCell (p:=⟨w.heap.size+1,2,none⟩) (by show w.heap.size<=w.heap.size+1;omega) _
abbrev Gg (w:World) (g:Nat) (T:List R3):Prop:=GR.Blk eP 130 w g T
theorem Gg.three {w:World} {g:Nat} {l:List R3} (h:Gg w g l) (i:Nat) (hi:i < l.length):w.cell? ⟨g,i*3,none⟩=some (.int .i64 l[i].f)/\w.cell? ⟨g,i*3+1,none⟩=some (.int .i64 l[i].l)/\w.cell? ⟨g,i*3+2,none⟩=some l[i].v:=
 ⟨by simpa using GR.Blk.cell h bg i hi 0 Aaa,by simpa using GR.Blk.cell h bg i hi 1 Aaa,by simpa using GR.Blk.cell h bg i hi 2 Aaa⟩
theorem af3 (a:Option Addr) (cap:Nat) (l:List Sn) (w:World) (hl:l.length<=1048576) (hl2:∀s∈l,s.ids.length<=1048576) (ha:gZ w a l):
 Calls prog 54 #[.slice a l.length cap] w λe w'=>e= .returned (.slice (some ⟨w.heap.size,0,none⟩) l.length l.length)/\(∃(T:List R3) (I:Nat->Nat),Gg w' w.heap.size T/\T.length=l.length/\(∀i,i < l.length->w.heap.size < I i/\I i < w'.heap.size/\T[i]?=some ⟨(l.getD i default).f,(l.getD i default).l,.slice (some ⟨I i,0,none⟩) (l.getD i default).ids.length (l.getD i default).ids.length⟩/\lZ w' (I i) (l.getD i default).ids)/\(∀i j,i < j->j < l.length->I i < I j))/\aH w w':=by
 have hmk:=acP l.length Aaa;have HA:=Hq ha;have HL2:=Hq hl2;clear ha hl2;go_in
 go_wp2_with fail;go_loopw [4] (λi wr=>∃(k:Nat) (T:List R3) (I:Nat->Nat),k<=l.length/\i= .int .i64 k/\Gg wr w.heap.size T/\T.length=l.length/\(∀i,i < k->w.heap.size < I i/\I i < wr.heap.size/\T[i]?=some ⟨(l.getD i default).f,(l.getD i default).l,.slice (some ⟨I i,0,none⟩) (l.getD i default).ids.length (l.getD i default).ids.length⟩/\lZ wr (I i) (l.getD i default).ids)/\(∀i j,i < j->j < k->I i < I j)/\aH w wr) (λi _=>l.length - (intOf i).toNat)
 case atStart=>exact⟨0,List.replicate l.length ⟨0,0,.slice none 0 0⟩,λi=>i,aE1 _,rfl,aEK w _,Aac,λi hi=>Aaa,λi j _ hj=>Aaa,au w _⟩
 case round=>
  obtain⟨k,T,I,hk,rfl,hB,hTl,hI,hIm,hbel⟩:=hrel;have HB:=Hq hB;have aY:=Hq hbel;have HI:=Hq hI;have HIM:=Hq hIm;clear hB hbel hmk hI hIm;by_cases hlt:k < l.length
  .obtain⟨g,off,b,c,e0,hgw,q0,q1,q2,hX⟩:=gZ.below HA aY k hlt;subst e0;have hs:=ah HL2 _ (aE2 hlt);have Oc:=Hq (alA l[k] b c wr hs hX);have hgd:l.getD k default=l[k]:=by rw [aFl,aEQ hlt];rfl
   have HGD:=Hq hgd;clear hX hgd;generalize l[k]=sk at *;obtain⟨fr,lo,ids⟩:=sk;dsimp only at q0 q1 q2 hs;go_wp2_with fail;refine Oc.mono ?_;rintro e w5 ⟨g5,hg5,rfl,hI5,hb5⟩;have gQ:Hid (Gg w5 w.heap.size T):=aj HB hb5;have fI:=Hq (aY.trans (hb5.mono aY.size));have HI5:=Hq hI5;have OH:=Hq hb5;have aCh:=ay hI5;have hwl:=ay HB;clear hb5 q0 q1 q2 hI5 Oc;obtain⟨s0,s1,s2⟩:=Gg.three gQ k Aaa;have f0:=GR.Blk.free gQ (k*3);have f1:=GR.Blk.free gQ (k*3+1);have f2:=GR.Blk.free gQ (k*3+2);go_wp2_with fail;go_roundw
   case rel=>
    have h:=GR.Blk.set gQ bg k Aaa ⟨fr,lo,.slice (some ⟨g5,0,none⟩) ids.length ids.length⟩;refine⟨k+1,T.set k ⟨fr,lo,.slice (some ⟨g5,0,none⟩) ids.length ids.length⟩,λi=>if i=k then g5 else I i,Aaa,Aaf,h,by simpa using hTl,?_,?_,GR.setW_below (o:=k*3) (aEM w.heap.size) (eP ⟨fr,lo,.slice (some ⟨g5,0,none⟩) ids.length ids.length⟩) fI⟩
    .intro i hi;have hsz:∀X:Nat,X < w5.heap.size->X < (GR.setW w5 w.heap.size (k*3) (eP ⟨fr,lo,.slice (some ⟨g5,0,none⟩) ids.length ids.length⟩)).heap.size:=λX hX=>aEU hX (GR.setW_below (B:=0) (a:=w5) (o:=k*3) (aE1 w.heap.size) _ ⟨rfl,rfl,rfl,aEM _,λ_ h=>absurd h (Nat.not_lt_zero _)⟩).size
     by_cases hik:i=k
     .subst hik;simp only[if_true];rw [ah HGD];exact⟨Aaa,hsz _ aCh,by rw [aGr Aaa],(GR.setW_other (g:=w.heap.size) (g':=g5) Aaa (eP ⟨fr,lo,.slice (some ⟨g5,0,none⟩) ids.length ids.length⟩) (w:=w5) (o:=i*3)).trans HI5⟩
     .simp only[aEX hik];obtain⟨h1,h2,h3,h4⟩:=ah HI i Aaa;refine⟨h1,hsz _ (aEU h2 OH.size),by rw [aF5 Aaa];exact h3,(GR.setW_other (g:=w.heap.size) (g':=I i) Aaa (eP ⟨fr,lo,.slice (some ⟨g5,0,none⟩) ids.length ids.length⟩) (w:=w5) (o:=k*3)).trans (aj h4 OH)⟩
    .intro i j hij hj;by_cases hjk:j=k
     .subst hjk;simp only[if_true,aEX (show¬i=j by omega)];have:=(HI i Aaa).2.1;omega
     .simp only[aEX hjk,aEX (show¬i=k by omega)];exact HIM i j hij Aaa
   case measure=>simp[intOf];omega
  .open amS in exact uz
theorem alu (s:Sn) (b:Option Addr) (c:Nat) (left:Int) (w:World) (h0:0<=left) (h1:left<=1048576) (hk:s.ids.length<=maxLen):Calls prog 84 #[yH s b c,.int .i64 left] w λe w'=>e= .returned (.int .i64 (if (s.ids.length:Int)<=left then left - s.ids.length else -1))/\aH w w':=by
 obtain⟨fr,lo,ids⟩:=s;dsimp only at hk ⊢;have HI:=Hq (λw1=>adE b c ids left w1 h0 h1 hk);by_cases hc:(ids.length:Int)<=left
 .rw [aE7 hc] at HI ⊢;have hn:¬(left - (ids.length:Int) < 0):=Aaa
  exact aie
 .rw [aEX hc] at HI ⊢;exact aie
theorem afZ (a:Option Addr) (ca:Nat) (l:List Sn) (z0:Int) (w:World) (h0:0<=z0) (h1:z0<=1048576) (hl:l.length<=maxLen) (hks:∀p∈l,p.ids.length<=maxLen) (ha:gZ w a l):
 Calls prog 42 #[.slice a l.length ca,.int .i64 z0] w λe w'=>∃r:Int,e= .returned (.int .i64 r)/\aH w w'/\(r= -1\/0<=r/\r<=1048576/\l.length<=1048576/\∀p∈l,p.ids.length<=1048576):=by
 have HA:=Hq ha;clear ha;unfold maxLen at hl;by_cases hbig:(l.length:Int)<=z0
 .have hn:¬(z0 - (l.length:Int) < 0):=Aaa
  go_in
  go_wp2_with fail;go_loopw [1,5] (λlf i wr=>∃(k:Nat) (z:Int),k<=l.length/\i= .int .i64 k/\lf= .int .i64 z/\0<=z/\z<=1048576/\(∀p∈l.take k,p.ids.length<=1048576)/\aH w wr) (λ_ i _=>l.length - (intOf i).toNat)
  case atStart=>exact XU
  case round=>
   open ark in exact XP
 .have hn:z0 - (l.length:Int) < 0:=Aaa
  go_in
  exact Wh
theorem akB (s:Sn) (b b':Option Addr) (c c':Nat) (w:World) (hl:s.ids.length<=1048600) (ha:bC w b s.ids) (hb:bC w b' s.ids):Calls prog 119 #[yH s b c,yH s b' c'] w (dM w (.bool true)):=by
 obtain⟨fr,lo,ids⟩:=s;dsimp only at hl ha hb ⊢;have hbx:Below w.heap.size w ((w.alloc (.cells #[.int .i64 fr,.int .i64 lo,.slice b ids.length c] 130)).alloc (.cells #[.int .i64 fr,.int .i64 lo,.slice b' ids.length c'] 130)):=(au w _).alloc Aac _;have HE:=Hq (abD b b' c c' ids _ hl (GR.At.below ha hbx) (GR.At.below hb hbx));have jI:=Hq hbx;clear ha hb hbx;go_in
 go_wp2_with fail;refine HE.mono ?_;rintro e w1 ⟨rfl,hb1⟩;have HB1:=Hq (jI.trans (hb1.mono jI.size));clear hb1;exact abl
theorem afa (a b:Option Addr) (ca cb:Nat) (l:List Sn) (w:World) (hl:l.length<=1048600) (hl2:∀s∈l,s.ids.length<=1048600) (ha:gZ w a l) (hb:gZ w b l):
 Calls prog 68 #[.slice a l.length ca,.slice b l.length cb] w (dM w (.bool true)):=by
 have HA:=Hq ha;have HB:=Hq hb;have HL2:=Hq hl2;clear ha hb hl2;go_in
 go_wp2_with fail;go_loopw [5] (λi wr=>∃k:Nat,k<=l.length/\i= .int .i64 k/\aH w wr) (λi _=>l.length - (intOf i).toNat)
 case atStart=>exact BP
 case round=>
  obtain⟨k,hk,rfl,hbel⟩:=hrel;have aY:=Hq hbel;clear hbel;by_cases hlt:k < l.length
  .obtain⟨g1,o1,b1,c1,e1,hg1,s0,s1,s2,hI1⟩:=gZ.below HA aY k hlt;obtain⟨g2,o2,b2,c2,e2,hg2,t0,t1,t2,hI2⟩:=gZ.below HB aY k hlt;subst e1 e2;have hs:=ah HL2 _ (aE2 hlt);generalize l[k]=pu at *;have Sm:Hid (∀w1,aH wr w1->Calls prog 119 #[yH pu b1 c1,yH pu b2 c2] w1 (dM w1 (.bool true))):=λw1 hbb=>akB pu b1 b2 c1 c2 w1 hs (GR.At.below hI1 hbb) (GR.At.below hI2 hbb)
   clear hI1 hI2;obtain⟨fr,lo,ids⟩:=pu;dsimp only at s0 s1 s2 t0 t1 t2 hs;go_wp2_with fail;have cE:∀d os,Calls prog 119 #[yH ⟨fr,lo,ids⟩ b1 c1,yH ⟨fr,lo,ids⟩ b2 c2] (Sort.grow (redrawn wr d) os) λe w''=>e= .returned (.bool true)/\∃p:Regrown,w''=Sort.grow (redrawn wr p.d) p.os:=λd os=>aFk (Sm _ (aFe wr d os))
   have k0:=cell_grown' s0;have k1:=cell_grown' s1;have k2:=cell_grown' s2;have m0:=cell_grown' t0;have m1:=cell_grown' t1;have m2:=cell_grown' t2;refine aE0 Aab Aab ?_;repeat (first|go_big_quiet_step ((go_at_call 119;exact cE _ _))|quiet_step ((go_at_call 119;exact cE _ _)))
   open avM in exact VU
  .exact SY
namespace Mth
def aDx (id par:Int) (kids fs:List Int):Nd:=⟨id,par,kids,1,[],[],fs.map (λx=>⟨x,1,[]⟩),0,[]⟩
def aDq:Nd:=⟨0,0,[],0,[],[],[],0,[]⟩
end Mth
def aDf (x:Int):R3:=⟨x,1,.slice none 0 0⟩
abbrev nnc (id par:Int) (kv v:Value):Array Value:=#[.int .i64 id,.int .i64 par,kv,.int .i64 1,.slice none 0 0,.slice none 0 0,v,.int .i64 0,.slice none 0 0]
structure NN (w2 wr:World) (nb:Nat) (id par:Int) (kv v:Value) (fs:List Int):Prop where
 keep:aA [nb] w2 wr
 blk:wr.heap[nb]?=some (.cells (nnc id par kv v) 39 (0,0))
 own:wr.ownsRow w2.heap.size 130 3 v fs.length (GR.flat eP (fs.map aDf))
 lt:nb < w2.heap.size
theorem ac4 {w:World} {g:Nat} {a0 a1 a2 a3 a4 a5 a6 a7 a8 b0 b1 b2 b3 b4 b5 b6 b7 b8:Value} {t:TypeId} (h:w.heap[g]?=some (.cells #[a0,a1,a2,a3,a4,a5,a6,a7,a8] t (0,0))):
 (((((((((w.setCell ⟨g,0,none⟩ b0).setCell ⟨g,1,none⟩ b1).setCell ⟨g,2,none⟩ b2).setCell ⟨g,3,none⟩ b3).setCell ⟨g,4,none⟩ b4).setCell ⟨g,5,none⟩ b5).setCell ⟨g,6,none⟩ b6).setCell ⟨g,7,none⟩ b7).setCell ⟨g,8,none⟩ b8).heap[g]?=some (.cells #[b0,b1,b2,b3,b4,b5,b6,b7,b8] t (0,0)):=by
 exact ah4
theorem Uu {w:World} {g:Nat} {b0 b1 b2 b3 b4 b5 b6 b7 b8:Value}:aA [g] w (((((((((w.setCell ⟨g,0,none⟩ b0).setCell ⟨g,1,none⟩ b1).setCell ⟨g,2,none⟩ b2).setCell ⟨g,3,none⟩ b3).setCell ⟨g,4,none⟩ b4).setCell ⟨g,5,none⟩ b5).setCell ⟨g,6,none⟩ b6).setCell ⟨g,7,none⟩ b7).setCell ⟨g,8,none⟩ b8):=
 ((((((((aA.set b0).trans (aA.set b1)).trans (aA.set b2)).trans (aA.set b3)).trans (aA.set b4)).trans (aA.set b5)).trans (aA.set b6)).trans (aA.set b7)).trans (aA.set b8)
theorem aeY (w:World) (a b:Obj):((w.alloc a).alloc b).heap[w.heap.size]?=some a/\((w.alloc a).alloc b).heap[w.heap.size+1]?=some b/\Below w.heap.size w ((w.alloc a).alloc b):=by
 exact ahF
structure TN (w W:World) (P R O:Obj) (rows:List (Nat×Obj)):Prop where
 par:W.heap[w.heap.size]?=some P
 res:W.heap[w.heap.size+1]?=some R
 out:W.heap[w.heap.size+1+1]?=some O
 rows:∀x∈rows,w.heap.size+1+1 < x.1/\W.heap[x.1]?=some x.2
 bel:aH w W
theorem TN.step {w W W':World} {P R O:Obj} {rows:List (Nat×Obj)} (h:TN w W P R O rows) (hb:aH W W'):TN w W' P R O rows:=
 ⟨aj h.par hb,aj h.res hb,aj h.out hb,λx hx=>⟨(h.rows x hx).1,aj (h.rows x hx).2 hb⟩,h.bel.trans (hb.mono h.bel.size)⟩
theorem TN.add {w W:World} {P R O:Obj} {rows:List (Nat×Obj)} (h:TN w W P R O rows) (more:List (Nat×Obj)) (hm:∀x∈more,w.heap.size+1+1 < x.1/\W.heap[x.1]?=some x.2):TN w W P R O (rows++more):=
 ⟨h.par,h.res,h.out,λx hx=>by rcases aE6.1 hx with hx|hx;exact h.rows x hx;exact hm x hx,h.bel⟩
theorem TN.put {w W:World} {P R:Obj} {cs:Array Value} {t:TypeId} {rows:List (Nat×Obj)} (h:TN w W P R (.cells cs t (0,0)) rows) (i:Nat) (v:Value):TN w (W.setCell ⟨w.heap.size+1+1,i,none⟩ v) P R (.cells (cs.setIfInBounds i v) t (0,0)) rows:=
 ⟨jg h.par Aaa,jg h.res Aaa,aN h.out i v,λx hx=>⟨(h.rows x hx).1,jg (h.rows x hx).2 (by have:=(h.rows x hx).1;omega)⟩,h.bel.setCell (p:=⟨w.heap.size+1+1,i,none⟩) (by show w.heap.size<=w.heap.size+1+1;omega) v⟩
theorem dZ.of {w:World} {g:Nat} {T:List R3} {I:Nat->Nat} {l:List Sn} (hT:Gg w g T) (hl:T.length=l.length) (h:∀i,i < l.length->T[i]?=some ⟨(l.getD i default).f,(l.getD i default).l,.slice (some ⟨I i,0,none⟩) (l.getD i default).ids.length (l.getD i default).ids.length⟩/\lZ w (I i) (l.getD i default).ids):dZ w (some ⟨g,0,none⟩) g I l:=by
 refine⟨T,GR.W.of_blk bg hT,hl,λi hi=>?_⟩;have hd:l.getD i default=l[i]:=by rw [aFl,aEQ hi];rfl
 obtain⟨h1,h2⟩:=h i hi;rw [hd] at h1 h2;exact⟨_,_,h1,GR.W.of_blk aW h2⟩
theorem afc {I:Nat->Nat} {l:List Sn} (h:∀i j,i < j->j < l.length->I i < I j):(mX I l).Nodup:=by
 have key:∀m,m<=l.length->((List.range m).flatMap λi=>fp (I i) (l.getD i default).ids).Nodup:=by
  intro m;induction m with
  |zero=>intro _;simp
  |succ m ih=>
   intro hm;rw [aGQ,List.flatMap_append,aFW];refine⟨ih Aaa,by simpa using jD _ _,?_⟩;intro a ha b hb;rw [aGa] at ha;obtain⟨i,hi,hx⟩:=ha;have hi':=aFP.1 hi;have hb':b∈fp (I m) (l.getD m default).ids:=by simpa using hb
   rw [(cu hx).1,(cu hb').1];have:=h i m hi' Aaa;omega
 exact key l.length (aEM _)
theorem adJ (n:Nd) (A:bq) (w:World) (hz:eF n 1048576) (ha:bY w A n):
 Calls Tryz.prog 25 #[gM n A] w λe w'=>∃A',e= .returned (gM n A')/\∃G,gU w' A' G n/\G.Sep n w.heap.size w'.heap.size/\aH w w':=by
 have HZ:=Hq hz;have HA:=Hq ha;clear ha hz;have OI:=Hq (λW (hb:aH w W)=>adI A.k A.ck n.kids W HZ.k (HA.below hb).k);have HTP:=Hq (λW (hb:aH w W)=>adK A.p A.cp n.pu W HZ.p (HA.below hb).p);have Oc:=Hq (λW (hb:aH w W)=>af4 A.o A.co n.out W HZ.o (HA.below hb).o);have HTS:=Hq (λW (hb:aH w W)=>af3 A.s A.cs n.seen W HZ.s HZ.sk (HA.below hb).s);have HTR:=Hq (λW (hb:aH w W)=>alz A.r A.cr n.reqs W HZ.r (HA.below hb).r);clear HA HZ;open an0 in exact vR
theorem abF (n:Nd) (A A':bq) (w:World) (hz:eF n 1048600) (ha:bY w A n) (hb:bY w A' n):
 Calls Tryz.prog 31 #[gM n A,gM n A'] w (dM w (.bool true)):=by
 have HK:=Hq (λw1 (h:aH w w1)=>abD A.k A'.k A.ck A'.ck n.kids w1 hz.k (ha.below h).k (hb.below h).k);have HP:=Hq (λw1 (h:aH w w1)=>abG A.p A'.p A.cp A'.cp n.pu w1 hz.p (ha.below h).p (hb.below h).p);have HO:=Hq (λw1 (h:aH w w1)=>afb A.o A'.o A.co A'.co n.out w1 hz.o (ha.below h).o (hb.below h).o);have HS:=Hq (λw1 (h:aH w w1)=>afa A.s A'.s A.cs A'.cs n.seen w1 hz.s hz.sk (ha.below h).s (hb.below h).s);have HR:=Hq (λw1 (h:aH w w1)=>akA A.r A'.r A.cr A'.cr n.reqs w1 hz.r (ha.below h).r (hb.below h).r);obtain⟨hA0,hB0,hL0⟩:=aeY w (.cells (dH n A) 39) (.cells (dH n A') 39);have HA0:=Hq hA0;have HB0:=Hq hB0;have pJ:=Hq hL0;clear ha hb hz hA0 hB0 hL0;open anZ in exact vR
theorem lH:∀(vs:List Value) (w:World) (g o:Nat),w.setCells g o vs=GR.setW w g o vs:=by
 intro vs;induction vs with
 |nil=>intro w g o;rfl
 |cons v vs ih=>intro w g o;exact ih _ _ _
theorem eB (g:Nat):∀(vs:List Value) (_w:World) (_o:Nat),aA [g] _w (_w.setCells g _o vs)
 |[],_,_=>aA.refl _ _
 |v::vs,_,_=>(aA.set v).trans (eB g vs _ _)
theorem eU {B g:Nat} (hg:B<=g):∀(vs:List Value) (a w:World) (o:Nat),Below B a w->Below B a (w.setCells g o vs)
 |[],_,_,_,h=>h
 |v::vs,a,_,_,h=>eU hg vs a _ _ (h.setCell (p:=⟨g,_,none⟩) hg v)
theorem rZ {P:Program} {fn:Func} {p:Tmp} {ty:TypeId} (h:fn.results=#[.cell p ty]) (tmps:Array Value) (w:World) (g:Nat) (cs:List Value) (d:TypeDesc)
 (hp:tmps.getD p undef= .pointer (some ⟨g,0,none⟩)) (hc:w.rangeAt g 0 cs) (hu:P.underlying ty=some d) (hd:d.isRow=true) (hi:(P.info? ty).map (·.size)=some cs.length):
 (results fn tmps).run P w= .ok (.agg cs.toArray) w:=by
 exact ako
structure TO (tl ti:TypeId) (C Z:List Value) (w:World) (M:World->Prop) (L:List Value) (W:World):Prop where
 p:W.heap[w.heap.size]?=some (.cells C.toArray tl (0,0))
 r:W.heap[w.heap.size+1]?=some (.cells Z.toArray ti (0,0))
 o:W.heap[w.heap.size+1+1]?=some (.cells L.toArray ti (0,0))
 b:aH w W
 m:∀W',aA [w.heap.size+1,w.heap.size+1+1] W W'->M W'
section
variable {tl ti:TypeId} {C Z L L2:List Value} {w W W2:World} {M:World->Prop}
theorem TO.s (h:TO tl ti C Z w M L W):w.heap.size+3<=W.heap.size:=ay h.o
theorem TO.step (h:TO tl ti C Z w M L W) (hb:aH W W2) (N:World->Prop) (hN:∀W',aA [w.heap.size+1,w.heap.size+1+1] W2 W'->N W'):TO tl ti C Z w (λW'=>M W'/\N W') L W2:=
 ⟨aj h.p hb,aj h.r hb,aj h.o hb,h.b.trans (hb.mono h.b.size),λW' hk=>⟨h.m W' ((aA.of_below hb).trans hk),hN W' hk⟩⟩
theorem TO.put (h:TO tl ti C Z w M L W) (hk:aA [w.heap.size+1+1] W W2) (h2:W2.heap[w.heap.size+1+1]?=some (.cells L2.toArray ti (0,0))):TO tl ti C Z w M L2 W2:=
 ⟨hk.obj h.p Aah,hk.obj h.r Aac,h2,h.b.trans (hk.below (λx hx=>Acy) h.b.size),λW' hk'=>h.m W' ((hk.mono (λx hx=>Aba)).trans hk')⟩
theorem TO.mid (h:TO tl ti C Z w M L W) (o:Nat) (vs:List Value):TO tl ti C Z w M (GR.setRun L o vs) (W.setCells (w.heap.size+1+1) o vs):=
 h.put (eB _ _ _ _) (by rw [lH];exact GR.setW_blk vs h.o)
theorem TO.one (h:TO tl ti C Z w M L W) (i:Nat) (v:Value):TO tl ti C Z w M (L.set i v) (W.setCell ⟨w.heap.size+1+1,i,none⟩ v):=
 h.put (aA.set v) (by have:=aN h.o i v;simpa using this)
theorem TO.there (h:TO tl ti C Z w M L W) (o n:Nat) (hn:o+n<=L.length):W.there (w.heap.size+1+1) o n:=λj hj=>⟨by rw [aEW W _ _ _ _ (0,0) h.o];simp;omega,aC h.o _⟩
theorem TO.thereR (h:TO tl ti C Z w M L W):W.there (w.heap.size+1) 0 Z.length:=λj hj=>⟨by rw [aEW W _ _ _ _ (0,0) h.r];simp;omega,aC h.r _⟩
theorem TO.cell (h:TO tl ti C Z w M L W) (i:Nat):W.cell? ⟨w.heap.size,i,none⟩=C[i]?:=by rw [aEW W _ _ _ _ (0,0) h.p];simp
theorem TO.rng (h:TO tl ti C Z w M L W) (o:Nat) (vs:List Value) (hv:(C.drop o).take vs.length=vs):W.rangeAt w.heap.size o vs:=λj v hj=>by
 rw [h.cell,<-List.getElem?_drop];have hl:=(aFF.1 hj).1;rw [<-hv,List.getElem?_take_of_lt hl] at hj;exact hj
theorem TO.rngO (h:TO tl ti C Z w M L W):W.rangeAt (w.heap.size+1+1) 0 L:=λj v hj=>by
 rw [aEW W _ _ _ _ (0,0) h.o];simpa using hj
theorem TO.ends (h:TO tl ti C Z w M L W):M (W.setCells (w.heap.size+1) 0 L)/\Below w.heap.size w (W.setCells (w.heap.size+1) 0 L):=
 ⟨h.m _ ((eB _ _ _ _).mono (λx hx=>Aba)),eU Aaa _ _ _ _ h.b⟩
end
theorem Xm (n:Nd) (A:bq) (z:Int) (w:World) (g0:0<=z) (g1:z<=1048576) (hz:eF n maxLen) (ha:bY w A n):
 Calls Tryz.prog 20 #[gM n A,.int .i64 z] w λe w'=>∃r:Int,e= .returned (.int .i64 r)/\aH w w'/\(r= -1\/0<=r/\r<=1048576/\eF n 1048576):=by
 have HK:=Hq (λz w1 (h0:0<=z) (h1:z<=1048576)=>adE A.k A.ck n.kids z w1 h0 h1 hz.k);have HP:=Hq (λz w1 (hb:aH w w1) (h0:0<=z) (h1:z<=1048576)=>ZH A.p A.cp n.pu z w1 h0 h1 hz.p hz.pk (ha.below hb).p);have HO:=Hq (λz w1 (hb:aH w w1) (h0:0<=z) (h1:z<=1048576)=>af0 A.o A.co n.out z w1 h0 h1 hz.o hz.ok (ha.below hb).o);have HS:=Hq (λz w1 (hb:aH w w1) (h0:0<=z) (h1:z<=1048576)=>afZ A.s A.cs n.seen z w1 h0 h1 hz.s hz.sk (ha.below hb).s);have HR:=Hq (λz w1 (hb:aH w w1) (h0:0<=z) (h1:z<=1048576)=>als A.r A.cr n.reqs z w1 h0 h1 hz.r hz.rk (ha.below hb).r);have HQ:Hid ((n.kids.length<=1048576)->(n.pu.length<=1048576/\∀p∈n.pu,p.k.size<=1048576)->(n.out.length<=1048576/\∀p∈n.out,p.k.size<=1048576)->(n.seen.length<=1048576/\∀p∈n.seen,p.ids.length<=1048576)->(n.reqs.length<=1048576/\∀p∈n.reqs,p.k.size<=1048576)->eF n 1048576):=λh1 h2 h3 h4 h5=>⟨h1,h2.1,h3.1,h4.1,h5.1,h2.2,h3.2,h4.2,h5.2⟩
 have jI:=Hq (aEK w (.cells (dH n A) 28));have hkl:=hz.k;clear ha hz;generalize eF n 1048576=NZ at *;open aob in exact vR
theorem Q0:∀(vs pre xs:List Value),xs.length=vs.length->GR.setRun (pre++xs) pre.length vs=pre++vs:=by
 intro vs;induction vs with
 |nil=>intro pre xs h;rw [aFg h];rfl
 |cons v vs ih=>
  intro pre xs h;cases xs with
  |nil=>simp at h
  |cons x xs=>
   show GR.setRun ((pre++x::xs).set pre.length v) (pre.length+1) vs=pre++v::vs
   have e:(pre++x::xs).set pre.length v=(pre++[v])++xs:=Aac
   have h2:=ih (pre++[v]) xs Abm;rw [e];simpa using h2
theorem KI {w:World} {g:Nat} {t:TypeId} (vs xs:List Value) (hl:xs.length=vs.length) (h:w.heap[g]?=some (.cells xs.toArray t (0,0))):(GR.setW w g 0 vs).heap[g]?=some (.cells vs.toArray t (0,0)):=by
 have h1:=GR.setW_blk vs (o:=0) h;have h2:=Q0 vs [] xs hl;simp only[aF0,List.length_nil] at h2;rw [h2] at h1;exact h1
section
variable {P:Program} {ops:Array Oper} {Q:Exit->Act->World->Prop} {md:Region.Mode} {E r:Nat}
theorem yg (r:Nat):XF (aA [r]):=⟨aA.of_below,aA.trans⟩
abbrev lK (P:Program) (md:Region.Mode) (ops:Array Oper) (Q:Exit->Act->World->Prop) (E r:Nat):Nat->Array Bool->Act->World->Prop:=iC P md ops Q E (aA [r])
theorem kZ {r:Nat} {w:World} {g i:Nat} {v:Value} (h:w.cell? ⟨g,i,none⟩=some v) (hg:g≠r):∀p:But (aA [r]) w,p.x.cell? ⟨g,i,none⟩=some v:=λp=>(aFq (w:=w) (p.h.block g (aFO w _ h) (by simpa using hg))).trans h
theorem ajo (i n:Nat) {oi:Oper} {fuel:Nat} {listed:Array Bool} {a:Act} {w:World} (hi:ops[i]?=some oi) (hs:Region.noSelect ops=true) (hf:Region.free md ops listed i=true) (hr:(Region.ready md ops listed).contains i=true)
 (hcl:pW md ops listed=true) (hE:(Wo md ops E n).contains i=true)
 (hQ:∀v c a w,Q (.panic c) (a.put oi.dst v) w->Q (.panic c) a w)
 (h:∀K:Act->Prop,(∀a',lK P md ops Q E r fuel (listed.setIfInBounds i true) a' w->K a')->if Region.wanted oi (yielded ops a.tmps) then∃v,(∀p:But (aA [r]) w,Oper.quietUpon P (Ge p.x) p.x v ((execOp a.eval oi).run P p.x))/\K (a.put oi.dst v) else K (a.put oi.dst undef)):
 lK P md ops Q E r (fuel+1) listed a w:=lQ i n (yg r) (Tq w) h hi hs hf hr (by rw [hcl,hE];simp) hQ
theorem qW (i:Nat) {oi:Oper} {fuel:Nat} {listed:Array Bool} {a:Act} {w:World} (hi:ops[i]?=some oi) (hr:Region.ready md ops listed=[i]) (hw:Region.wanted oi (yielded ops a.tmps)=true) (Ma:i≠E)
 (h:∀x,Ge w x->oi.wp P a x (λa' y=>aA [r] x y/\lK P md ops Q E r fuel (listed.setIfInBounds i true) a' y) Q):lK P md ops Q E r (fuel+1) listed a w:=vJ i hi hr hw Ma h
theorem nO (i n:Nat) {oi:Oper} {fuel:Nat} {listed:Array Bool} {a:Act} {w:World} (hi:ops[i]?=some oi) (hs:Region.noSelect ops=true) (hf:Region.free md ops listed i=true) (hr:(Region.ready md ops listed).contains i=true)
 (hcl:pW md ops listed=true) (hE:(Wo md ops E n).contains i=true)
 (hQ:∀v c a w,Q (.panic c) (a.put oi.dst v) w->Q (.panic c) a w) (hw:Region.wanted oi (yielded ops a.tmps)=true)
 (ty:TypeId) (x:Operand) (ho:oi.op= .load ty x) (g o:Nat) (hx:a.eval x= .pointer (some ⟨g,o,none⟩)) (cs:List Value) (d:TypeDesc) (hc:w.rangeAt g o cs) (hg:g < w.heap.size/\g≠r)
 (hu:P.underlying ty=some d) (hd:d.isRow=true) (hz:(P.info? ty).map (·.size)=some cs.length)
 (h:lK P md ops Q E r fuel (listed.setIfInBounds i true) (a.put oi.dst (.agg cs.toArray)) w):lK P md ops Q E r (fuel+1) listed a w:=by
 refine qd n (yg r) hi (aGK hs) (hQ _) fuel listed a w (.inr ⟨by simpa using hE,zY hcl⟩) (aGO hi hf) (by simpa using hr) (.inl ⟨hw,λy hy=>?_⟩) h;have hc2:y.rangeAt g o cs:=λj v hv=>(aFq (w:=w) (hy.block g hg.1 (by simpa using hg.2))).trans (hc j v hv)
 unfold execOp;simp only[ho,hx,Instr.loadAt,Instr.sureAddr,Sem.run_bind,Sem.run_pure,Result.andThen_ok,run_loadVar_mid y g o ty cs d hc2 hu hd hz];exact⟨rfl,rfl⟩
theorem zu (i:Nat) {oi:Oper} {fuel:Nat} {listed:Array Bool} {a:Act} {w:World} (hi:ops[i]?=some oi) (hr:Region.ready md ops listed=[i]) (hw:Region.wanted oi (yielded ops a.tmps)=true) (Ma:i≠E)
 (ty:TypeId) (x y:Operand) (ho:oi.op= .store ty x y) (cells:Array Value) (hx:a.eval x= .pointer (some ⟨r,0,none⟩)) (hy:a.eval y= .agg cells) {zs:Array Value} {t:TypeId} (hb:w.heap[r]?=some (.cells zs t (0,0))) (hs:cells.size=zs.size)
 (hn:(P.info? ty).map (·.size)=some cells.size) (h1:cells.all (·.oneCell')=true)
 (h:∀X,aA [r] w X->X.heap[r]?=some (.cells cells t (0,0))->lK P md ops Q E r fuel (listed.setIfInBounds i true) (a.put oi.dst undef) X):lK P md ops Q E r (fuel+1) listed a w:=
 qW i hi hr hw Ma λX hX=>by
  have hbX:=aj hb hX
  refine wp_store_mid ty x y ho r 0 cells hx hy (λj hj=>⟨by rw [aEW X _ _ _ t (0,0) hbX];simp;omega,aC hbX _⟩) hn h1 ⟨eB _ _ _ _,h _ ((aA.of_below hX).trans (eB _ _ _ _)) ?_⟩
  rw [lH]
  exact KI cells.toList zs.toList (by simpa using hs.symm) (by simpa using hbX)
theorem qc {fuel:Nat} {listed:Array Bool} {a:Act} {w:World} (hr:Region.ready md ops listed=[E]) (h:∀x,Ge w x->wpAny P md ops Q (fuel+1) listed a x):lK P md ops Q E r (fuel+1) listed a w:=vI hr h
theorem adY (E r:Nat) {id:Nat} {a:Act} {w:World} (hm:P.follows .mixedOrders=true) (h:lK P .any ops Q E r ops.size (Array.replicate ops.size false) a w):(Code.region id ops true).wp P Q a w:=jZ E hm h
end
end Go.Proofs.YtbolgdleijjgfaaGreatDoor
