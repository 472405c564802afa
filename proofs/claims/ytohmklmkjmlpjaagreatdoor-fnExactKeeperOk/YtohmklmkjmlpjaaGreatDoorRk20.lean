/- Parts. -/
import Derived.Test.YtohmklmkjmlpjaaGreatDoorRk17
namespace Go.Proofs.YtohmklmkjmlpjaaGreatDoor
open Go.Proofs.Tryz
set_option maxHeartbeats 4000000
set_option maxRecDepth 100000
open Go.RowKit
open Mth
abbrev xG (s:Sn) (b:Option Addr) (c:Nat):Value:= .agg #[.int .i64 s.f,.int .i64 s.l,.slice b s.ids.length c]
theorem EU:(prog.info? 110).map (λi=>(i.zero,i.size,i.bytes))=some (some (.agg #[.int .i64 0,.int .i64 0,.slice none 0 0]),3,40):=Aab
theorem acJ (n:Nat) (hn:n<=2000000):∀W:World,(Instr.makeSlice 37 (.int .i64 (n:Int)) (.int .i64 (n:Int))).run prog W= .ok (.slice (some ⟨W.heap.size,0,none⟩) n n) (W.alloc (.cells (GR.flat fV (List.replicate n ⟨0,0,.slice none 0 0⟩)).toArray 110)):=by
 obtain⟨i0,hi,hz0,hz1,hz2⟩:=info_parts EU;intro W;have h:=run_make (P:=prog) W 37 110 i0 (.agg #[.int .i64 0,.int .i64 0,.slice none 0 0]) underlying37 hi hz0 .i64 .i64 (n:Int) (n:Int) Aaa Aaa Abc Aaa;rw [hz1] at h;have e:=GR.made_flat fV 3 dK Aaa ⟨0,0,.slice none 0 0⟩ (Value.cells (.agg #[.int .i64 0,.int .i64 0,.slice none 0 0])) rfl n;exact En
theorem aR {w:World} {c:Nat} {cs:Array Value} {t:TypeId} (h:w.heap[c]?=some (.cells cs t (0,0))) (i:Nat) (v:Value):(w.setCell ⟨c,i,none⟩ v).heap[c]?=some (.cells (cs.setIfInBounds i v) t (0,0)):=by
 exact Vv
theorem iT {w:World} {g g' i:Nat} {v:Value} {o:Option Obj} (h:w.heap[g']?=o) (hne:g'≠g):(w.setCell ⟨g,i,none⟩ v).heap[g']?=o:=by rw [Below.heap_setCell _ _ _ _ hne,h]
theorem zh (w:World) (a b c:Obj):(((w.alloc a).alloc b).alloc c).heap[w.heap.size]?=some a/\(((w.alloc a).alloc b).alloc c).heap[w.heap.size+1]?=some b/\(((w.alloc a).alloc b).alloc c).heap[w.heap.size+1+1]?=some c/\Below w.heap.size w (((w.alloc a).alloc b).alloc c):=by
 have e1:(w.alloc a).heap.size=w.heap.size+1:=Aac
 have e2:((w.alloc a).alloc b).heap.size=w.heap.size+1+1:=Aac
 have h1:=heap_alloc_new w a;have h2:=heap_alloc_new (w.alloc a) b;have h3:=heap_alloc_new ((w.alloc a).alloc b) c;rw [e1] at h2;rw [e2] at h3;refine⟨?_,?_,h3,((ay w _).alloc Aac _).alloc Aag _⟩
 .rw [Below.heap_alloc _ _ _ (by rw [e2];omega),Below.heap_alloc _ _ _ (by rw [e1];omega)];exact h1
 .rw [Below.heap_alloc _ _ _ (by rw [e2];omega)];exact h2
theorem aW {P:Program} {fn:Func} {Q:Ending->World->Prop} {x:Exit} {act:Act} {W:World} (h:∀W',W'=W->bodyPost P fn Q x act W'):bodyPost P fn Q x act W:=h W rfl
theorem amc (s:Sn) (b:Option Addr) (c:Nat) (w:World) (hl:s.ids.length<=1048576) (ha:bZ w b s.ids):
 Calls prog 114 #[xG s b c] w λe w'=>∃g,w.heap.size<=g/\e= .returned (xG s (some ⟨g,0,none⟩) s.ids.length)/\lX w' g s.ids/\aI w w':=by
 obtain⟨fr,lo,ids⟩:=s;dsimp only at hl ha ⊢;have HA:=Hq ha;clear ha;go_in
 go_upto_region 4 with fail;refine wp_at (λW0 hW0=>?_);obtain⟨hP,hR,hO,hB⟩:=zh w (.cells #[.int .i64 fr,.int .i64 lo,.slice b ids.length c] 152) (.cells #[.int .i64 0,.int .i64 0,.slice none 0 0] 110) (.cells #[.int .i64 fr,.int .i64 lo,.slice none 0 0] 110);rw [<-hW0] at hP hR hO hB;have HP:=Hq hP;have HR:=Hq hR;have HO:=Hq hO;have HB:=Hq hB;clear hP hR hO hB hW0;obtain⟨c0,c1,c2⟩:=three HP;have HT:=Hq (adw b c ids W0 hl (GR.At.below HA HB));go_wp2_with fail;refine HT.mono ?_;rintro e w1 ⟨rfl,hblk,hb1⟩;have HR1:=Hq (au HR hb1);have Kg:=Hq (au HO hb1);have HI1:=Hq hblk;have HB1:=Hq (HB.trans (hb1.mono HB.size));have HLT:=Hq (aA HO);clear hblk hb1 c0 c1 c2 HT;obtain⟨d0,d1,d2⟩:=three Kg;obtain⟨r0,r1,r2⟩:=three HR1;have f0:=aj Kg 2;have f1:=aj HR1 0;have f2:=aj HR1 1;have f3:=aj HR1 2;go_wp2_with fail;refine aW (λW' hW'=>?_);have hR:=aR (aR (aR (iT (g:=w.heap.size+1+1) (i:=2) (v:= .slice (some ⟨W0.heap.size,0,none⟩) ids.length ids.length) HR1 Aaa) 0 (.int .i64 fr)) 1 (.int .i64 lo)) 2 (.slice (some ⟨W0.heap.size,0,none⟩) ids.length ids.length);obtain⟨x0,x1,x2⟩:=three (show W'.heap[w.heap.size+1]?=some (.cells #[.int .i64 fr,.int .i64 lo,.slice (some ⟨W0.heap.size,0,none⟩) ids.length ids.length] 110 (0,0)) by rw [hW'];exact hR);have hlt:=ah HLT;refine bodyPost_ret (v:=xG ⟨fr,lo,ids⟩ (some ⟨W0.heap.size,0,none⟩) ids.length) (by simp[results,results114,go_sem,x0,x1,x2]) rfl ⟨W0.heap.size,Aaa,rfl,?_,?_⟩
 .rw [hW'];exact iT (iT (iT (iT HI1 Aaa) Aaa) Aaa) Aaa
 .rw [hW'];exact(((HB1.setCell (p:=⟨w.heap.size+1+1,2,none⟩) (by show w.heap.size<=w.heap.size+1+1;omega) _).setCell (p:=⟨w.heap.size+1,0,none⟩) (by show w.heap.size<=w.heap.size+1;omega) _).setCell (p:=⟨w.heap.size+1,1,none⟩) (by show w.heap.size<=w.heap.size+1;omega) _).setCell (p:=⟨w.heap.size+1,2,none⟩) (by show w.heap.size<=w.heap.size+1;omega) _
abbrev Fz (w:World) (g:Nat) (T:List R3):Prop:=GR.Blk fV 110 w g T
theorem Fz.three {w:World} {g:Nat} {l:List R3} (h:Fz w g l) (i:Nat) (hi:i < l.length):w.cell? ⟨g,i*3,none⟩=some (.int .i64 l[i].f)/\w.cell? ⟨g,i*3+1,none⟩=some (.int .i64 l[i].l)/\w.cell? ⟨g,i*3+2,none⟩=some l[i].v:=
 ⟨by simpa using GR.Blk.cell h dK i hi 0 Aaa,by simpa using GR.Blk.cell h dK i hi 1 Aaa,by simpa using GR.Blk.cell h dK i hi 2 Aaa⟩
theorem afO (a:Option Addr) (cap:Nat) (l:List Sn) (w:World) (hl:l.length<=1048576) (hl2:∀s∈l,s.ids.length<=1048576) (ha:iy w a l):
 Calls prog 62 #[.slice a l.length cap] w λe w'=>e= .returned (.slice (some ⟨w.heap.size,0,none⟩) l.length l.length)/\(∃(T:List R3) (I:Nat->Nat),Fz w' w.heap.size T/\T.length=l.length/\(∀i,i < l.length->w.heap.size < I i/\I i < w'.heap.size/\T[i]?=some ⟨(l.getD i default).f,(l.getD i default).l,.slice (some ⟨I i,0,none⟩) (l.getD i default).ids.length (l.getD i default).ids.length⟩/\lX w' (I i) (l.getD i default).ids)/\(∀i j,i < j->j < l.length->I i < I j))/\aI w w':=by
 have hmk:=acJ l.length Aaa;have HA:=Hq ha;have HL2:=Hq hl2;clear ha hl2;go_in
 go_wp2_with fail;go_loopw [4] (λi wr=>∃(k:Nat) (T:List R3) (I:Nat->Nat),k<=l.length/\i= .int .i64 k/\Fz wr w.heap.size T/\T.length=l.length/\(∀i,i < k->w.heap.size < I i/\I i < wr.heap.size/\T[i]?=some ⟨(l.getD i default).f,(l.getD i default).l,.slice (some ⟨I i,0,none⟩) (l.getD i default).ids.length (l.getD i default).ids.length⟩/\lX wr (I i) (l.getD i default).ids)/\(∀i j,i < j->j < k->I i < I j)/\aI w wr) (λi _=>l.length - (intOf i).toNat)
 case atStart=>exact⟨0,List.replicate l.length ⟨0,0,.slice none 0 0⟩,λi=>i,Nat.zero_le _,rfl,heap_alloc_new w _,Aac,λi hi=>Aaa,λi j _ hj=>Aaa,ay w _⟩
 case round=>
  obtain⟨k,T,I,hk,rfl,hB,hTl,hI,hIm,hbel⟩:=hrel;have HB:=Hq hB;have cZ:=Hq hbel;have HI:=Hq hI;have HIM:=Hq hIm;clear hB hbel hmk hI hIm;by_cases hlt:k < l.length
  .obtain⟨g,off,b,c,e0,hgw,q0,q1,q2,hX⟩:=iy.below HA cZ k hlt;subst e0;have hs:=ah HL2 _ (List.getElem_mem hlt);have Np:=Hq (amc l[k] b c wr hs hX);have hgd:l.getD k default=l[k]:=by rw [List.getD_eq_getElem?_getD,List.getElem?_eq_getElem hlt];rfl
   have HGD:=Hq hgd;clear hX hgd;generalize l[k]=sk at *;obtain⟨fr,lo,ids⟩:=sk;dsimp only at q0 q1 q2 hs;go_wp2_with fail;refine Np.mono ?_;rintro e w5 ⟨g5,hg5,rfl,hI5,hb5⟩;have gY:Hid (Fz w5 w.heap.size T):=au HB hb5;have fO:=Hq (cZ.trans (hb5.mono cZ.size));have HI5:=Hq hI5;have HS5:=Hq hb5;have aFJ:=aA hI5;have hwl:=aA HB;clear hb5 q0 q1 q2 hI5 Np;obtain⟨s0,s1,s2⟩:=Fz.three gY k Aaa;have f0:=GR.Blk.free gY (k*3);have f1:=GR.Blk.free gY (k*3+1);have f2:=GR.Blk.free gY (k*3+2);go_wp2_with fail;go_roundw
   case rel=>
    have h:=GR.Blk.set gY dK k Aaa ⟨fr,lo,.slice (some ⟨g5,0,none⟩) ids.length ids.length⟩;refine⟨k+1,T.set k ⟨fr,lo,.slice (some ⟨g5,0,none⟩) ids.length ids.length⟩,λi=>if i=k then g5 else I i,Aaa,Aah,h,by simpa using hTl,?_,?_,GR.setW_below (o:=k*3) (Nat.le_refl w.heap.size) (fV ⟨fr,lo,.slice (some ⟨g5,0,none⟩) ids.length ids.length⟩) fO⟩
    .intro i hi;have hsz:∀X:Nat,X < w5.heap.size->X < (GR.setW w5 w.heap.size (k*3) (fV ⟨fr,lo,.slice (some ⟨g5,0,none⟩) ids.length ids.length⟩)).heap.size:=λX hX=>Nat.lt_of_lt_of_le hX (GR.setW_below (B:=0) (a:=w5) (o:=k*3) (Nat.zero_le w.heap.size) _ ⟨rfl,rfl,rfl,Nat.le_refl _,λ_ h=>absurd h (Nat.not_lt_zero _)⟩).size
     by_cases hik:i=k
     .subst hik;simp only[if_true];rw [ah HGD];exact⟨Aaa,hsz _ aFJ,by rw [List.getElem?_set_self Aaa],(GR.setW_other (g:=w.heap.size) (g':=g5) Aaa (fV ⟨fr,lo,.slice (some ⟨g5,0,none⟩) ids.length ids.length⟩) (w:=w5) (o:=i*3)).trans HI5⟩
     .simp only[if_neg hik];obtain⟨h1,h2,h3,h4⟩:=ah HI i Aaa;refine⟨h1,hsz _ (Nat.lt_of_lt_of_le h2 HS5.size),by rw [List.getElem?_set_ne Aaa];exact h3,(GR.setW_other (g:=w.heap.size) (g':=I i) Aaa (fV ⟨fr,lo,.slice (some ⟨g5,0,none⟩) ids.length ids.length⟩) (w:=w5) (o:=k*3)).trans (au h4 HS5)⟩
    .intro i j hij hj;by_cases hjk:j=k
     .subst hjk;simp only[if_true,if_neg (show¬i=j by omega)];have:=(HI i Aaa).2.1;omega
     .simp only[if_neg hjk,if_neg (show¬i=k by omega)];exact HIM i j hij Aaa
   case measure=>simp[intOf];omega
  .open apw in exact xP
theorem al7 (s:Sn) (b:Option Addr) (c:Nat) (left:Int) (w:World) (h0:0<=left) (h1:left<=1048576) (hk:s.ids.length<=maxLen):Calls prog 97 #[xG s b c,.int .i64 left] w λe w'=>e= .returned (.int .i64 (if (s.ids.length:Int)<=left then left - s.ids.length else -1))/\aI w w':=by
 obtain⟨fr,lo,ids⟩:=s;dsimp only at hk ⊢;have HI:=Hq (λw1=>ads b c ids left w1 h0 h1 hk);by_cases hc:(ids.length:Int)<=left
 .rw [if_pos hc] at HI ⊢;have hn:¬(left - (ids.length:Int) < 0):=Aaa
  exact ai6
 .rw [if_neg hc] at HI ⊢;exact ai6
theorem afL (a:Option Addr) (ca:Nat) (l:List Sn) (z0:Int) (w:World) (h0:0<=z0) (h1:z0<=1048576) (hl:l.length<=maxLen) (hks:∀p∈l,p.ids.length<=maxLen) (ha:iy w a l):
 Calls prog 42 #[.slice a l.length ca,.int .i64 z0] w λe w'=>∃r:Int,e= .returned (.int .i64 r)/\aI w w'/\(r= -1\/0<=r/\r<=1048576/\l.length<=1048576/\∀p∈l,p.ids.length<=1048576):=by
 have HA:=Hq ha;clear ha;unfold maxLen at hl;by_cases hbig:(l.length:Int)<=z0
 .have hn:¬(z0 - (l.length:Int) < 0):=Aaa
  go_in
  go_wp2_with fail;go_loopw [1,5] (λlf i wr=>∃(k:Nat) (z:Int),k<=l.length/\i= .int .i64 k/\lf= .int .i64 z/\0<=z/\z<=1048576/\(∀p∈l.take k,p.ids.length<=1048576)/\aI w wr) (λ_ i _=>l.length - (intOf i).toNat)
  case atStart=>exact Xc
  case round=>
   open aum in exact Jf
 .have hn:z0 - (l.length:Int) < 0:=Aaa
  go_in
  exact Vx
theorem alj (s:Sn) (b b':Option Addr) (c c':Nat) (w:World) (hl:s.ids.length<=1048600) (ha:bZ w b s.ids) (hb:bZ w b' s.ids):Calls prog 131 #[xG s b c,xG s b' c'] w (eO w (.bool true)):=by
 obtain⟨fr,lo,ids⟩:=s;dsimp only at hl ha hb ⊢;have hbx:Below w.heap.size w ((w.alloc (.cells #[.int .i64 fr,.int .i64 lo,.slice b ids.length c] 110)).alloc (.cells #[.int .i64 fr,.int .i64 lo,.slice b' ids.length c'] 110)):=(ay w _).alloc Aac _;have HE:=Hq (aby b b' c c' ids _ hl (GR.At.below ha hbx) (GR.At.below hb hbx));have jP:=Hq hbx;clear ha hb hbx;go_in
 go_wp2_with fail;refine HE.mono ?_;rintro e w1 ⟨rfl,hb1⟩;have HB1:=Hq (jP.trans (hb1.mono jP.size));clear hb1;exact abg
theorem aeX (a b:Option Addr) (ca cb:Nat) (l:List Sn) (w:World) (hl:l.length<=1048600) (hl2:∀s∈l,s.ids.length<=1048600) (ha:iy w a l) (hb:iy w b l):
 Calls prog 76 #[.slice a l.length ca,.slice b l.length cb] w (eO w (.bool true)):=by
 have HA:=Hq ha;have HB:=Hq hb;have HL2:=Hq hl2;clear ha hb hl2;go_in
 go_wp2_with fail;go_loopw [5] (λi wr=>∃k:Nat,k<=l.length/\i= .int .i64 k/\aI w wr) (λi _=>l.length - (intOf i).toNat)
 case atStart=>exact AZ
 case round=>
  obtain⟨k,hk,rfl,hbel⟩:=hrel;have cZ:=Hq hbel;clear hbel;by_cases hlt:k < l.length
  .obtain⟨g1,o1,b1,c1,e1,hg1,s0,s1,s2,hI1⟩:=iy.below HA cZ k hlt;obtain⟨g2,o2,b2,c2,e2,hg2,t0,t1,t2,hI2⟩:=iy.below HB cZ k hlt;subst e1 e2;have hs:=ah HL2 _ (List.getElem_mem hlt);generalize l[k]=pu at *;have UJ:Hid (∀w1,aI wr w1->Calls prog 131 #[xG pu b1 c1,xG pu b2 c2] w1 (eO w1 (.bool true))):=λw1 hbb=>alj pu b1 b2 c1 c2 w1 hs (GR.At.below hI1 hbb) (GR.At.below hI2 hbb)
   clear hI1 hI2;obtain⟨fr,lo,ids⟩:=pu;dsimp only at s0 s1 s2 t0 t1 t2 hs;go_wp2_with fail;have cE:∀d os,Calls prog 131 #[xG ⟨fr,lo,ids⟩ b1 c1,xG ⟨fr,lo,ids⟩ b2 c2] (Sort.grow (redrawn wr d) os) λe w''=>e= .returned (.bool true)/\∃p:Regrown,w''=Sort.grow (redrawn wr p.d) p.os:=λd os=>Calls.regrown_of (UJ _ (below_regrown wr d os))
   have k0:=cell_grown' s0;have k1:=cell_grown' s1;have k2:=cell_grown' s2;have m0:=cell_grown' t0;have m1:=cell_grown' t1;have m2:=cell_grown' t2;refine wp_region_quiet_below Aab Aab ?_;repeat (first|go_big_quiet_step ((go_at_call 131;exact cE _ _))|quiet_step ((go_at_call 131;exact cE _ _)))
   open azr in exact Vr
  .exact Sk
theorem alP (n:Int) (w:World):Calls prog 207 #[.int .i64 n] w λe w'=>e= .returned (.bool (decide (xM n 0 1000000000)))/\w=w':=by
 by_cases h0:0<=n
 .by_cases h1:n<=1000000000
  .rw [decide_eq_true (show xM n 0 1000000000 from⟨h0,h1⟩)];exact aaY
  .rw [decide_eq_false (show¬xM n 0 1000000000 from λh=>h1 h.2)];exact aaY
 .rw [decide_eq_false (show¬xM n 0 1000000000 from λh=>h0 h.1)];exact aaY
theorem j6 (n:Int) (b:Bool) (w:World) (h:qy n=b):Calls prog 207 #[.int .i64 n] w λe w'=>e= .returned (.bool b)/\w=w':=by
 have e:decide (xM n 0 1000000000)=b:=h;rw [<-e];exact alP n w
theorem zD (s:ByteArray) (b:Bool) (w:World) (h:keyOk s.data.toList=b):Calls prog 204 #[.string s] w λe w'=>e= .returned (.bool b)/\w=w':=by
 rw [<-h];exact Js s w
theorem aci (p:Pu) (w:World):Calls prog 202 #[wU p] w (eO w (.bool (iD p))):=by
 obtain⟨pk,pm,pf,ps⟩:=p;cases hk:keyOk pk.data.toList
 case' false=>
  have HP:=Hq (show iD ⟨pk,pm,pf,ps⟩=false by simp[iD,hk]);have HK:=Hq (λw1=>zD pk false w1 hk);clear hk;go_in
  go_wp2_with (go_at_call 204;refine(HK _).mono ?_;rintro e w1 ⟨rfl,rfl⟩)
  exact OA
 have HK:=Hq (λw1=>zD pk true w1 hk);cases h1:qy pm
 case' false=>
  have HP:=Hq (show iD ⟨pk,pm,pf,ps⟩=false by simp[iD,h1]);have H1:=Hq (λw1=>j6 pm false w1 h1);clear hk h1;go_in
  go_wp2_with (first|(go_at_call 204;refine(HK _).mono ?_;rintro e w1 ⟨rfl,rfl⟩)|(go_at_call 207;refine(H1 _).mono ?_;rintro e w1 ⟨rfl,rfl⟩))
  exact OA
 have H1:=Hq (λw1=>j6 pm true w1 h1);cases h2:qy pf
 case' false=>
  have HP:=Hq (show iD ⟨pk,pm,pf,ps⟩=false by simp[iD,h2]);have H2:=Hq (λw1=>j6 pf false w1 h2);clear hk h1 h2;go_in
  go_wp2_with (first|(go_at_call 204;refine(HK _).mono ?_;rintro e w1 ⟨rfl,rfl⟩)|(go_at_call_of 207 pm;refine(H1 _).mono ?_;rintro e w1 ⟨rfl,rfl⟩)|(go_at_call_of 207 pf;refine(H2 _).mono ?_;rintro e w1 ⟨rfl,rfl⟩))
  exact OA
 have H2:=Hq (λw1=>j6 pf true w1 h2);cases h3:qy ps
 case' false=>
  have HP:=Hq (show iD ⟨pk,pm,pf,ps⟩=false by simp[iD,h3]);have H3:=Hq (λw1=>j6 ps false w1 h3);clear hk h1 h2 h3;go_in
  go_wp2_with (first|(go_at_call 204;refine(HK _).mono ?_;rintro e w1 ⟨rfl,rfl⟩)|(go_at_call_of 207 pm;refine(H1 _).mono ?_;rintro e w1 ⟨rfl,rfl⟩)|(go_at_call_of 207 pf;refine(H2 _).mono ?_;rintro e w1 ⟨rfl,rfl⟩)|(go_at_call_of 207 ps;refine(H3 _).mono ?_;rintro e w1 ⟨rfl,rfl⟩))
  exact OA
 have H3:=Hq (λw1=>j6 ps true w1 h3);have g2:0<=pf/\pf<=1000000000:=of_decide_eq_true h2;have g3:0<=ps/\ps<=1000000000:=of_decide_eq_true h3;obtain⟨g20,g21⟩:=g2;obtain⟨g30,g31⟩:=g3;have HP:=Hq (show iD ⟨pk,pm,pf,ps⟩=qy (pf+ps) by simp[iD,hk,h1,h2,h3]);have H4:=Hq (λw1=>j6 (pf+ps) _ w1 rfl);clear hk h1 h2 h3;go_in
 go_wp2_with (first|(go_at_call 204;refine(HK _).mono ?_;rintro e w1 ⟨rfl,rfl⟩)|(go_at_call_of 207 pm;refine(H1 _).mono ?_;rintro e w1 ⟨rfl,rfl⟩)|(go_at_call_of 207 pf;refine(H2 _).mono ?_;rintro e w1 ⟨rfl,rfl⟩)|(go_at_call_of 207 ps;refine(H3 _).mono ?_;rintro e w1 ⟨rfl,rfl⟩)|(go_at_call_of 207 (pf+ps);refine(H4 _).mono ?_;rintro e w1 ⟨rfl,rfl⟩))
 exact OA
theorem ES (p:Pu) (w:World) (hk:p.k.size<=1048576):Calls prog 154 #[wU p] w (eO w (wU p)):=by
 obtain⟨pk,pm,pf,ps⟩:=p;have HC:=Hq (λw1=>clone pk w1 (by dsimp only at hk;omega));clear hk;go_in
 go_wp2_with fail;refine(HC _).mono ?_;rintro e w1 ⟨rfl,hb1⟩;obtain⟨hA,hB,hz,hbel⟩:=Fo.two_blocks hb1;have HB:=Hq hB;have cZ:=Hq hbel;obtain⟨⟨p0,p1,p2,p3⟩,q0,q1,q2,q3⟩:=gD hA;obtain⟨⟨r0,r1,r2,r3⟩,s0,s1,s2,s3⟩:=gD hB;clear hb1 hA hB hbel;go_wp2_with fail;clear r0 r1 r2 r3;refine Fo.bodyPost_at (λW' hW'=>?_);obtain⟨⟨r0,r1,r2,r3⟩,_⟩:=gD (show W'.heap[w.heap.size+1]?=some (.cells (iZ pk pm pf ps) 108 (0,0)) by rw [hW'];exact Fo.four_set (Fo.one_other HB Aaa));have hbb:aI w W':=by rw [hW'];exact Fo.four_below (cZ.setCell (p:=⟨w.heap.size,0,none⟩) (Nat.le_refl _) _) Aaa
 refine bodyPost_ret (v:= .agg (iZ pk pm pf ps)) (by simp[results,results154,go_sem,r0,r1,r2,r3]) rfl ⟨rfl,hbb⟩
theorem Pz (a:Option Addr) (cap:Nat) (l:List Pu) (key:ByteArray) (w:World) (hl:l.length<=1048600) (hks:∀p∈l,p.k.size<=1048576) (hkey:key.size<=1048576) (ha:aG w a l):
 Calls prog 240 #[.slice a l.length cap,.string key] w (eO w (wU (aD l key))):=by
 have HA:=Hq ha;have RI:=Hq hks;have jB:=Hq (λw1=>clone key w1 Aaa);clear ha hks;go_in
 go_wp2_with fail;go_loopw [9] (λi wr=>∃k:Nat,k<=l.length/\i= .int .i64 k/\(l.take k).find? (λp=>p.k.toList == key.toList)=none/\aI w wr/\wr.heap[w.heap.size]?=some (.cells (iZ ⟨#[]⟩ 0 0 0) 108 (0,0))) (λi _=>l.length - (intOf i).toNat)
 case atStart=>exact⟨0,Nat.zero_le _,rfl,rfl,dU w _,heap_alloc_new w _⟩
 case round=>
  obtain⟨k,hk,rfl,hnone,hbel,hblk⟩:=hrel;have HN:=Hq hnone;have cZ:=Hq hbel;have Gf:=Hq hblk;have ae8:=Fo.lt_of_blk hblk;clear hnone hbel hblk;by_cases hlt:k < l.length
  .obtain⟨g,off,rfl,hgw,c0,c1,c2,c3⟩:=aG.four (GR.At.below HA cZ) k hlt;have hfs:=Jl (λp=>p.k.toList == key.toList) l k hlt HN;have hkk:=ah RI l[k] (List.getElem_mem hlt);cases hf:l[k].k.toList == key.toList
   .have HX:=Hq (hfs.2 hf);clear hfs HN hkk;open azL in exact aaM
   .have HX:=Hq (show aD l key=l[k] by unfold aD;rw [hfs.1 hf];rfl);clear hfs HN;open azf in exact ahZ
  .open apx in exact xP
open Go.RowKit Go.Maps
theorem OU (a:Option Addr) (cap:Nat) (l:List Pu) (w:World) (hl:l.length<=1048600) (ha:aG w a l):
 Calls prog 153 #[.slice a l.length cap] w λe w'=>∃v,e= .returned v/\w'.ownsRow w.heap.size 108 4 v l.length (GR.flat gB l)/\aI w w':=by
 obtain⟨i0,hi,hz0,hz1,hz2⟩:=info_parts ET;have q22:∀(w:World) (a:Option Addr) (n c n' c':Nat),(binOp .eql 35 (.slice a n c) (.slice none n' c')).run prog w= .ok (.bool a.isNone) w:=λw a n c n' c'=>Lib.run_eql_slice_nil w _ _ a n c n' c' underlying35
 open ayN in exact ahS
theorem wN.of_own {w:World} {B:Nat} {v:Value} {l:List Pu} (h:w.ownsRow B 108 4 v l.length (GR.flat gB l)) (hB:B<=w.heap.size):∃a c g,v= .slice a l.length c/\B<=g/\wN w a g l:=by
 obtain⟨a,c,rfl,hat⟩:=GR.own_at aZ h;rcases h.2 with⟨hv,hn⟩|⟨g,cap,cur,hv,hg,hblk,_⟩
 .have hl:l=[]:=List.eq_nil_of_length_eq_zero hn;subst hl;exact⟨_,_,w.heap.size,rfl,hB,wN.nil⟩
 .cases hv
  refine⟨_,_,g,rfl,hg,λi hi=>?_⟩;exact aiN
theorem Pp (a:Option Addr) (cap:Nat) (l:List Pu) (w:World) (hl:l.length<=1048576) (hks:∀p∈l,p.k.size<=1048576) (ha:aG w a l):
 Calls prog 118 #[.slice a l.length cap] w λe w'=>∃a' c' g,w.heap.size<=g/\e= .returned (.slice a' l.length c')/\wN w' a' g l/\aI w w':=by
 have jB:=Hq (OU a cap l w Aaa ha);have RI:=Hq hks;clear ha hks;go_in
 go_wp2_with fail;refine jB.mono ?_;rintro e w1 ⟨v,rfl,hown,hb1⟩;obtain⟨a',c',g,rfl,hg,hW⟩:=wN.of_own hown hb1.size;have HW:=Hq hW;have HB1:=Hq hb1;clear hown hb1 hW jB;go_wp2_with fail;go_loopw [10] (λi wr=>∃k:Nat,k<=l.length/\i= .int .i64 k/\wN wr a' g l/\aI w wr) (λi _=>l.length - (intOf i).toNat)
 case atStart=>exact⟨0,Nat.zero_le _,rfl,HW,HB1⟩
 case round=>
  obtain⟨k,hk,rfl,hB,hbel⟩:=hrel;have HB:=Hq hB;have cZ:=Hq hbel;clear hB hbel;by_cases hlt:k < l.length
  .obtain⟨e0,hgw,⟨q0,q1,q2,q3⟩,_⟩:=wN.four HB k hlt;subst e0;have hkk:=ah RI l[k] (List.getElem_mem hlt);have hse:l.set k l[k]=l:=List.set_getElem_self hlt;have HSE:=Hq hse;clear hse;open azg in exact ahZ
  .open apy in exact xP
theorem oW (p:Pu) (b:Bool) (w:World) (h:iD p=b):Calls prog 202 #[wU p] w (eO w (.bool b)):=by
 rw [<-h];exact aci p w
theorem P8 (a b:ByteArray):Op.bytesLess b.toList a.toList= !sle a b:=by
 cases h:sle a b
 .exact(pY _ _).2 ((nJ a b).1 h)
 .cases h2:Op.bytesLess b.toList a.toList
  .rfl
  .rw [(nJ a b).2 ((pY _ _).1 h2)] at h;cases h
theorem tX (a:Option Addr) (cap:Nat) (l:List Pu) (w:World) (hl:l.length<=1048600) (ha:aG w a l):
 Calls prog 168 #[.slice a l.length cap] w (eO w (.bool (jh l))):=by
 by_cases h20:l.length<=20
 .have HA:=Hq ha;clear ha;have aFI:decide (20 < (l.length:Int))=false:=decide_eq_false Aaa;go_in
  go_wp2_with fail;go_loopw [10] (λi wr=>∃k:Nat,k<=l.length/\i= .int .i64 k/\(List.range k).all (nQ l)=true/\aI w wr) (λi _=>l.length - (intOf i).toNat)
  case atStart=>exact abe
  case round=>
   obtain⟨k,hk,rfl,hall,hbel⟩:=hrel;have cZ:=Hq hbel;have kX:=Hq hall;clear hall hbel;by_cases hlt:k < l.length
   .open aso in exact agd
   .exact air
 .have HF:=Hq (show jh l=false by unfold jh;simp[h20]);have aFI:decide (20 < (l.length:Int))=true:=decide_eq_true Aaa;clear ha;go_in
  go_wp2_with fail;go_ret;exact⟨aF HF.symm,Below.refl _ _⟩
theorem XM (a:Option Addr) (cap:Nat) (l:List Int) (x:Int) (w:World) (hl:l.length<=1048600) (ha:bZ w a l):
 Calls prog 264 #[.slice a l.length cap,.int .i64 x] w λe w'=>(∃i:Int,e= .returned (.int .i64 i)/\decide (0<=i)=hasB l x)/\w=w':=by
 have HA:=Hq ha;clear ha;go_in
 go_wp2_with fail;go_loop [8] (λi=>∃k:Nat,k<=l.length/\i= .int .i64 k/\hasB (l.take k) x=false) (λi=>l.length - (intOf i).toNat)
 case atStart=>exact⟨0,Nat.zero_le _,rfl,rfl⟩
 case round=>
  obtain⟨k,hk,rfl,hno⟩:=hrel;have HN:=Hq hno;clear hno;by_cases hlt:k < l.length
  .obtain⟨g,off,rfl,hgw,q0⟩:=bZ.one HA k hlt;by_cases hx:l[k]=x
   .have HY:=Hq (has_yes l x k hlt hx);rw [hx] at q0;clear hx;go_wp2_with fail;go_ret;exact⟨⟨k,rfl,by rw [ah HY];simp⟩,rfl⟩
   .have HS:=Hq (has_snoc l x k hlt);rw [decide_eq_false hx] at HS;have hx':¬(x=l[k]):=λh=>hx h.symm
    exact aiP
  .open apz in exact xP
theorem K9 (a:Option Addr) (cap:Nat) (l:List Int) (x:Int) (w:World) (hl:l.length<=1048600) (ha:bZ w a l):
 Calls prog 242 #[.slice a l.length cap,.int .i64 x] w λe w'=>e= .returned (.bool (hasB l x))/\w=w':=by
 have HI:=Hq (XM a cap l x w hl ha);clear ha;go_in
 go_wp2_with fail;refine HI.mono ?_;rintro e w1 ⟨⟨i,rfl,hi⟩,rfl⟩;have HD:=Hq hi;clear hi;go_wp2_with fail;go_ret;exact⟨aF HD,rfl⟩
theorem Bz (n:Nd) (A:bV) (x:Int) (w:World) (hl:n.kids.length<=1048600) (ha:bZ w A.k n.kids):
 Calls prog 218 #[fQ n A,.int .i64 x] w (eO w (.bool (hasB n.kids x))):=by
 have HH:=Hq (K9 A.k A.ck n.kids x (w.alloc (.cells (dH n A) 40)) hl (GR.At.below ha (ay w _)));clear ha;go_in
 go_wp2_with (go_at_call 242;refine HH.mono ?_;rintro e w1 ⟨rfl,rfl⟩)
 go_ret;exact⟨rfl,ay w _⟩
def Mth.nearI (n:Nd) (x:Int):Bool:=uh x&&(decide (x=n.par)||hasB n.kids x)
theorem Mth.near_same {n:Nd} (h:eP n=true) (x:Int):nearI n x=eF n x:=by
 obtain⟨h1,_,h3⟩:=qc h
 have hp:n.par<=29:=by
  unfold eP at h;simp only[Bool.and_eq_true] at h;exact(of_decide_eq_true h.1.1.1.2).2
 unfold nearI eF;cases hh:hasB n.kids x
 .simp only[Bool.or_false];by_cases hx:x=n.par
  .by_cases h0:0<=x
   .simp[uh,hx];omega
   .simp[uh,hx];omega
  .simp[hx]
 .have h2:=h1 x ((zx _ _).1 hh);unfold ku at h2;simp only[Bool.and_eq_true] at h2;rw [h2.1.1];simp
theorem Pw (n:Nd) (A:bV) (x:Int) (w:World) (hl:n.kids.length<=1048600) (ha:bZ w A.k n.kids):
 Calls prog 203 #[fQ n A,.int .i64 x] w (eO w (.bool (nearI n x))):=by
 have HK:=Hq (Bz n A x (w.alloc (.cells (dH n A) 40)) hl (GR.At.below ha (ay w _)));clear ha;cases h0:uh x
 .have HN:=Hq (show nearI n x=false by simp[nearI,h0]);have HA:=Hq (λw1=>isNode x false w1 h0);clear h0;exact ajl
 .have HA:=Hq (λw1=>isNode x true w1 h0);by_cases h1:x=n.par
  .have HN:=Hq (show nearI n x=true by unfold nearI;rw [h0,decide_eq_true h1];rfl);have h2:(x == n.par)=true:=Aba
   clear h1 h0;exact ajl
  .have HN:=Hq (show nearI n x=hasB n.kids x by simp[nearI,h1,h0]);have h2:(x == n.par)=false:=Aba
   clear h1 h0;go_in
   go_wp2_with (first|(go_at_call 201;refine(HA _).mono ?_;rintro e w1 ⟨rfl,rfl⟩)|(go_at_call 218;refine HK.mono ?_;rintro e w2 ⟨rfl,hb2⟩))
   go_ret;exact⟨aF HN.symm,(ay w _).trans (hb2.mono Aac)⟩
theorem Uf:∀(vs:List Value) (w:World) (g o:Nat),w.setCells g o vs=GR.setW w g o vs:=by
 intro vs;induction vs with
 |nil=>intro w g o;rfl
 |cons v vs ih=>intro w g o;exact ih _ _ _
theorem jX (g:Nat):∀(vs:List Value) (_w:World) (_o:Nat),aC [g] _w (_w.setCells g _o vs)
 |[],_,_=>aC.refl _ _
 |v::vs,_,_=>(aC.set v).trans (jX g vs _ _)
theorem kW {B g:Nat} (hg:B<=g):∀(vs:List Value) (a w:World) (o:Nat),Below B a w->Below B a (w.setCells g o vs)
 |[],_,_,_,h=>h
 |v::vs,a,_,_,h=>kW hg vs a _ _ (h.setCell (p:=⟨g,_,none⟩) hg v)
theorem xE {P:Program} {fn:Func} {p:Tmp} {ty:TypeId} (h:fn.results=#[.cell p ty]) (tmps:Array Value) (w:World) (g:Nat) (cs:List Value) (d:TypeDesc)
 (hp:tmps.getD p undef= .pointer (some ⟨g,0,none⟩)) (hc:w.rangeAt g 0 cs) (hu:P.underlying ty=some d) (hd:d.isRow=true) (hi:(P.info? ty).map (·.size)=some cs.length):
 (results fn tmps).run P w= .ok (.agg cs.toArray) w:=by
 have hp':tmps[p]?.getD undef= .pointer (some ⟨g,0,none⟩):=by simpa using hp
 simp[results,h,hp',asAddr,run_loadVar_mid w g 0 ty cs d hc hu hd hi]
structure TO (tl ti:TypeId) (C Z:List Value) (w:World) (M:World->Prop) (L:List Value) (W:World):Prop where
 p:W.heap[w.heap.size]?=some (.cells C.toArray tl (0,0))
 r:W.heap[w.heap.size+1]?=some (.cells Z.toArray ti (0,0))
 o:W.heap[w.heap.size+1+1]?=some (.cells L.toArray ti (0,0))
 b:aI w W
 m:∀W',aC [w.heap.size+1,w.heap.size+1+1] W W'->M W'
section
variable {tl ti:TypeId} {C Z L L2:List Value} {w W W2:World} {M:World->Prop}
theorem TO.s (h:TO tl ti C Z w M L W):w.heap.size+3<=W.heap.size:=aA h.o
theorem TO.step (h:TO tl ti C Z w M L W) (hb:aI W W2) (N:World->Prop) (hN:∀W',aC [w.heap.size+1,w.heap.size+1+1] W2 W'->N W'):TO tl ti C Z w (λW'=>M W'/\N W') L W2:=
 ⟨au h.p hb,au h.r hb,au h.o hb,h.b.trans (hb.mono h.b.size),λW' hk=>⟨h.m W' ((aC.of_below hb).trans hk),hN W' hk⟩⟩
theorem TO.put (h:TO tl ti C Z w M L W) (hk:aC [w.heap.size+1+1] W W2) (h2:W2.heap[w.heap.size+1+1]?=some (.cells L2.toArray ti (0,0))):TO tl ti C Z w M L2 W2:=
 ⟨hk.obj h.p Aag,hk.obj h.r Aac,h2,h.b.trans (hk.below (λx hx=>by rw [List.mem_singleton.1 hx];omega) h.b.size),λW' hk'=>h.m W' ((hk.mono (λx hx=>Aav)).trans hk')⟩
theorem TO.mid (h:TO tl ti C Z w M L W) (o:Nat) (vs:List Value):TO tl ti C Z w M (GR.setRun L o vs) (W.setCells (w.heap.size+1+1) o vs):=
 h.put (jX _ _ _ _) (by rw [Uf];exact GR.setW_blk vs h.o)
theorem TO.one (h:TO tl ti C Z w M L W) (i:Nat) (v:Value):TO tl ti C Z w M (L.set i v) (W.setCell ⟨w.heap.size+1+1,i,none⟩ v):=
 h.put (aC.set v) (by have:=aR h.o i v;simpa using this)
theorem TO.there (h:TO tl ti C Z w M L W) (o n:Nat) (hn:o+n<=L.length):W.there (w.heap.size+1+1) o n:=λj hj=>⟨by rw [cell_of_row W _ _ _ _ (0,0) h.o];simp;omega,aj h.o _⟩
theorem TO.thereR (h:TO tl ti C Z w M L W):W.there (w.heap.size+1) 0 Z.length:=λj hj=>⟨by rw [cell_of_row W _ _ _ _ (0,0) h.r];simp;omega,aj h.r _⟩
theorem TO.cell (h:TO tl ti C Z w M L W) (i:Nat):W.cell? ⟨w.heap.size,i,none⟩=C[i]?:=by rw [cell_of_row W _ _ _ _ (0,0) h.p];simp
theorem TO.rng (h:TO tl ti C Z w M L W) (o:Nat) (vs:List Value) (hv:(C.drop o).take vs.length=vs):W.rangeAt w.heap.size o vs:=λj v hj=>by
 rw [h.cell,<-List.getElem?_drop];have hl:=(List.getElem?_eq_some_iff.1 hj).1;rw [<-hv,List.getElem?_take_of_lt hl] at hj;exact hj
theorem TO.rngO (h:TO tl ti C Z w M L W):W.rangeAt (w.heap.size+1+1) 0 L:=λj v hj=>by
 rw [cell_of_row W _ _ _ _ (0,0) h.o];simpa using hj
theorem TO.ends (h:TO tl ti C Z w M L W):M (W.setCells (w.heap.size+1) 0 L)/\Below w.heap.size w (W.setCells (w.heap.size+1) 0 L):=
 ⟨h.m _ ((jX _ _ _ _).mono (λx hx=>Aav)),kW Aaa _ _ _ _ h.b⟩
end
end Go.Proofs.YtohmklmkjmlpjaaGreatDoor
