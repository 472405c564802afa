/- Parts. -/
import Derived.Test.YtbolgdleijjgfaaGreatDoorRf8
import Derived.Test.YtbolgdleijjgfaaGreatDoorRf11
namespace Go.Proofs.YtbolgdleijjgfaaGreatDoor
open Go.Proofs.Tryz
set_option maxHeartbeats 8000000
set_option maxRecDepth 100000
open Go.RowKit
open Mth
variable (g:Nat) (s:ByteArray) (i:Int) (w:World) {w' w0 W:World} {l:List Pu} {a:Option Addr} {o B:Nat} {b4 b5 b6 v b0 b1 b2 b3:Value} {cs:Array Value}
theorem ak1 (n:Int) (w:World):Calls prog 193 #[.int .i64 n] w λe w'=>e= .returned (.bool (decide (yQ n 0 1000000000)))/\w=w':=by
 by_cases h0:0<=n
 .by_cases h1:n<=1000000000
  .rw [aET (show yQ n 0 1000000000 from⟨h0,h1⟩)];exact aa6
  .rw [aES (show¬yQ n 0 1000000000 from λh=>h1 h.2)];exact aa6
 .rw [aES (show¬yQ n 0 1000000000 from λh=>h0 h.1)];exact aa6
theorem kS (n:Int) (b:Bool) (w:World) (h:rM n=b):Calls prog 193 #[.int .i64 n] w λe w'=>e= .returned (.bool b)/\w=w':=by
 have e:decide (yQ n 0 1000000000)=b:=h;rw [<-e];exact ak1 n w
theorem AJ (s:ByteArray) (b:Bool) (w:World) (h:keyOk s.data.toList=b):Calls prog 190 #[.string s] w λe w'=>e= .returned (.bool b)/\w=w':=by
 rw [<-h];exact Ki s w
theorem aco (p:Pu) (w:World):Calls prog 188 #[yx p] w (dU w (.bool (iG p))):=by
 obtain⟨pk,pm,pf,ps⟩:=p;cases hk:keyOk pk.data.toList
 case' false=>
  have HP:=Hq (show iG ⟨pk,pm,pf,ps⟩=false by simp[iG,hk]);have HK:=Hq (λw1=>AJ pk false w1 hk);clear hk;go_in
  go_wp2_with (go_at_call 190;refine(HK _).mono ?_;rintro e w1 ⟨rfl,rfl⟩)
  exact O4
 have HK:=Hq (λw1=>AJ pk true w1 hk);cases h1:rM pm
 case' false=>
  have HP:=Hq (show iG ⟨pk,pm,pf,ps⟩=false by simp[iG,h1]);have H1:=Hq (λw1=>kS pm false w1 h1);clear hk h1;go_in
  go_wp2_with (first|(go_at_call 190;refine(HK _).mono ?_;rintro e w1 ⟨rfl,rfl⟩)|(go_at_call 193;refine(H1 _).mono ?_;rintro e w1 ⟨rfl,rfl⟩))
  exact O4
 have H1:=Hq (λw1=>kS pm true w1 h1);cases h2:rM pf
 case' false=>
  have HP:=Hq (show iG ⟨pk,pm,pf,ps⟩=false by simp[iG,h2]);have H2:=Hq (λw1=>kS pf false w1 h2);clear hk h1 h2;go_in
  go_wp2_with (first|(go_at_call 190;refine(HK _).mono ?_;rintro e w1 ⟨rfl,rfl⟩)|(go_at_call_of 193 pm;refine(H1 _).mono ?_;rintro e w1 ⟨rfl,rfl⟩)|(go_at_call_of 193 pf;refine(H2 _).mono ?_;rintro e w1 ⟨rfl,rfl⟩))
  exact O4
 have H2:=Hq (λw1=>kS pf true w1 h2);cases h3:rM ps
 case' false=>
  have HP:=Hq (show iG ⟨pk,pm,pf,ps⟩=false by simp[iG,h3]);have H3:=Hq (λw1=>kS ps false w1 h3);clear hk h1 h2 h3;go_in
  go_wp2_with (first|(go_at_call 190;refine(HK _).mono ?_;rintro e w1 ⟨rfl,rfl⟩)|(go_at_call_of 193 pm;refine(H1 _).mono ?_;rintro e w1 ⟨rfl,rfl⟩)|(go_at_call_of 193 pf;refine(H2 _).mono ?_;rintro e w1 ⟨rfl,rfl⟩)|(go_at_call_of 193 ps;refine(H3 _).mono ?_;rintro e w1 ⟨rfl,rfl⟩))
  exact O4
 have H3:=Hq (λw1=>kS ps true w1 h3);have g2:0<=pf/\pf<=1000000000:=aFa h2;have g3:0<=ps/\ps<=1000000000:=aFa h3;obtain⟨g20,g21⟩:=g2;obtain⟨g30,g31⟩:=g3;have HP:=Hq (show iG ⟨pk,pm,pf,ps⟩=rM (pf+ps) by simp[iG,hk,h1,h2,h3]);have H4:=Hq (λw1=>kS (pf+ps) _ w1 rfl);clear hk h1 h2 h3;go_in
 go_wp2_with (first|(go_at_call 190;refine(HK _).mono ?_;rintro e w1 ⟨rfl,rfl⟩)|(go_at_call_of 193 pm;refine(H1 _).mono ?_;rintro e w1 ⟨rfl,rfl⟩)|(go_at_call_of 193 pf;refine(H2 _).mono ?_;rintro e w1 ⟨rfl,rfl⟩)|(go_at_call_of 193 ps;refine(H3 _).mono ?_;rintro e w1 ⟨rfl,rfl⟩)|(go_at_call_of 193 (pf+ps);refine(H4 _).mono ?_;rintro e w1 ⟨rfl,rfl⟩))
 exact O4
theorem qE (p:Pu) (b:Bool) (w:World) (h:iG p=b):Calls prog 188 #[yx p] w (dU w (.bool b)):=by
 rw [<-h];exact aco p w
theorem Qp (a b:ByteArray):Op.bytesLess b.toList a.toList= !sle a b:=by
 cases h:sle a b
 .exact(qR _ _).2 ((oh a b).1 h)
 .cases h2:Op.bytesLess b.toList a.toList
  .rfl
  .rw [(oh a b).2 ((qR _ _).1 h2)] at h;cases h
theorem uS (a:Option Addr) (cap:Nat) (l:List Pu) (w:World) (hl:l.length<=1048600) (ha:aG w a l):
 Calls prog 169 #[.slice a l.length cap] w (dU w (.bool (jv l))):=by
 by_cases h20:l.length<=20
 .have HA:=Hq ha;clear ha;have akG:decide (20 < (l.length:Int))=false:=aES Aaa;go_in
  go_wp2_with fail;go_loopw [10] (λi wr=>∃k:Nat,k<=l.length/\i= .int .i64 k/\(List.range k).all (oL l)=true/\aH w wr) (λi _=>l.length - (intOf i).toNat)
  case atStart=>exact abf
  case round=>
   obtain⟨k,hk,rfl,hall,hbel⟩:=hrel;have aZ:=Hq hbel;have jA:=Hq hall;clear hall hbel;by_cases hlt:k < l.length
   .open apR in exact aw2
   .exact ahx
 .have HF:=Hq (show jv l=false by unfold jv;simp[h20]);have akG:decide (20 < (l.length:Int))=true:=aET Aaa;clear ha;go_in
  go_wp2_with fail;go_ret;exact⟨aF HF.symm,aE3 _ _⟩
theorem FW (p:Pu) (w:World) (hk:p.k.size<=1048576):Calls prog 134 #[yx p] w (dU w (yx p)):=by
 obtain⟨pk,pm,pf,ps⟩:=p;have HC:=Hq (λw1=>clone pk w1 (by dsimp only at hk;omega));clear hk;go_in
 go_wp2_with fail;refine(HC _).mono ?_;rintro e w1 ⟨rfl,hb1⟩;obtain⟨hA,hB,hz,hbel⟩:=Fo.two_blocks hb1;have HB:=Hq hB;have aZ:=Hq hbel;obtain⟨⟨p0,p1,p2,p3⟩,q0,q1,q2,q3⟩:=fZ hA;obtain⟨⟨r0,r1,r2,r3⟩,s0,s1,s2,s3⟩:=fZ hB;clear hb1 hA hB hbel;go_wp2_with fail;clear r0 r1 r2 r3;refine Fo.bodyPost_at (λW' hW'=>?_);obtain⟨⟨r0,r1,r2,r3⟩,_⟩:=fZ (show W'.heap[w.heap.size+1]?=some (.cells (iX pk pm pf ps) 155 (0,0)) by rw [hW'];exact Fo.four_set (Fo.one_other HB Aaa));have hbb:aH w W':=by rw [hW'];exact Fo.four_below (aZ.setCell (p:=⟨w.heap.size,0,none⟩) (aER _) _) Aaa
 refine aEY (v:= .agg (iX pk pm pf ps)) (by simp[results,results134,go_sem,r0,r1,r2,r3]) rfl ⟨rfl,hbb⟩
theorem Qb (a:Option Addr) (cap:Nat) (l:List Pu) (key:ByteArray) (w:World) (hl:l.length<=1048600) (hks:∀p∈l,p.k.size<=1048576) (hkey:key.size<=1048576) (ha:aG w a l):
 Calls prog 244 #[.slice a l.length cap,.string key] w (dU w (yx (aD l key))):=by
 have HA:=Hq ha;have Sy:=Hq hks;have jP:=Hq (λw1=>clone key w1 Aaa);clear ha hks;go_in
 go_wp2_with fail;go_loopw [9] (λi wr=>∃k:Nat,k<=l.length/\i= .int .i64 k/\(l.take k).find? (λp=>p.k.toList == key.toList)=none/\aH w wr/\wr.heap[w.heap.size]?=some (.cells (iX ⟨#[]⟩ 0 0 0) 155 (0,0))) (λi _=>l.length - (intOf i).toNat)
 case atStart=>exact⟨0,aE7 _,rfl,rfl,dS w _,aEP w _⟩
 case round=>
  obtain⟨k,hk,rfl,hnone,hbel,hblk⟩:=hrel;have HN:=Hq hnone;have aZ:=Hq hbel;have Ig:=Hq hblk;have afa:=Fo.lt_of_blk hblk;clear hnone hbel hblk;by_cases hlt:k < l.length
  .obtain⟨g,off,rfl,hgw,c0,c1,c2,c3⟩:=aG.four (GR.At.below HA aZ) k hlt;have hfs:=J8 (λp=>p.k.toList == key.toList) l k hlt HN;have hkk:=ah Sy l[k] (aE8 hlt);cases hf:l[k].k.toList == key.toList
   .have HX:=Hq (hfs.2 hf);clear hfs HN hkk;open awe in exact aaS
   .have HX:=Hq (show aD l key=l[k] by unfold aD;rw [hfs.1 hf];rfl);clear hfs HN;open avL in exact ahh
  .open amM in exact uI
def yg (w:World) (a:Option Addr) (g:Nat) (l:List Pu):Prop:=∀i (hi:i < l.length),a=some ⟨g,0,none⟩/\g < w.heap.size/\∀j,j < 4->w.cell? ⟨g,i*4+j,none⟩=(fA l[i])[j]?/\w.frozen? ⟨g,i*4+j,none⟩=false
theorem yg.at {w:World} {g:Nat} (h:yg w a g l):aG w a l:=λi hi=>
 ⟨g,0,(h i hi).1,(h i hi).2.1,λj hj=>by rw [aFE];exact((h i hi).2.2 j hj).1⟩
theorem yg.of_blk {w:World} {g:Nat} (h:tO w g l):yg w (some ⟨g,0,none⟩) g l:=λi hi=>
 ⟨rfl,GR.Blk.lt h,λj hj=>⟨GR.Blk.cell h aQ i hi j hj,GR.Blk.free h _⟩⟩
theorem yg.nil {w:World} {g:Nat}:yg w a g []:=λi hi=>by simp at hi
theorem yg.below {w:World} {g:Nat} (h:yg w a g l) (hb:aH w w'):yg w' a g l:=λi hi=>by
 obtain⟨e,hg,hc⟩:=h i hi;exact⟨e,aEZ hg hb.size,λj hj=>⟨(hb.cell (p:=⟨g,i*4+j,none⟩) hg).trans (hc j hj).1,(hb.frozen (p:=⟨g,i*4+j,none⟩) hg).trans (hc j hj).2⟩⟩
theorem yg.keeps {w:World} {g g':Nat} (h:yg w a g l) (hk:Keeps g' w w') (hne:l=[]\/g≠g'):yg w' a g l:=by
 rcases hne with rfl|hne
 .exact yg.nil
 .intro i hi;obtain⟨e,hg,hc⟩:=h i hi;exact ahP
theorem yg.four {w:World} {g:Nat} (h:yg w a g l) (i:Nat) (hi:i < l.length):a=some ⟨g,0,none⟩/\g < w.heap.size/\(w.cell? ⟨g,i*4,none⟩=some (.string l[i].k)/\w.cell? ⟨g,i*4+1,none⟩=some (.int .i64 l[i].m)/\w.cell? ⟨g,i*4+2,none⟩=some (.int .i64 l[i].f)/\w.cell? ⟨g,i*4+3,none⟩=some (.int .i64 l[i].s))/\w.frozen? ⟨g,i*4,none⟩=false/\w.frozen? ⟨g,i*4+1,none⟩=false/\w.frozen? ⟨g,i*4+2,none⟩=false/\w.frozen? ⟨g,i*4+3,none⟩=false:=by
 exact aez
theorem vS {g k:Nat}:∀(vs:List Value) (w:World) (o:Nat),k < o\/o+vs.length<=k->(GR.setW w g o vs).cell? ⟨g,k,none⟩=w.cell? ⟨g,k,none⟩:=by
 exact ahE
theorem GI {g:Nat}:∀(vs:List Value) (w:World) (o:Nat),(∀j,j < vs.length->∃v,w.cell? ⟨g,o+j,none⟩=some v)->∀j,j < vs.length->(GR.setW w g o vs).cell? ⟨g,o+j,none⟩=vs[j]?:=by
 intro vs;induction vs with
 |nil=>intro w o _ j hj;simp at hj
 |cons v vs ih=>
  intro w o h j hj;cases j with
  |zero=>
   obtain⟨v0,hv0⟩:=h 0 Aac;rw [aGB] at hv0 ⊢;refine(vS vs (w.setCell ⟨g,o,none⟩ v) (o+1) Aaa).trans ?_;rw [aGA _ _ _ hv0];rfl
  |succ j=>
   exact ax8
theorem Q6 {g k:Nat}:∀(vs:List Value) (w:World) (o:Nat),(GR.setW w g o vs).frozen? ⟨g,k,none⟩=w.frozen? ⟨g,k,none⟩:=by
 exact ah6
theorem Zx {g:Nat}:∀(vs:List Value) (w:World) (o:Nat),(GR.setW w g o vs).heap.size=w.heap.size:=by
 exact ah9
theorem yg.set {w:World} {g:Nat} (h:yg w a g l) (k:Nat) (x:Pu) (hk:k < l.length):yg (GR.setW w g (k*4) (fA x)) a g (l.set k x):=λi hi=>by
 have hi':i < l.length:=Aat
 obtain⟨e,hg,hc⟩:=h i hi';refine⟨e,by rw [Zx];exact hg,λj hj=>⟨?_,by rw [Q6];exact(hc j hj).2⟩⟩;by_cases hik:i=k
 .subst hik
  rw [GI (fA x) w (i*4) (λj' hj'=>by
   have hj4:j' < 4:=by rw [aQ] at hj';exact hj'
   have h1:=(hc j' hj4).1
   rw [aEV (by rw [aQ];exact hj4)] at h1
   exact⟨_,h1⟩) j (by rw [aQ];exact hj)]
  simp
 .rw [vS (fA x) w (k*4) (by rw [aQ];omega),(hc j hj).1,aFq Aaa]
open Go.RowKit Go.Maps
theorem Pk (a:Option Addr) (cap:Nat) (l:List Pu) (w:World) (hl:l.length<=1048600) (ha:aG w a l):
 Calls prog 133 #[.slice a l.length cap] w λe w'=>∃v,e= .returned v/\w'.ownsRow w.heap.size 155 4 v l.length (GR.flat fA l)/\aH w w':=by
 obtain⟨i0,hi,hz0,hz1,hz2⟩:=aFt FY;have q22:∀(w:World) (a:Option Addr) (n c n' c':Nat),(binOp .eql 34 (.slice a n c) (.slice none n' c')).run prog w= .ok (.bool a.isNone) w:=λw a n c n' c'=>aGi w _ _ a n c n' c' underlying34
 open avl in exact aha
theorem yg.of_own {w:World} (h:w.ownsRow B 155 4 v l.length (GR.flat fA l)) (hB:B<=w.heap.size):∃a c g,v= .slice a l.length c/\B<=g/\yg w a g l:=by
 obtain⟨a,c,rfl,hat⟩:=GR.own_at aQ h;rcases h.2 with⟨hv,hn⟩|⟨g,cap,cur,hv,hg,hblk,_⟩
 .have hl:l=[]:=aFk hn;subst hl;exact⟨_,_,w.heap.size,rfl,hB,yg.nil⟩
 .cases hv
  refine⟨_,_,g,rfl,hg,λi hi=>?_⟩;exact ahQ
theorem PY (a:Option Addr) (cap:Nat) (l:List Pu) (w:World) (hl:l.length<=1048576) (hks:∀p∈l,p.k.size<=1048576) (ha:aG w a l):
 Calls prog 106 #[.slice a l.length cap] w λe w'=>∃a' c' g,w.heap.size<=g/\e= .returned (.slice a' l.length c')/\yg w' a' g l/\aH w w':=by
 have jP:=Hq (Pk a cap l w Aaa ha);have Sy:=Hq hks;clear ha hks;go_in
 go_wp2_with fail;refine jP.mono ?_;rintro e w1 ⟨v,rfl,hown,hb1⟩;obtain⟨a',c',g,rfl,hg,hW⟩:=yg.of_own hown hb1.size;have HW:=Hq hW;have HB1:=Hq hb1;clear hown hb1 hW jP;go_wp2_with fail;go_loopw [10] (λi wr=>∃k:Nat,k<=l.length/\i= .int .i64 k/\yg wr a' g l/\aH w wr) (λi _=>l.length - (intOf i).toNat)
 case atStart=>exact⟨0,aE7 _,rfl,HW,HB1⟩
 case round=>
  obtain⟨k,hk,rfl,hB,hbel⟩:=hrel;have HB:=Hq hB;have aZ:=Hq hbel;clear hB hbel;by_cases hlt:k < l.length
  .obtain⟨e0,hgw,⟨q0,q1,q2,q3⟩,_⟩:=yg.four HB k hlt;subst e0;have hkk:=ah Sy l[k] (aE8 hlt);have hse:l.set k l[k]=l:=List.set_getElem_self hlt;have HSE:=Hq hse;clear hse;open avM in exact ahh
  .open amN in exact uI
structure dQ (g:Nat) (w w':World):Prop where
 os:w'.os=w.os
 tape:w'.tape=w.tape
 output:w'.output=w.output
 size:w.heap.size<=w'.heap.size
 block:∀k,k < w.heap.size->k≠g->w'.heap[k]?=w.heap[k]?
theorem dQ.of_below {g:Nat} {w:World} (h:aH w w'):dQ g w w':=⟨h.os,h.tape,h.output,h.size,λk hk _=>h.block k hk⟩
theorem dQ.trans {g:Nat} {a b c:World} (h:dQ g a b) (k:dQ g b c):dQ g a c:=
 ⟨k.os.trans h.os,k.tape.trans h.tape,k.output.trans h.output,aEU h.size k.size,λi hi hg=>(k.block i (aEZ hi h.size) hg).trans (h.block i hi hg)⟩
theorem dQ.set {g i:Nat} {w:World} (v:Value):dQ g w (w.setCell ⟨g,i,none⟩ v):=⟨rfl,rfl,rfl,Aaq,λk _ hg=>aFe _ _ _ _ hg⟩
theorem dQ.below {g:Nat} {a w:World} (hb:Below B a w) (h:dQ g w w') (hg:B<=g) (hB:B<=w.heap.size):Below B a w':=
 ⟨h.os.trans hb.os,h.tape.trans hb.tape,h.output.trans hb.output,aEU hb.size h.size,λk hk=>(h.block k Aaa Aaa).trans (hb.block k hk)⟩
theorem dQ.obj {g k:Nat} {w:World} {o:Obj} (h:dQ g w w') (hk:w.heap[k]?=some o) (hne:k≠g):w'.heap[k]?=some o:=by rw [h.block k (dx hk) hne];exact hk
abbrev Zc (p:Int):Ending:= .panicked [{v:= .iface 221 (.agg #[.int .i64 p]),recovered:=false}]
abbrev jQ (w:World) (g:Nat) (s:ByteArray) (i:Int):Prop:=w.heap[g]?=some (.cells #[.string s,.int .i64 i] 232 (0,0))
theorem jQ.two {w:World} {g:Nat} {s:ByteArray} {i:Int} (h:jQ w g s i):w.cell? ⟨g,0,none⟩=some (.string s)/\w.cell? ⟨g,1,none⟩=some (.int .i64 i)/\w.frozen? ⟨g,0,none⟩=false/\w.frozen? ⟨g,1,none⟩=false:=by
 have hf:∀i,w.frozen? ⟨g,i,none⟩=false:=λi=>by unfold World.frozen?;rw [h];simp
 have hc:∀j,w.cell? ⟨g,j,none⟩=#[Value.string s,Value.int .i64 i][j]?:=λj=>aE1 w g j _ 232 (0,0) h
 exact⟨hc 0,hc 1,hf 0,hf 1⟩
theorem jQ.set {w:World} {g:Nat} {s:ByteArray} {i:Int} (h:jQ w g s i) (j:Int):jQ (w.setCell ⟨g,1,none⟩ (.int .i64 j)) g s j:=blk_set h 1 (.int .i64 j)
theorem jB (w:World) (n:Nat):Below w.heap.size w (w.drewN n):=⟨rfl,rfl,rfl,aER _,λ_ _=>rfl⟩
theorem Nh (h:jQ w g s i):Calls prog 237 #[.pointer (some ⟨g,0,none⟩)] w λe w'=>e=Zc i/\w=w':=by
 obtain⟨c0,c1,f0,f1⟩:=h.two;clear h;go_in
 go_wp2_with fail;exact⟨rfl,rfl,rfl⟩
theorem Xe (g:Nat) (s:ByteArray) (i n:Int) (w:World) (h:jQ w g s i) (hn:n < 0):Calls prog 270 #[.pointer (some ⟨g,0,none⟩),.int .i64 n] w λe w'=>e=Zc i/\w=w':=by
 have HF:=Hq (λw1 h=>Nh g s i w1 h);have H:=Hq h;clear h;go_in
 go_wp2_with fail;refine(HF _ H).mono ?_;rintro e w1 ⟨rfl,rfl⟩;go_wp2_with fail;exact⟨rfl,rfl,rfl⟩
theorem QK (g:Nat) (s:ByteArray) (i n:Int) (w:World) (h:jQ w g s i) (hn:0<=n):Calls prog 270 #[.pointer (some ⟨g,0,none⟩),.int .i64 n] w λe w'=>e= .returned (.tuple #[])/\w.setCell ⟨g,1,none⟩ (.int .i64 n)=w':=by
 obtain⟨c0,c1,f0,f1⟩:=h.two;have hn2:¬n < 0:=Aaa
 clear h;go_in
 go_wp2_with fail;exact aGJ (v:= .tuple #[]) (by simp[results,results270,go_sem]) rfl ⟨rfl,rfl⟩
theorem Zf (g:Nat) (s:ByteArray) (w:World) (h:jQ w g s 0) (hs:s.size=0):Calls prog 232 #[.pointer (some ⟨g,0,none⟩)] w λe w'=>e=Zc 0/\aH w w':=by
 have HF:=Hq (λw1 h=>Nh g s 0 w1 h);obtain⟨c0,c1,f0,f1⟩:=h.two;have H:=Hq h;have he:((0:Int) == (s.size:Int))=true:=by simp[hs]
 clear h;go_in
 go_upto_region 1 with fail;go_quiet (fail);go_wp2_with fail;refine(HF _ (aJ H (jB w _))).mono ?_;rintro e w1 ⟨rfl,rfl⟩;go_wp2_with fail;exact⟨rfl,rfl,jB w _⟩
theorem UH (g:Nat) (s:ByteArray) (w:World) (h:jQ w g s 0) (hs:0 < s.size):Calls prog 232 #[.pointer (some ⟨g,0,none⟩)] w λe w'=>e= .returned (.int .i64 (s[0].toNat:Int))/\jQ w' g s 1/\dQ g w w':=by
 obtain⟨c0,c1,f0,f1⟩:=h.two;have H:=Hq h;have he:((0:Int) == (s.size:Int))=false:=Aah
 have he2:¬((0:Int)=(s.size:Int)):=Aaa
 have hi0:(0:Int) < (s.size:Int):=Aaa
 open asS in exact VT
theorem QM (hs:s.size<=maxLen) (h:jQ w g s i) (hH:Handle w) (hE:kJ s i < 0):Calls prog 233 #[.pointer (some ⟨g,0,none⟩)] w λe w'=>e=Zc i/\aH w w':=by
 have HC:=Hq (λw1 h=>yZ s i hs w1 h);have HG:=Hq (λw1 h=>Xe g s i (kJ s i) w1 h hE);open asK in exact VR
theorem KO (hs:s.size<=maxLen) (h:jQ w g s i) (hH:Handle w) (hE:0<=kJ s i):Calls prog 233 #[.pointer (some ⟨g,0,none⟩)] w λe w'=>e= .returned (.int .i64 (vF s i))/\jQ w' g s (kJ s i)/\dQ g w w':=by
 have HC:=Hq (λw1 h=>yZ s i hs w1 h);have HG:=Hq (λw1 h=>QK g s i (kJ s i) w1 h hE);open asJ in exact VR
theorem KP (hs:s.size<=maxLen) (h:jQ w g s i) (hH:Handle w) (hE:jg s i < 0):Calls prog 234 #[.pointer (some ⟨g,0,none⟩)] w λe w'=>e=Zc i/\aH w w':=by
 have HC:=Hq (λw1 h=>MC s i hs w1 h);have HG:=Hq (λw1 h=>Xe g s i (jg s i) w1 h hE);open asI in exact VR
theorem vG (hs:s.size<=maxLen) (h:jQ w g s i) (hH:Handle w) (hE:0<=jg s i):Calls prog 234 #[.pointer (some ⟨g,0,none⟩)] w λe w'=>e= .returned (.string (kN s i))/\jQ w' g s (jg s i)/\dQ g w w':=by
 have HC:=Hq (λw1 h=>MC s i hs w1 h);have HG:=Hq (λw1 h=>QK g s i (jg s i) w1 h hE);open asH in exact VR
theorem Dw {w:World} {g:Nat} (h:dQ g w0 w):dQ g w0 (((((((w.setCell ⟨w0.heap.size,0,none⟩ b0).setCell ⟨w0.heap.size,1,none⟩ b1).setCell ⟨w0.heap.size,2,none⟩ b2).setCell ⟨w0.heap.size,3,none⟩ b3).setCell ⟨w0.heap.size,4,none⟩ b4).setCell ⟨w0.heap.size,5,none⟩ b5).setCell ⟨w0.heap.size,6,none⟩ b6):=by
 have hb:=su (a:=w) (w:=w) (B:=w0.heap.size) (g:=w0.heap.size) (b0:=b0) (b1:=b1) (b2:=b2) (b3:=b3) (b4:=b4) (b5:=b5) (b6:=b6) (aE3 _ _) (aER _);exact⟨hb.os.trans h.os,hb.tape.trans h.tape,hb.output.trans h.output,aEU h.size hb.size,λk hk hg=>(hb.block k hk).trans (h.block k hk hg)⟩
theorem Bw {w:World} {h g:Nat} {o:Option Obj} (hne:g≠h) (e:w.heap[g]?=o):(((((((w.setCell ⟨h,0,none⟩ b0).setCell ⟨h,1,none⟩ b1).setCell ⟨h,2,none⟩ b2).setCell ⟨h,3,none⟩ b3).setCell ⟨h,4,none⟩ b4).setCell ⟨h,5,none⟩ b5).setCell ⟨h,6,none⟩ b6).heap[g]?=o:=
 one_other (one_other (one_other (one_other (one_other (one_other (one_other e hne) hne) hne) hne) hne) hne) hne
theorem PK {g:Nat} {w:World} (h:Handle w) (hk:dQ g w w') (_hg:g < w.heap.size) (hne:g≠0):Handle w':=by
 unfold Handle at h ⊢
 have hlt:0 < w.heap.size:=by
  rcases aF2 0 w.heap.size with h'|h'
  .exact h'
  .unfold World.cell? at h;rw [aFO h'] at h;cases h
 rw [<-h];exact aFw (w:=w) (hk.block _ hlt (Ne.symm hne))
theorem Zh (hs:s.size<=maxLen) (h:jQ w g s i) (hH:Handle w) (hE:jg s i < 0):Calls prog 235 #[.pointer (some ⟨g,0,none⟩)] w λe w'=>(∃p,e=Zc p)/\dQ g w w':=by
 have HT:=Hq (λw1 h h2=>KP g s i w1 hs h h2 hE);have H:=Hq (aJ h (au w (.cells (bX 0 0 0 0 0 ⟨#[]⟩ 0) 70)));have HH:=Hq (hH.below (au w (.cells (bX 0 0 0 0 0 ⟨#[]⟩ 0) 70)));clear h hH hE hs;go_in
 go_wp2_with fail;refine(HT _ H HH).mono ?_;rintro e w1 ⟨rfl,hb1⟩;have HB:=Hq (dQ.of_below (g:=g) ((au w _).trans (hb1.mono Aac)));clear hb1;go_wp2_with fail;exact⟨rfl,⟨_,rfl⟩,HB⟩
theorem Zi (hs:s.size<=maxLen) (hg:g < w.heap.size) (h:jQ w g s i) (hH:Handle w) (hE:0<=jg s i) (hb:(kN s i).size=0):Calls prog 235 #[.pointer (some ⟨g,0,none⟩)] w λe w'=>e= .returned (oJ (nJ (kN s i)))/\jQ w' g s (jg s i)/\dQ g w w':=by
 have HT:=Hq (λw1 h h2=>vG g s i w1 hs h h2 hE);have H:=Hq (aJ h (au w (.cells (bX 0 0 0 0 0 ⟨#[]⟩ 0) 70)));have HH:=Hq (hH.below (au w (.cells (bX 0 0 0 0 0 ⟨#[]⟩ 0) 70)));rw [(J9 hb).1];rw [KW hb] at HT;clear h hH hE hs hb;generalize jg s i=E at *;have hg2:w.heap.size≠g:=Aaa
 go_in
 go_wp2_with fail;refine(HT _ H HH).mono ?_;rintro e w1 ⟨rfl,hr1,hk1⟩;have HR:=Hq (hk1.obj (aEP w _) hg2);have HK:=Hq ((dQ.of_below (au w _)).trans hk1);have HR1:=Hq hr1;clear hr1 hk1;obtain⟨⟨d0,d1,d2,d3,d4,d5,d6⟩,f0,f1,f2,f3,f4,f5,f6⟩:=eF HR;go_wp2_with fail;refine iD (λW' hW'=>?_);obtain⟨⟨r0,r1,r2,r3,r4,r5,r6⟩,_⟩:=eF (show W'.heap[w.heap.size]?=some (.cells (bX 0 0 0 0 0 ⟨#[]⟩ 0) 70 (0,0)) by rw [hW'];exact uq HR);have qC:dQ g w W':=by rw [hW'];exact Dw HK
 have hRR:jQ W' g s E:=by rw [hW'];exact Bw (Ne.symm hg2) HR1
 exact aEY (v:= .agg (bX 0 0 0 0 0 ⟨#[]⟩ 0)) Ade rfl ⟨rfl,hRR,qC⟩
theorem Zg (hs:s.size<=maxLen) (hg:g < w.heap.size) (hge:g≠0) (h:jQ w g s i) (hH:Handle w) (hE:0<=jg s i) (hb:0 < (kN s i).size) (ho:kE (kN s i)=false):Calls prog 235 #[.pointer (some ⟨g,0,none⟩)] w λe w'=>(∃p,e=Zc p)/\dQ g w w':=by
 have HT:=Hq (λw1 h h2=>vG g s i w1 hs h h2 hE);have HGM:=Hq (λw1 h=>FN (kN s i) (aEU (um s i) Aaj) w1 h);rw [Ez ho] at HGM;have HF:=Hq (λw1 h=>Nh g s (jg s i) w1 h);have H:=Hq (aJ h (au w (.cells (bX 0 0 0 0 0 ⟨#[]⟩ 0) 70)));have HH:=Hq hH;have hne:=kW _ hb;clear h hH hE hs hb ho;generalize jg s i=E at *;generalize kN s i=B at *;have hg2:w.heap.size≠g:=Aaa
 go_in
 go_wp2_with fail;refine(HT _ H (HH.below (au w _))).mono ?_;rintro e w1 ⟨rfl,hr1,hk1⟩;open avP in exact ahi
theorem adh (hs:s.size<=maxLen) (hg:g < w.heap.size) (hge:g≠0) (h:jQ w g s i) (hH:Handle w) (hE:0<=jg s i) (hb:0 < (kN s i).size) (ho:kE (kN s i)=true):Calls prog 235 #[.pointer (some ⟨g,0,none⟩)] w λe w'=>e= .returned (oJ (nJ (kN s i)))/\jQ w' g s (jg s i)/\dQ g w w':=by
 have HT:=Hq (λw1 h h2=>vG g s i w1 hs h h2 hE);have HGM:=Hq (λw1 h=>FN (kN s i) (aEU (um s i) Aaj) w1 h);unfold D9 at HGM;rw [ho] at HGM;have H:=Hq (aJ h (au w (.cells (bX 0 0 0 0 0 ⟨#[]⟩ 0) 70)));have HH:=Hq hH;have hne:=kW _ hb;clear h hH hE hs hb ho;generalize jg s i=E at *;generalize nJ (kN s i)=m at *;generalize kN s i=B at *;obtain⟨mK,mF,mT,mI,mL,mk,mN⟩:=m;have hg2:w.heap.size≠g:=Aaa
 go_in
 go_wp2_with fail;refine(HT _ H (HH.below (au w _))).mono ?_;rintro e w1 ⟨rfl,hr1,hk1⟩;have HR:=Hq (hk1.obj (aEP w _) hg2);open avN in exact ahi
structure OS (w0 W:World) (g o:Nat) (s:ByteArray) (i:Int) (cs:Array Value):Prop where
 rd:jQ W g s i
 res:W.heap[w0.heap.size]?=some (.cells (bV 0 0 ⟨#[]⟩ 0 0 0 0 0 0 ⟨#[]⟩ 0) 73 (0,0))
 op:W.heap[o]?=some (.cells cs 73 (0,0))
 keep:dQ g w0 W
 lo:w0.heap.size < o
theorem OS.step {g:Nat} {s:ByteArray} {i j:Int} (h:OS w0 W g o s i cs) (hr:jQ w' g s j) (hk:dQ g W w') (hg:g < w0.heap.size):OS w0 w' g o s j cs:=
 ⟨hr,hk.obj h.res Aaa,hk.obj h.op (by have:=h.lo;omega),h.keep.trans hk,h.lo⟩
theorem OS.below {g:Nat} {s:ByteArray} {i:Int} (h:OS w0 W g o s i cs) (hb:aH W w') (hg:g < w0.heap.size):OS w0 w' g o s i cs:=
 h.step (aJ h.rd hb) (dQ.of_below hb) hg
theorem dQ.setNew {g h i:Nat} {w:World} (k:dQ g w0 w) (hh:w0.heap.size<=h):dQ g w0 (w.setCell ⟨h,i,none⟩ v):=
 ⟨k.os,k.tape,k.output,by have:=k.size;simpa [World.setCell] using this,λx hx hg=>by
  have hne:x≠h:=Aaa
  rw [aFe _ _ _ _ hne]
  exact k.block x hx hg⟩
theorem OS.set {g:Nat} {s:ByteArray} {i:Int} (h:OS w0 W g o s i cs) (hg:g < w0.heap.size) (k:Nat) (v:Value):OS w0 (W.setCell ⟨o,k,none⟩ v) g o s i (cs.setIfInBounds k v):=by
 have hlo:=h.lo;exact⟨one_other h.rd Aaa,one_other h.res Aaa,blk_set h.op k v,h.keep.setNew Aaa,hlo⟩
theorem OS.tail {g:Nat} {s:ByteArray} {i:Int} {a0 a1 a2 a3 a4 a5 a6 a7 a8 a9 Oh b7 b8 b9 b10:Value} (h:OS w0 W g o s i #[a0,a1,a2,a3,a4,a5,a6,a7,a8,a9,Oh]) (hg:g < w0.heap.size):OS w0 (((((((W.setCell ⟨o,4,none⟩ b4).setCell ⟨o,5,none⟩ b5).setCell ⟨o,6,none⟩ b6).setCell ⟨o,7,none⟩ b7).setCell ⟨o,8,none⟩ b8).setCell ⟨o,9,none⟩ b9).setCell ⟨o,10,none⟩ b10) g o s i #[a0,a1,a2,a3,b4,b5,b6,b7,b8,b9,b10]:=by
 have h4:OS w0 (W.setCell ⟨o,4,none⟩ b4) g o s i #[a0,a1,a2,a3,b4,a5,a6,a7,a8,a9,Oh]:=h.set hg 4 b4;have h5:OS w0 ((W.setCell ⟨o,4,none⟩ b4).setCell ⟨o,5,none⟩ b5) g o s i #[a0,a1,a2,a3,b4,b5,a6,a7,a8,a9,Oh]:=h4.set hg 5 b5;have h6:OS w0 (((W.setCell ⟨o,4,none⟩ b4).setCell ⟨o,5,none⟩ b5).setCell ⟨o,6,none⟩ b6) g o s i #[a0,a1,a2,a3,b4,b5,b6,a7,a8,a9,Oh]:=h5.set hg 6 b6;have h7:OS w0 ((((W.setCell ⟨o,4,none⟩ b4).setCell ⟨o,5,none⟩ b5).setCell ⟨o,6,none⟩ b6).setCell ⟨o,7,none⟩ b7) g o s i #[a0,a1,a2,a3,b4,b5,b6,b7,a8,a9,Oh]:=h6.set hg 7 b7;have h8:OS w0 (((((W.setCell ⟨o,4,none⟩ b4).setCell ⟨o,5,none⟩ b5).setCell ⟨o,6,none⟩ b6).setCell ⟨o,7,none⟩ b7).setCell ⟨o,8,none⟩ b8) g o s i #[a0,a1,a2,a3,b4,b5,b6,b7,b8,a9,Oh]:=h7.set hg 8 b8;have h9:OS w0 ((((((W.setCell ⟨o,4,none⟩ b4).setCell ⟨o,5,none⟩ b5).setCell ⟨o,6,none⟩ b6).setCell ⟨o,7,none⟩ b7).setCell ⟨o,8,none⟩ b8).setCell ⟨o,9,none⟩ b9) g o s i #[a0,a1,a2,a3,b4,b5,b6,b7,b8,b9,Oh]:=h8.set hg 9 b9;have h10:OS w0 (((((((W.setCell ⟨o,4,none⟩ b4).setCell ⟨o,5,none⟩ b5).setCell ⟨o,6,none⟩ b6).setCell ⟨o,7,none⟩ b7).setCell ⟨o,8,none⟩ b8).setCell ⟨o,9,none⟩ b9).setCell ⟨o,10,none⟩ b10) g o s i #[a0,a1,a2,a3,b4,b5,b6,b7,b8,b9,b10]:=h9.set hg 10 b10;exact h10
theorem Handle.keep1 {g:Nat} {w:World} (h:Handle w) (hk:dQ g w w') (hg:g < w.heap.size) (hge:g≠0):Handle w':=PK h hk hg hge
theorem aDl (g:Nat) (s:ByteArray) (w:World) (hs:s.size<=maxLen) (hg:g < w.heap.size) (hge:g≠0) (h:jQ w g s 0) (hH:Handle w):Calls prog 212 #[.pointer (some ⟨g,0,none⟩)] w λe w'=>(lH s=true/\e= .returned (jX (opC s))\/lH s=false/\∃p,e=Zc p)/\dQ g w w':=by
 by_cases h0:s.size=0
 .have HK:=Hq (λw1 h=>Zf g s w1 h h0);have H:=Hq (aJ h (au w (.cells (bV 0 0 ⟨#[]⟩ 0 0 0 0 0 0 ⟨#[]⟩ 0) 73)));have hno:lH s=false:=by unfold lH;rw [aES Aaa];rfl
  have nA:=Hq hno;clear h hH hno;generalize lH s=OK at *;go_in
  go_wp2_with fail;refine(HK _ H).mono ?_;rintro e w1 ⟨rfl,hb1⟩;have HB:=Hq (dQ.of_below (g:=g) ((au w _).trans (hb1.mono Aac)));clear hb1;go_wp2_with fail;exact⟨rfl,.inr ⟨nA,_,rfl⟩,HB⟩
 have h1:0 < s.size:=Aaa
 have HK:=Hq (λw1 h=>UH g s w1 h h1);have aAc:=Hq (λw1 h hh hE=>KO g s 1 w1 hs h hh hE);have aAb:=Hq (λw1 h hh hE=>QM g s 1 w1 hs h hh hE);have aAp:=Hq (λw1 h hh hE=>vG g s (kJ s 1) w1 hs h hh hE);have aAo:=Hq (λw1 h hh hE=>KP g s (kJ s 1) w1 hs h hh hE);have aAe:Hid (∀w1:World,jQ w1 g s (jg s (kJ s 1))->Handle w1->0<=KD s->Calls prog 233 #[.pointer (some ⟨g,0,none⟩)] w1 λe w'=>e= .returned (.int .i64 (vF s (jg s (kJ s 1))))/\jQ w' g s (KD s)/\dQ g w1 w'):=λw1 h hh hE=>KO g s (jg s (kJ s 1)) w1 hs h hh hE
 have aAd:Hid (∀w1:World,jQ w1 g s (jg s (kJ s 1))->Handle w1->KD s < 0->Calls prog 233 #[.pointer (some ⟨g,0,none⟩)] w1 λe w'=>e=Zc (jg s (kJ s 1))/\aH w1 w'):=λw1 h hh hE=>QM g s (jg s (kJ s 1)) w1 hs h hh hE
 have HM:Hid (∀w1:World,g < w1.heap.size->jQ w1 g s (KD s)->Handle w1->Calls prog 235 #[.pointer (some ⟨g,0,none⟩)] w1 λe w'=>((0<=MW s/\rV s=true)/\e= .returned (oJ (nJ (BL s)))/\jQ w' g s (MW s)\/¬(0<=MW s/\rV s=true)/\∃p,e=Zc p)/\dQ g w1 w'):=by
  intro w1 hg1 h2 h3;by_cases hE:0<=MW s
  .by_cases hb:(BL s).size=0
   .refine(Zi g s (KD s) w1 hs hg1 h2 h3 hE hb).mono ?_;rintro e w' ⟨he,hr,hk⟩;exact⟨.inl ⟨⟨hE,by unfold rV;rw [aET hb];rfl⟩,he,hr⟩,hk⟩
   .cases ho:kE (BL s)
    .refine(Zg g s (KD s) w1 hs hg1 hge h2 h3 hE (by have:(BL s).size≠0:=hb;unfold BL at this;omega) ho).mono ?_;rintro e w' ⟨he,hk⟩;exact⟨.inr ⟨(λhx=>by have h9:=hx.2;unfold rV at h9;rw [aES hb,ho] at h9;cases h9),he⟩,hk⟩
    .refine(adh g s (KD s) w1 hs hg1 hge h2 h3 hE (by have:(BL s).size≠0:=hb;unfold BL at this;omega) ho).mono ?_;rintro e w' ⟨he,hr,hk⟩;exact⟨.inl ⟨⟨hE,by unfold rV;rw [ho];simp⟩,he,hr⟩,hk⟩
  .refine(Zh g s (KD s) w1 hs h2 h3 (by have:¬0<=MW s:=hE;unfold MW at this;omega)).mono ?_;rintro e w' ⟨he,hk⟩;exact⟨.inr ⟨λhx=>hE hx.1,he⟩,hk⟩
 have nH:=Hq (λw1=>YE (opC s) w1);have HF:=Hq (λw1 h=>Nh g s (MW s) w1 h)
 have HG:Hid (lH s=true↔MW s=s.size/\rV s=true/\bQ (opC s)=true):=by
  show lH s=true↔_
  unfold lH;rw [aET h1];simp[and_assoc]
 have HX:Hid (0<=MW s->0<=KD s/\0<=jg s (kJ s 1)/\0<=kJ s 1):=λhE=>by
  have g3:0<=KD s:=(iO (s:=s) (i:=KD s) hE).1
  have g2:=(lY (s:=s) (i:=jg s (kJ s 1)) g3).1
  exact⟨g3,g2,(iO (s:=s) (i:=kJ s 1) g2).1⟩
 have hC:opC s=⟨s[0].toNat,vF s 1,kN s (kJ s 1),vF s (jg s (kJ s 1)),nJ (BL s)⟩:=by unfold opC;rw [Me h1]
 rw [hC] at nH HG ⊢
 have nA:Hid (¬(0<=MW s/\rV s=true)->lH s=false):=λhx=>by
  rw [aGO]
  intro hy
  have:=HG.1 hy
  exact hx ⟨Aaa,this.2.1⟩
 have HH:=Hq hH;have H:=Hq (aJ h (au w (.cells (bV 0 0 ⟨#[]⟩ 0 0 0 0 0 0 ⟨#[]⟩ 0) 73)));clear h hH hC h0;generalize lH s=OK at *;generalize nJ (BL s)=m at *;generalize rV s=BO at *;open atj in exact agH
theorem aDe (s:ByteArray) (w:World) (hs:s.size<=maxLen) (hH:Handle w):Calls prog 196 #[.string s] w λe w'=>(lH s=true/\e= .returned (jX (opC s))\/lH s=false/\∃p,e=Zc p)/\aH w w':=by
 obtain⟨hP,hR,hB⟩:=gH w (.cells (bV 0 0 ⟨#[]⟩ 0 0 0 0 0 0 ⟨#[]⟩ 0) 73) (.cells #[.string s,.int .i64 0] 232)
 have hlt:0 < w.heap.size:=by
  exact ah2
 have HO:=Hq (aDl (w.heap.size+1) s _ hs Aac Aaa hR (hH.below hB));have HP:=Hq hP;have HB:=Hq hB;clear hP hR hB hs hH hlt;generalize opC s=oc at *;obtain⟨K,no,k,n,⟨mK,mF,mT,mI,mL,mk,mN⟩⟩:=oc;go_in
 go_wp2_with fail;refine HO.mono ?_;rintro e w1 ⟨hcase,hk⟩;have HR1:=Hq (hk.obj HP Aaa);have HB1:=Hq (hk.below HB Aaa HB.size);clear hk HO HP HB;rcases hcase with⟨hyes,rfl⟩|⟨hno,p,rfl⟩
 .obtain⟨⟨d0,d1,d2,d3,d4,d5,d6,d7,d8,d9,d10⟩,f0,f1,f2,f3,f4,f5,f6,f7,f8,f9,f10⟩:=aK HR1;go_wp2_with fail;refine iD (λW' hW'=>?_);obtain⟨⟨r0,r1,r2,r3,r4,r5,r6,r7,r8,r9,r10⟩,_⟩:=aK (show W'.heap[w.heap.size]?=some (.cells (bV K no k n mK mF mT mI mL mk mN) 73 (0,0)) by rw [hW'];exact lS HR1);have hbb:aH w W':=by rw [hW'];exact iK HB1 (aER _)
  exact aEY (v:= .agg (bV K no k n mK mF mT mI mL mk mN)) (by simp[results,results196,go_sem,r0,r1,r2,r3,r4,r5,r6,r7,r8,r9,r10]) rfl ⟨.inl ⟨hyes,rfl⟩,hbb⟩
 .go_wp2_with fail;exact⟨rfl,.inr ⟨hno,_,rfl⟩,HB1⟩
end Go.Proofs.YtbolgdleijjgfaaGreatDoor
