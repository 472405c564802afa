/- Parts. -/
import Derived.Test.YtfachhcijcjbpaaGreatDoorRw5
import Derived.Test.YtfachhcijcjbpaaGreatDoorRw7
namespace Go.Proofs.YtfachhcijcjbpaaGreatDoor
open Go.Proofs.Tryz
set_option maxHeartbeats 4000000
set_option maxRecDepth 100000
open Go.RowKit
open Mth
variable (a:Option Addr) (cap:Nat) (l:List Pu) {g k:Nat} {w w':World}
abbrev sK (w:World) (g:Nat) (l:List Pu):Prop:=GR.Blk fO 142 w g l
theorem sK.four {l:List Pu} (h:sK w g l) (i:Nat) (hi:i < l.length):w.cell? ⟨g,i*4,none⟩=some (.string l[i].k)/\w.cell? ⟨g,i*4+1,none⟩=some (.int .i64 l[i].m)/\w.cell? ⟨g,i*4+2,none⟩=some (.int .i64 l[i].f)/\w.cell? ⟨g,i*4+3,none⟩=some (.int .i64 l[i].s):=
 ⟨by simpa using GR.Blk.cell h aP i hi 0 Aaa,by simpa using GR.Blk.cell h aP i hi 1 Aaa,by simpa using GR.Blk.cell h aP i hi 2 Aaa,by simpa using GR.Blk.cell h aP i hi 3 Aaa⟩
theorem L9 {l:List Pu} (h:sK w g l) (hb:aG w w'):sK w' g l:=by
 have hl:=GR.Blk.lt h;unfold sK GR.Blk at *;rw [hb.block g hl];exact h
theorem Df (n:Nat) (hn:n<=2000000):∀W:World,(Instr.makeSlice 48 (.int .i64 (n:Int)) (.int .i64 (n:Int))).run prog W= .ok (.slice (some ⟨W.heap.size,0,none⟩) n n) (W.alloc (.cells (GR.flat fO (List.replicate n ⟨ByteArray.empty,0,0,0⟩)).toArray 142)):=by
 obtain⟨i0,hi,hz0,hz1,hz2⟩:=aEY FN;intro W;have h:=run_make (P:=prog) W 48 142 i0 (.agg (iK ByteArray.empty 0 0 0)) underlying48 hi hz0 .i64 .i64 (n:Int) (n:Int) Aaa Aaa Aat Aaa;rw [hz1] at h;have e:=GR.made_flat fO 4 aP Aaa ⟨ByteArray.empty,0,0,0⟩ (Value.agg (iK ByteArray.empty 0 0 0)).cells rfl n;exact ET
theorem af5 (p:Pu) (w:World):Calls prog 145 #[xO p] w (dK w (xO p)):=by
 obtain⟨k,m,f,s⟩:=p;go_in
 go_wp2_with fail;refine aEE (v:= .agg (iK k m f s)) (by simp[results,results145,go_sem]) rfl ⟨rfl,?_⟩;exact abu
theorem ae9 (p:Pu) (w:World):Calls prog 163 #[xO p,xO p] w (dK w (.bool true)):=by
 obtain⟨k,m,f,s⟩:=p;go_in
 exact abt
theorem Dk (l:List Pu) (z:Pu) (k:Nat) (hk:k < l.length):(l.take k++List.replicate (l.length - k) z).set k l[k]=l.take (k+1)++List.replicate (l.length - (k+1)) z:=by
 exact XU
theorem adP (w:World) (hl:l.length<=1048576) (ha:aH w a l):
 Calls prog 103 #[.slice a l.length cap] w λe w'=>e= .returned (.slice (some ⟨w.heap.size,0,none⟩) l.length l.length)/\sK w' w.heap.size l/\aG w w':=by
 have hmk:=Df l.length Aaa;have HA:=Hq ha;clear ha;go_in
 go_wp2_with fail;go_loopw [4] (λi wr=>∃k:Nat,k<=l.length/\i= .int .i64 k/\sK wr w.heap.size (l.take k++List.replicate (l.length - k) ⟨ByteArray.empty,0,0,0⟩)/\aG w wr) (λi _=>l.length - (intOf i).toNat)
 case atStart=>exact aiw
 case round=>
  open ao3 in exact IJ
theorem afY (p:Pu) (left:Int) (w:World) (h0:0<=left) (h1:left<=1048576) (hk:p.k.size<=maxLen):Calls prog 127 #[xO p,.int .i64 left] w λe w'=>e= .returned (.int .i64 (if (p.k.size:Int)<=left then left - p.k.size else -1))/\aG w w':=by
 obtain⟨k,m,f,s⟩:=p;dsimp only at hk ⊢;unfold maxLen at hk;by_cases hc:(k.size:Int)<=left
 .rw [aER hc];have hn:¬(left - (k.size:Int) < 0):=Aaa
  go_in
  exact XW
 .rw [aEG hc];have hn:left - (k.size:Int) < 0:=Aaa
  go_in
  exact XW
theorem abI (a b:Option Addr) (ca cb:Nat) (l:List Pu) (w:World) (hl:l.length<=1048600) (ha:aH w a l) (hb:aH w b l):
 Calls prog 121 #[.slice a l.length ca,.slice b l.length cb] w (dK w (.bool true)):=by
 have HA:=Hq ha;have HB:=Hq hb;clear ha hb;go_in
 go_wp2_with fail;go_loopw [5] (λi wr=>∃k:Nat,k<=l.length/\i= .int .i64 k/\aG w wr) (λi _=>l.length - (intOf i).toNat)
 case atStart=>exact vQ
 case round=>
  obtain⟨k,hk,rfl,hbel⟩:=hrel;have aO:=Hq hbel;clear hbel;by_cases hlt:k < l.length
  .obtain⟨g1,o1,rfl,hg1,s0,s1,s2,s3⟩:=aH.four (GR.At.below HA aO) k hlt;obtain⟨g2,o2,rfl,hg2,t0,t1,t2,t3⟩:=aH.four (GR.At.below HB aO) k hlt;generalize l[k]=pu at *;have xS:=Hq (λw1=>ae9 pu w1);obtain⟨pk,pm,pf,ps⟩:=pu;dsimp only at s0 s1 s2 s3 t0 t1 t2 t3;go_wp2_with fail
   go_region_held (λw'=>(w'.cell? ⟨g1,o1+k*4,none⟩=some (.string pk)/\w'.cell? ⟨g1,o1+k*4+1,none⟩=some (.int .i64 pm)/\w'.cell? ⟨g1,o1+k*4+2,none⟩=some (.int .i64 pf)/\w'.cell? ⟨g1,o1+k*4+3,none⟩=some (.int .i64 ps))/\w'.cell? ⟨g2,o2+k*4,none⟩=some (.string pk)/\w'.cell? ⟨g2,o2+k*4+1,none⟩=some (.int .i64 pm)/\w'.cell? ⟨g2,o2+k*4+2,none⟩=some (.int .i64 pf)/\w'.cell? ⟨g2,o2+k*4+3,none⟩=some (.int .i64 ps)) (go_keep)
    (first
     |(go_at_call 163;refine(xS _).mono ?_;rintro e w5 ⟨rfl,hb5⟩;have hb6:aG wr w5:=⟨hb5.os,hb5.tape,hb5.output,hb5.size,hb5.block⟩;clear hb5;have eO:=Hq (aO.trans (hb6.mono aO.size));have y0:=(hb6.cell (p:=⟨g1,o1+k*4,none⟩) hg1).trans s0;have y1:=(hb6.cell (p:=⟨g1,o1+k*4+1,none⟩) hg1).trans s1;have y2:=(hb6.cell (p:=⟨g1,o1+k*4+2,none⟩) hg1).trans s2;have y3:=(hb6.cell (p:=⟨g1,o1+k*4+3,none⟩) hg1).trans s3;have z0:=(hb6.cell (p:=⟨g2,o2+k*4,none⟩) hg2).trans t0;have z1:=(hb6.cell (p:=⟨g2,o2+k*4+1,none⟩) hg2).trans t1;have z2:=(hb6.cell (p:=⟨g2,o2+k*4+2,none⟩) hg2).trans t2;have z3:=(hb6.cell (p:=⟨g2,o2+k*4+3,none⟩) hg2).trans t3;clear hb6))
   all_goals
    go_wp2_with fail
    go_roundw
    case rel=>exact⟨k+1,Aaa,Aaf,eO⟩
    case measure=>simp[intOf];omega
  .exact ES
theorem ZI (a:Option Addr) (ca:Nat) (l:List Pu) (z0:Int) (w:World) (h0:0<=z0) (h1:z0<=1048576) (hl:l.length<=maxLen) (hks:∀p∈l,p.k.size<=maxLen) (ha:aH w a l):
 Calls prog 84 #[.slice a l.length ca,.int .i64 z0] w λe w'=>∃r:Int,e= .returned (.int .i64 r)/\aG w w'/\(r= -1\/0<=r/\r<=1048576/\l.length<=1048576/\∀p∈l,p.k.size<=1048576):=by
 have HA:=Hq ha;clear ha;unfold maxLen at hl;by_cases hbig:(l.length:Int)<=z0
 .have hn:¬(z0 - (l.length:Int) < 0):=Aaa
  go_in
  go_wp2_with fail;go_loopw [1,5] (λlf i wr=>∃(k:Nat) (z:Int),k<=l.length/\i= .int .i64 k/\lf= .int .i64 z/\0<=z/\z<=1048576/\(∀p∈l.take k,p.k.size<=1048576)/\aG w wr) (λ_ i _=>l.length - (intOf i).toNat)
  case atStart=>exact LV
  case round=>
   open an3 in exact LQ
 .have hn:z0 - (l.length:Int) < 0:=Aaa
  go_in
  exact Wz
theorem alc (n:Int) (w:World):Calls prog 198 #[.int .i64 n] w λe w'=>e= .returned (.bool (decide (yB n 0 1000000000)))/\w=w':=by
 by_cases h0:0<=n
 .by_cases h1:n<=1000000000
  .rw [aEy (show yB n 0 1000000000 from⟨h0,h1⟩)];exact aa9
  .rw [aEw (show¬yB n 0 1000000000 from λh=>h1 h.2)];exact aa9
 .rw [aEw (show¬yB n 0 1000000000 from λh=>h0 h.1)];exact aa9
theorem jY (n:Int) (b:Bool) (w:World) (h:qM n=b):Calls prog 198 #[.int .i64 n] w λe w'=>e= .returned (.bool b)/\w=w':=by
 have e:decide (yB n 0 1000000000)=b:=h;rw [<-e];exact alc n w
theorem Ag (s:ByteArray) (b:Bool) (w:World) (h:keyOk s.data.toList=b):Calls prog 195 #[.string s] w λe w'=>e= .returned (.bool b)/\w=w':=by
 rw [<-h];exact Ki s w
theorem acy (p:Pu) (w:World):Calls prog 193 #[xO p] w (dK w (.bool (gZ p))):=by
 obtain⟨pk,pm,pf,ps⟩:=p;cases hk:keyOk pk.data.toList
 case' false=>
  have HP:=Hq (show gZ ⟨pk,pm,pf,ps⟩=false by simp[gZ,hk]);have HK:=Hq (λw1=>Ag pk false w1 hk);clear hk;go_in
  go_wp2_with (go_at_call 195;refine(HK _).mono ?_;rintro e w1 ⟨rfl,rfl⟩)
  exact Pj
 have HK:=Hq (λw1=>Ag pk true w1 hk);cases h1:qM pm
 case' false=>
  have HP:=Hq (show gZ ⟨pk,pm,pf,ps⟩=false by simp[gZ,h1]);have H1:=Hq (λw1=>jY pm false w1 h1);clear hk h1;go_in
  go_wp2_with (first|(go_at_call 195;refine(HK _).mono ?_;rintro e w1 ⟨rfl,rfl⟩)|(go_at_call 198;refine(H1 _).mono ?_;rintro e w1 ⟨rfl,rfl⟩))
  exact Pj
 have H1:=Hq (λw1=>jY pm true w1 h1);cases h2:qM pf
 case' false=>
  have HP:=Hq (show gZ ⟨pk,pm,pf,ps⟩=false by simp[gZ,h2]);have H2:=Hq (λw1=>jY pf false w1 h2);clear hk h1 h2;go_in
  go_wp2_with (first|(go_at_call 195;refine(HK _).mono ?_;rintro e w1 ⟨rfl,rfl⟩)|(go_at_call_of 198 pm;refine(H1 _).mono ?_;rintro e w1 ⟨rfl,rfl⟩)|(go_at_call_of 198 pf;refine(H2 _).mono ?_;rintro e w1 ⟨rfl,rfl⟩))
  exact Pj
 have H2:=Hq (λw1=>jY pf true w1 h2);cases h3:qM ps
 case' false=>
  have HP:=Hq (show gZ ⟨pk,pm,pf,ps⟩=false by simp[gZ,h3]);have H3:=Hq (λw1=>jY ps false w1 h3);clear hk h1 h2 h3;go_in
  go_wp2_with (first|(go_at_call 195;refine(HK _).mono ?_;rintro e w1 ⟨rfl,rfl⟩)|(go_at_call_of 198 pm;refine(H1 _).mono ?_;rintro e w1 ⟨rfl,rfl⟩)|(go_at_call_of 198 pf;refine(H2 _).mono ?_;rintro e w1 ⟨rfl,rfl⟩)|(go_at_call_of 198 ps;refine(H3 _).mono ?_;rintro e w1 ⟨rfl,rfl⟩))
  exact Pj
 have H3:=Hq (λw1=>jY ps true w1 h3);have g2:0<=pf/\pf<=1000000000:=aEQ h2;have g3:0<=ps/\ps<=1000000000:=aEQ h3;obtain⟨g20,g21⟩:=g2;obtain⟨g30,g31⟩:=g3;have HP:=Hq (show gZ ⟨pk,pm,pf,ps⟩=qM (pf+ps) by simp[gZ,hk,h1,h2,h3]);have H4:=Hq (λw1=>jY (pf+ps) _ w1 rfl);clear hk h1 h2 h3;go_in
 go_wp2_with (first|(go_at_call 195;refine(HK _).mono ?_;rintro e w1 ⟨rfl,rfl⟩)|(go_at_call_of 198 pm;refine(H1 _).mono ?_;rintro e w1 ⟨rfl,rfl⟩)|(go_at_call_of 198 pf;refine(H2 _).mono ?_;rintro e w1 ⟨rfl,rfl⟩)|(go_at_call_of 198 ps;refine(H3 _).mono ?_;rintro e w1 ⟨rfl,rfl⟩)|(go_at_call_of 198 (pf+ps);refine(H4 _).mono ?_;rintro e w1 ⟨rfl,rfl⟩))
 exact Pj
theorem pV (p:Pu) (b:Bool) (w:World) (h:gZ p=b):Calls prog 193 #[xO p] w (dK w (.bool b)):=by
 rw [<-h];exact acy p w
theorem QD (a b:ByteArray):Op.bytesLess b.toList a.toList= !sle a b:=by
 cases h:sle a b
 .exact(qg _ _).2 ((nK a b).1 h)
 .cases h2:Op.bytesLess b.toList a.toList
  .rfl
  .rw [(nK a b).2 ((qg _ _).1 h2)] at h;cases h
theorem uD (w:World) (hl:l.length<=1048600) (ha:aH w a l):
 Calls prog 178 #[.slice a l.length cap] w (dK w (.bool (iZ l))):=by
 by_cases h20:l.length<=20
 .have HA:=Hq ha;clear ha;have aBW:decide (20 < (l.length:Int))=false:=aEw Aaa;go_in
  go_wp2_with fail;go_loopw [10] (λi wr=>∃k:Nat,k<=l.length/\i= .int .i64 k/\(List.range k).all (nU l)=true/\aG w wr) (λi _=>l.length - (intOf i).toNat)
  case atStart=>exact abm
  case round=>
   obtain⟨k,hk,rfl,hall,hbel⟩:=hrel;have aO:=Hq hbel;have kS:=Hq hall;clear hall hbel;by_cases hlt:k < l.length
   .open ap3 in exact awu
   .exact ahI
 .have HF:=Hq (show iZ l=false by unfold iZ;simp[h20]);have aBW:decide (20 < (l.length:Int))=true:=aEy Aaa;clear ha;go_in
  go_wp2_with fail;go_ret;exact⟨aF HF.symm,aEK _ _⟩
theorem FM (p:Pu) (w:World) (hk:p.k.size<=1048576):Calls prog 150 #[xO p] w (dK w (xO p)):=by
 obtain⟨pk,pm,pf,ps⟩:=p;have HC:=Hq (λw1=>clone pk w1 (by dsimp only at hk;omega));clear hk;go_in
 go_wp2_with fail;refine(HC _).mono ?_;rintro e w1 ⟨rfl,hb1⟩;obtain⟨hA,hB,hz,hbel⟩:=Fo.two_blocks hb1;have HB:=Hq hB;have aO:=Hq hbel;obtain⟨⟨p0,p1,p2,p3⟩,q0,q1,q2,q3⟩:=fG hA;obtain⟨⟨r0,r1,r2,r3⟩,s0,s1,s2,s3⟩:=fG hB;clear hb1 hA hB hbel;go_wp2_with fail;clear r0 r1 r2 r3;refine Fo.bodyPost_at (λW' hW'=>?_);obtain⟨⟨r0,r1,r2,r3⟩,_⟩:=fG (show W'.heap[w.heap.size+1]?=some (.cells (iK pk pm pf ps) 142 (0,0)) by rw [hW'];exact Fo.four_set (Fo.one_other HB Aaa));have hbb:aG w W':=by rw [hW'];exact Fo.four_below (aO.setCell (p:=⟨w.heap.size,0,none⟩) (aEx _) _) Aaa
 refine aEE (v:= .agg (iK pk pm pf ps)) (by simp[results,results150,go_sem,r0,r1,r2,r3]) rfl ⟨rfl,hbb⟩
theorem Ql (key:ByteArray) (w:World) (hl:l.length<=1048600) (hks:∀p∈l,p.k.size<=1048576) (hkey:key.size<=1048576) (ha:aH w a l):
 Calls prog 249 #[.slice a l.length cap,.string key] w (dK w (xO (aD l key))):=by
 have HA:=Hq ha;have Ti:=Hq hks;have jr:=Hq (λw1=>clone key w1 Aaa);clear ha hks;go_in
 go_wp2_with fail;go_loopw [9] (λi wr=>∃k:Nat,k<=l.length/\i= .int .i64 k/\(l.take k).find? (λp=>p.k.toList == key.toList)=none/\aG w wr/\wr.heap[w.heap.size]?=some (.cells (iK ⟨#[]⟩ 0 0 0) 142 (0,0))) (λi _=>l.length - (intOf i).toNat)
 case atStart=>exact⟨0,aEN _,rfl,rfl,aV w _,aEu w _⟩
 case round=>
  obtain⟨k,hk,rfl,hnone,hbel,hblk⟩:=hrel;have HN:=Hq hnone;have aO:=Hq hbel;have H7:=Hq hblk;have afm:=Fo.lt_of_blk hblk;clear hnone hbel hblk;by_cases hlt:k < l.length
  .obtain⟨g,off,rfl,hgw,c0,c1,c2,c3⟩:=aH.four (GR.At.below HA aO) k hlt;have hfs:=J9 (λp=>p.k.toList == key.toList) l k hlt HN;have hkk:=ah Ti l[k] (aEL hlt);cases hf:l[k].k.toList == key.toList
   .have HX:=Hq (hfs.2 hf);clear hfs HN hkk;open avx in exact aaX
   .have HX:=Hq (show aD l key=l[k] by unfold aD;rw [hfs.1 hf];rfl);clear hfs HN;open avd in exact ahq
  .open ant in exact xE
def xC (w:World) (a:Option Addr) (g:Nat) (l:List Pu):Prop:=∀i (hi:i < l.length),a=some ⟨g,0,none⟩/\g < w.heap.size/\∀j,j < 4->w.cell? ⟨g,i*4+j,none⟩=(fO l[i])[j]?/\w.frozen? ⟨g,i*4+j,none⟩=false
theorem xC.at {a:Option Addr} {l:List Pu} (h:xC w a g l):aH w a l:=λi hi=>
 ⟨g,0,(h i hi).1,(h i hi).2.1,λj hj=>by rw [aFq];exact((h i hi).2.2 j hj).1⟩
theorem xC.of_blk {l:List Pu} (h:sK w g l):xC w (some ⟨g,0,none⟩) g l:=λi hi=>
 ⟨rfl,GR.Blk.lt h,λj hj=>⟨GR.Blk.cell h aP i hi j hj,GR.Blk.free h _⟩⟩
theorem xC.nil {a:Option Addr}:xC w a g []:=λi hi=>by simp at hi
theorem xC.below {a:Option Addr} {l:List Pu} (h:xC w a g l) (hb:aG w w'):xC w' a g l:=λi hi=>by
 obtain⟨e,hg,hc⟩:=h i hi;exact⟨e,aEH hg hb.size,λj hj=>⟨(hb.cell (p:=⟨g,i*4+j,none⟩) hg).trans (hc j hj).1,(hb.frozen (p:=⟨g,i*4+j,none⟩) hg).trans (hc j hj).2⟩⟩
theorem xC.keeps {a:Option Addr} {g':Nat} {l:List Pu} (h:xC w a g l) (hk:Keeps g' w w') (hne:l=[]\/g≠g'):xC w' a g l:=by
 rcases hne with rfl|hne
 .exact xC.nil
 .intro i hi;obtain⟨e,hg,hc⟩:=h i hi;exact ah1
theorem xC.four {a:Option Addr} {l:List Pu} (h:xC w a g l) (i:Nat) (hi:i < l.length):a=some ⟨g,0,none⟩/\g < w.heap.size/\(w.cell? ⟨g,i*4,none⟩=some (.string l[i].k)/\w.cell? ⟨g,i*4+1,none⟩=some (.int .i64 l[i].m)/\w.cell? ⟨g,i*4+2,none⟩=some (.int .i64 l[i].f)/\w.cell? ⟨g,i*4+3,none⟩=some (.int .i64 l[i].s))/\w.frozen? ⟨g,i*4,none⟩=false/\w.frozen? ⟨g,i*4+1,none⟩=false/\w.frozen? ⟨g,i*4+2,none⟩=false/\w.frozen? ⟨g,i*4+3,none⟩=false:=by
 exact axK
theorem uZ:∀(vs:List Value) (w:World) (o:Nat),k < o\/o+vs.length<=k->(GR.setW w g o vs).cell? ⟨g,k,none⟩=w.cell? ⟨g,k,none⟩:=by
 exact ahQ
theorem Gs {g:Nat}:∀(vs:List Value) (w:World) (o:Nat),(∀j,j < vs.length->∃v,w.cell? ⟨g,o+j,none⟩=some v)->∀j,j < vs.length->(GR.setW w g o vs).cell? ⟨g,o+j,none⟩=vs[j]?:=by
 intro vs;induction vs with
 |nil=>intro w o _ j hj;simp at hj
 |cons v vs ih=>
  intro w o h j hj;cases j with
  |zero=>
   obtain⟨v0,hv0⟩:=h 0 Aac;rw [aF2] at hv0 ⊢;refine(uZ vs (w.setCell ⟨g,o,none⟩ v) (o+1) Aaa).trans ?_;rw [aGu _ _ _ hv0];rfl
  |succ j=>
   exact axF
theorem Rm:∀(vs:List Value) (w:World) (o:Nat),(GR.setW w g o vs).frozen? ⟨g,k,none⟩=w.frozen? ⟨g,k,none⟩:=by
 exact aik
theorem Zu:∀(vs:List Value) (w:World) (o:Nat),(GR.setW w g o vs).heap.size=w.heap.size:=by
 exact aiq
theorem xC.set {a:Option Addr} {l:List Pu} (h:xC w a g l) (k:Nat) (x:Pu) (hk:k < l.length):xC (GR.setW w g (k*4) (fO x)) a g (l.set k x):=λi hi=>by
 have hi':i < l.length:=Aas
 obtain⟨e,hg,hc⟩:=h i hi';refine⟨e,by rw [Zu];exact hg,λj hj=>⟨?_,by rw [Rm];exact(hc j hj).2⟩⟩;by_cases hik:i=k
 .subst hik
  rw [Gs (fO x) w (i*4) (λj' hj'=>by
   have hj4:j' < 4:=by rw [aP] at hj';exact hj'
   have h1:=(hc j' hj4).1
   rw [aEB (by rw [aP];exact hj4)] at h1
   exact⟨_,h1⟩) j (by rw [aP];exact hj)]
  simp
 .rw [uZ (fO x) w (k*4) (by rw [aP];omega),(hc j hj).1,aE4 Aaa]
open Go.RowKit Go.Maps
theorem PI (w:World) (hl:l.length<=1048600) (ha:aH w a l):
 Calls prog 149 #[.slice a l.length cap] w λe w'=>∃v,e= .returned v/\w'.ownsRow w.heap.size 142 4 v l.length (GR.flat fO l)/\aG w w':=by
 obtain⟨i0,hi,hz0,hz1,hz2⟩:=aEY FN;have q22:∀(w:World) (a:Option Addr) (n c n' c':Nat),(binOp .eql 48 (.slice a n c) (.slice none n' c')).run prog w= .ok (.bool a.isNone) w:=λw a n c n' c'=>aFT w _ _ a n c n' c' underlying48
 open au1 in exact ahk
theorem xC.of_own {B:Nat} {v:Value} {l:List Pu} (h:w.ownsRow B 142 4 v l.length (GR.flat fO l)) (hB:B<=w.heap.size):∃a c g,v= .slice a l.length c/\B<=g/\xC w a g l:=by
 obtain⟨a,c,rfl,hat⟩:=GR.own_at aP h;rcases h.2 with⟨hv,hn⟩|⟨g,cap,cur,hv,hg,hblk,_⟩
 .have hl:l=[]:=aEZ hn;subst hl;exact⟨_,_,w.heap.size,rfl,hB,xC.nil⟩
 .cases hv
  refine⟨_,_,g,rfl,hg,λi hi=>?_⟩;exact ah2
theorem Qe (w:World) (hl:l.length<=1048576) (hks:∀p∈l,p.k.size<=1048576) (ha:aH w a l):
 Calls prog 110 #[.slice a l.length cap] w λe w'=>∃a' c' g,w.heap.size<=g/\e= .returned (.slice a' l.length c')/\xC w' a' g l/\aG w w':=by
 have jr:=Hq (PI a cap l w Aaa ha);have Ti:=Hq hks;clear ha hks;go_in
 go_wp2_with fail;refine jr.mono ?_;rintro e w1 ⟨v,rfl,hown,hb1⟩;obtain⟨a',c',g,rfl,hg,hW⟩:=xC.of_own hown hb1.size;have HW:=Hq hW;have HB1:=Hq hb1;clear hown hb1 hW jr;go_wp2_with fail;go_loopw [10] (λi wr=>∃k:Nat,k<=l.length/\i= .int .i64 k/\xC wr a' g l/\aG w wr) (λi _=>l.length - (intOf i).toNat)
 case atStart=>exact⟨0,aEN _,rfl,HW,HB1⟩
 case round=>
  obtain⟨k,hk,rfl,hB,hbel⟩:=hrel;have HB:=Hq hB;have aO:=Hq hbel;clear hB hbel;by_cases hlt:k < l.length
  .obtain⟨e0,hgw,⟨q0,q1,q2,q3⟩,_⟩:=xC.four HB k hlt;subst e0;have hkk:=ah Ti l[k] (aEL hlt);have hse:l.set k l[k]=l:=List.set_getElem_self hlt;have HSE:=Hq hse;clear hse;open ave in exact ahq
  .open anu in exact xE
end Go.Proofs.YtfachhcijcjbpaaGreatDoor
